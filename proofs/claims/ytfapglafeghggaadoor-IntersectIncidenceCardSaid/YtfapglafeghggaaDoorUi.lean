/- The law Incidence of layer 6. -/
import Derived.Test.YtfapglafeghggaaDoorUe
import Derived.Test.YtfapglafeghggaaDoorUg
import Derived.Test.YtfapglafeghggaaDoorVd
set_option linter.unusedVariables false
set_option linter.unusedSimpArgs false
namespace Go.Proofs.YtfapglafeghggaaDoor
open Go.RowKit NM SX
set_option maxRecDepth 100000 in
theorem Incidence_w (l_0 : Bool) (l_1 : ByteArray) (l_2 : Bool) (l_3 : ByteArray) (l_4 : Bool) (l_5 : ByteArray) (l_6 : Bool) (l_7 : ByteArray) (m_0 : Bool) (m_1 : ByteArray) (m_2 : Bool) (m_3 : ByteArray) (m_4 : Bool) (m_5 : ByteArray) (m_6 : Bool) (m_7 : ByteArray) (n_0 : Bool) (n_1 : ByteArray) (n_2 : Bool) (n_3 : ByteArray) (n_4 : Bool) (n_5 : ByteArray) (n_6 : Bool) (n_7 : ByteArray) (a_0 : Bool) (a_1 : ByteArray) (a_2 : Bool) (a_3 : ByteArray) (a_4 : Bool) (a_5 : ByteArray) (a_6 : Bool) (a_7 : ByteArray) (b_0 : Bool) (b_1 : ByteArray) (b_2 : Bool) (b_3 : ByteArray) (b_4 : Bool) (b_5 : ByteArray) (b_6 : Bool) (b_7 : ByteArray) (w : World) (hT : TabC w) (h : 0 < (((wide6 l_0 l_1 l_2 l_3 l_4 l_5 l_6 l_7) + (wide6 m_0 m_1 m_2 m_3 m_4 m_5 m_6 m_7)) + (wide6 n_0 n_1 n_2 n_3 n_4 n_5 n_6 n_7))) :
    Calls Tryd.prog 3 #[.agg #[.bool l_0, .string l_1, .bool l_2, .string l_3, .bool l_4, .string l_5, .bool l_6, .string l_7, .bool m_0, .string m_1, .bool m_2, .string m_3, .bool m_4, .string m_5, .bool m_6, .string m_7, .bool n_0, .string n_1, .bool n_2, .string n_3, .bool n_4, .string n_5, .bool n_6, .string n_7], .agg #[.bool a_0, .string a_1, .bool a_2, .string a_3, .bool a_4, .string a_5, .bool a_6, .string a_7], .agg #[.bool b_0, .string b_1, .bool b_2, .string b_3, .bool b_4, .string b_5, .bool b_6, .string b_7]] w fun e w' => e = .returned (.bool true) ∧ Below w.heap.size w w' := by
  have bl := wide6_bd l_0 l_1 l_2 l_3 l_4 l_5 l_6 l_7
  have bm := wide6_bd m_0 m_1 m_2 m_3 m_4 m_5 m_6 m_7
  have bn := wide6_bd n_0 n_1 n_2 n_3 n_4 n_5 n_6 n_7
  exact SX.run (w := w) (.bool l_0 :: .string l_1 :: .bool l_2 :: .string l_3 :: .bool l_4 :: .string l_5 :: .bool l_6 :: .string l_7 :: .bool m_0 :: .string m_1 :: .bool m_2 :: .string m_3 :: .bool m_4 :: .string m_5 :: .bool m_6 :: .string m_7 :: .bool n_0 :: .string n_1 :: .bool n_2 :: .string n_3 :: .bool n_4 :: .string n_5 :: .bool n_6 :: .string n_7 :: .bool a_0 :: .string a_1 :: .bool a_2 :: .string a_3 :: .bool a_4 :: .string a_5 :: .bool a_6 :: .string a_7 :: .bool b_0 :: .string b_1 :: .bool b_2 :: .string b_3 :: .bool b_4 :: .string b_5 :: .bool b_6 :: .string b_7 :: .int .i64 (wide6 l_0 l_1 l_2 l_3 l_4 l_5 l_6 l_7) :: .int .i64 (wide6 m_0 m_1 m_2 m_3 m_4 m_5 m_6 m_7) :: .int .i64 ((wide6 l_0 l_1 l_2 l_3 l_4 l_5 l_6 l_7) + (wide6 m_0 m_1 m_2 m_3 m_4 m_5 m_6 m_7)) :: .int .i64 (wide6 n_0 n_1 n_2 n_3 n_4 n_5 n_6 n_7) :: .int .i64 (((wide6 l_0 l_1 l_2 l_3 l_4 l_5 l_6 l_7) + (wide6 m_0 m_1 m_2 m_3 m_4 m_5 m_6 m_7)) + (wide6 n_0 n_1 n_2 n_3 n_4 n_5 n_6 n_7)) :: .bool true :: .bool true :: []) [.b true] [.ga 0 24, .ga 24 8, .ga 32 8] 40 (.one (.ca 46)) [.call 5 [.ga 0 8] (.one (.ca 40)) [], .call 5 [.ga 8 8] (.one (.ca 41)) [], .op2 false .add (.pa 40) (.pa 41) 42, .call 5 [.ga 16 8] (.one (.ca 43)) [], .op2 false .add (.pa 42) (.pa 43) 44, .op2 false .gtr (.pa 44) (.p (.lit (.int .i64 0))) 45, .isB 45 true, .call 7 [] (.one (.ca 46)) []] Tryd.func3 (by kernel_rfl) rfl (by kernel_rfl) rfl (by kernel_rfl)
    ⟨fun γ w' _ _ => Wide6_any l_0 l_1 l_2 l_3 l_4 l_5 l_6 l_7 w',
     fun γ w' _ _ => Wide6_any m_0 m_1 m_2 m_3 m_4 m_5 m_6 m_7 w',
     congrArg (fun z => some (Value.int .i64 z)) (by rw [IntKind.wrap_i64]; omega : IntKind.wrap .i64 ((wide6 l_0 l_1 l_2 l_3 l_4 l_5 l_6 l_7) + (wide6 m_0 m_1 m_2 m_3 m_4 m_5 m_6 m_7)) = ((wide6 l_0 l_1 l_2 l_3 l_4 l_5 l_6 l_7) + (wide6 m_0 m_1 m_2 m_3 m_4 m_5 m_6 m_7))),
     fun γ w' _ _ => Wide6_any n_0 n_1 n_2 n_3 n_4 n_5 n_6 n_7 w',
     congrArg (fun z => some (Value.int .i64 z)) (by rw [IntKind.wrap_i64]; omega : IntKind.wrap .i64 (((wide6 l_0 l_1 l_2 l_3 l_4 l_5 l_6 l_7) + (wide6 m_0 m_1 m_2 m_3 m_4 m_5 m_6 m_7)) + (wide6 n_0 n_1 n_2 n_3 n_4 n_5 n_6 n_7)) = (((wide6 l_0 l_1 l_2 l_3 l_4 l_5 l_6 l_7) + (wide6 m_0 m_1 m_2 m_3 m_4 m_5 m_6 m_7)) + (wide6 n_0 n_1 n_2 n_3 n_4 n_5 n_6 n_7))),
     congrArg (fun z => some (Value.bool z)) (decide_eq_true h : decide ((((wide6 l_0 l_1 l_2 l_3 l_4 l_5 l_6 l_7) + (wide6 m_0 m_1 m_2 m_3 m_4 m_5 m_6 m_7)) + (wide6 n_0 n_1 n_2 n_3 n_4 n_5 n_6 n_7)) > (0 : Int)) = true),
     rfl,
     fun γ w' bw _ => fixed6_any w' (hT.later bw)⟩
set_option maxRecDepth 100000 in
theorem Incidence_g (l_0 : Bool) (l_1 : ByteArray) (l_2 : Bool) (l_3 : ByteArray) (l_4 : Bool) (l_5 : ByteArray) (l_6 : Bool) (l_7 : ByteArray) (m_0 : Bool) (m_1 : ByteArray) (m_2 : Bool) (m_3 : ByteArray) (m_4 : Bool) (m_5 : ByteArray) (m_6 : Bool) (m_7 : ByteArray) (n_0 : Bool) (n_1 : ByteArray) (n_2 : Bool) (n_3 : ByteArray) (n_4 : Bool) (n_5 : ByteArray) (n_6 : Bool) (n_7 : ByteArray) (a_0 : Bool) (a_1 : ByteArray) (a_2 : Bool) (a_3 : ByteArray) (a_4 : Bool) (a_5 : ByteArray) (a_6 : Bool) (a_7 : ByteArray) (b_0 : Bool) (b_1 : ByteArray) (b_2 : Bool) (b_3 : ByteArray) (b_4 : Bool) (b_5 : ByteArray) (b_6 : Bool) (b_7 : ByteArray) (w : World) (hT : TabC w) (h0 : ¬ 0 < (((wide6 l_0 l_1 l_2 l_3 l_4 l_5 l_6 l_7) + (wide6 m_0 m_1 m_2 m_3 m_4 m_5 m_6 m_7)) + (wide6 n_0 n_1 n_2 n_3 n_4 n_5 n_6 n_7))) (h : ¬ (a_1.size ≤ 6 ∧ a_3.size ≤ 6 ∧ a_5.size ≤ 6 ∧ a_7.size ≤ 6 ∧ b_1.size ≤ 6 ∧ b_3.size ≤ 6 ∧ b_5.size ≤ 6 ∧ b_7.size ≤ 6)) :
    Calls Tryd.prog 3 #[.agg #[.bool l_0, .string l_1, .bool l_2, .string l_3, .bool l_4, .string l_5, .bool l_6, .string l_7, .bool m_0, .string m_1, .bool m_2, .string m_3, .bool m_4, .string m_5, .bool m_6, .string m_7, .bool n_0, .string n_1, .bool n_2, .string n_3, .bool n_4, .string n_5, .bool n_6, .string n_7], .agg #[.bool a_0, .string a_1, .bool a_2, .string a_3, .bool a_4, .string a_5, .bool a_6, .string a_7], .agg #[.bool b_0, .string b_1, .bool b_2, .string b_3, .bool b_4, .string b_5, .bool b_6, .string b_7]] w fun e w' => e = .returned (.bool true) ∧ Below w.heap.size w w' := by
  have bl := wide6_bd l_0 l_1 l_2 l_3 l_4 l_5 l_6 l_7
  have bm := wide6_bd m_0 m_1 m_2 m_3 m_4 m_5 m_6 m_7
  have bn := wide6_bd n_0 n_1 n_2 n_3 n_4 n_5 n_6 n_7
  exact SX.run (w := w) (.bool l_0 :: .string l_1 :: .bool l_2 :: .string l_3 :: .bool l_4 :: .string l_5 :: .bool l_6 :: .string l_7 :: .bool m_0 :: .string m_1 :: .bool m_2 :: .string m_3 :: .bool m_4 :: .string m_5 :: .bool m_6 :: .string m_7 :: .bool n_0 :: .string n_1 :: .bool n_2 :: .string n_3 :: .bool n_4 :: .string n_5 :: .bool n_6 :: .string n_7 :: .bool a_0 :: .string a_1 :: .bool a_2 :: .string a_3 :: .bool a_4 :: .string a_5 :: .bool a_6 :: .string a_7 :: .bool b_0 :: .string b_1 :: .bool b_2 :: .string b_3 :: .bool b_4 :: .string b_5 :: .bool b_6 :: .string b_7 :: .int .i64 (wide6 l_0 l_1 l_2 l_3 l_4 l_5 l_6 l_7) :: .int .i64 (wide6 m_0 m_1 m_2 m_3 m_4 m_5 m_6 m_7) :: .int .i64 ((wide6 l_0 l_1 l_2 l_3 l_4 l_5 l_6 l_7) + (wide6 m_0 m_1 m_2 m_3 m_4 m_5 m_6 m_7)) :: .int .i64 (wide6 n_0 n_1 n_2 n_3 n_4 n_5 n_6 n_7) :: .int .i64 (((wide6 l_0 l_1 l_2 l_3 l_4 l_5 l_6 l_7) + (wide6 m_0 m_1 m_2 m_3 m_4 m_5 m_6 m_7)) + (wide6 n_0 n_1 n_2 n_3 n_4 n_5 n_6 n_7)) :: .bool false :: .int .i64 1 :: .bool true :: .bool true :: []) [.b false, .b true] [.ga 0 24, .ga 24 8, .ga 32 8] 40 (.one (.ca 48)) [.call 5 [.ga 0 8] (.one (.ca 40)) [], .call 5 [.ga 8 8] (.one (.ca 41)) [], .op2 false .add (.pa 40) (.pa 41) 42, .call 5 [.ga 16 8] (.one (.ca 43)) [], .op2 false .add (.pa 42) (.pa 43) 44, .op2 false .gtr (.pa 44) (.p (.lit (.int .i64 0))) 45, .isB 45 false, .call 6 [.c (.p (.slc 3 0 2 2))] (.one (.ca 46)) [(3073, .pa 24), (3074, .pa 25), (3075, .pa 26), (3076, .pa 27), (3077, .pa 28), (3078, .pa 29), (3079, .pa 30), (3080, .pa 31), (3081, .pa 32), (3082, .pa 33), (3083, .pa 34), (3084, .pa 35), (3085, .pa 36), (3086, .pa 37), (3087, .pa 38), (3088, .pa 39)], .op2 false .gtr (.pa 46) (.p (.lit (.int .i64 0))) 47, .isB 47 true, .call 7 [] (.one (.ca 48)) []] Tryd.func3 (by kernel_rfl) rfl (by kernel_rfl) rfl (by kernel_rfl)
    ⟨fun γ w' _ _ => Wide6_any l_0 l_1 l_2 l_3 l_4 l_5 l_6 l_7 w',
     fun γ w' _ _ => Wide6_any m_0 m_1 m_2 m_3 m_4 m_5 m_6 m_7 w',
     congrArg (fun z => some (Value.int .i64 z)) (by rw [IntKind.wrap_i64]; omega : IntKind.wrap .i64 ((wide6 l_0 l_1 l_2 l_3 l_4 l_5 l_6 l_7) + (wide6 m_0 m_1 m_2 m_3 m_4 m_5 m_6 m_7)) = ((wide6 l_0 l_1 l_2 l_3 l_4 l_5 l_6 l_7) + (wide6 m_0 m_1 m_2 m_3 m_4 m_5 m_6 m_7))),
     fun γ w' _ _ => Wide6_any n_0 n_1 n_2 n_3 n_4 n_5 n_6 n_7 w',
     congrArg (fun z => some (Value.int .i64 z)) (by rw [IntKind.wrap_i64]; omega : IntKind.wrap .i64 (((wide6 l_0 l_1 l_2 l_3 l_4 l_5 l_6 l_7) + (wide6 m_0 m_1 m_2 m_3 m_4 m_5 m_6 m_7)) + (wide6 n_0 n_1 n_2 n_3 n_4 n_5 n_6 n_7)) = (((wide6 l_0 l_1 l_2 l_3 l_4 l_5 l_6 l_7) + (wide6 m_0 m_1 m_2 m_3 m_4 m_5 m_6 m_7)) + (wide6 n_0 n_1 n_2 n_3 n_4 n_5 n_6 n_7))),
     congrArg (fun z => some (Value.bool z)) (decide_eq_false h0 : decide ((((wide6 l_0 l_1 l_2 l_3 l_4 l_5 l_6 l_7) + (wide6 m_0 m_1 m_2 m_3 m_4 m_5 m_6 m_7)) + (wide6 n_0 n_1 n_2 n_3 n_4 n_5 n_6 n_7)) > (0 : Int)) = false),
     rfl,
     fun γ w' _ hm => by have h_ := Great6_any (some ⟨γ 3, 0, none⟩) [⟨a_0, a_1, a_2, a_3, a_4, a_5, a_6, a_7⟩, ⟨b_0, b_1, b_2, b_3, b_4, b_5, b_6, b_7⟩] 2 2 w' rfl (by simp) (RdP.of (SX.mem_at (b := 3) (l := [.pa 24, .pa 25, .pa 26, .pa 27, .pa 28, .pa 29, .pa 30, .pa 31, .pa 32, .pa 33, .pa 34, .pa 35, .pa 36, .pa 37, .pa 38, .pa 39]) hm rfl)); rw [greatI_yes (fun k => h ⟨(k ⟨a_0, a_1, a_2, a_3, a_4, a_5, a_6, a_7⟩ (by simp)).1, (k ⟨a_0, a_1, a_2, a_3, a_4, a_5, a_6, a_7⟩ (by simp)).2.1, (k ⟨a_0, a_1, a_2, a_3, a_4, a_5, a_6, a_7⟩ (by simp)).2.2.1, (k ⟨a_0, a_1, a_2, a_3, a_4, a_5, a_6, a_7⟩ (by simp)).2.2.2, (k ⟨b_0, b_1, b_2, b_3, b_4, b_5, b_6, b_7⟩ (by simp)).1, (k ⟨b_0, b_1, b_2, b_3, b_4, b_5, b_6, b_7⟩ (by simp)).2.1, (k ⟨b_0, b_1, b_2, b_3, b_4, b_5, b_6, b_7⟩ (by simp)).2.2.1, (k ⟨b_0, b_1, b_2, b_3, b_4, b_5, b_6, b_7⟩ (by simp)).2.2.2⟩)] at h_; exact h_,
     congrArg (fun z => some (Value.bool z)) (by decide : decide ((1 : Int) > (0 : Int)) = true),
     rfl,
     fun γ w' bw _ => fixed6_any w' (hT.later bw)⟩
set_option maxRecDepth 100000 in
theorem Incidence_00 (l_0 : Bool) (l_1 : ByteArray) (l_2 : Bool) (l_3 : ByteArray) (l_4 : Bool) (l_5 : ByteArray) (l_6 : Bool) (l_7 : ByteArray) (m_0 : Bool) (m_1 : ByteArray) (m_2 : Bool) (m_3 : ByteArray) (m_4 : Bool) (m_5 : ByteArray) (m_6 : Bool) (m_7 : ByteArray) (n_0 : Bool) (n_1 : ByteArray) (n_2 : Bool) (n_3 : ByteArray) (n_4 : Bool) (n_5 : ByteArray) (n_6 : Bool) (n_7 : ByteArray) (a_0 : Bool) (a_1 : ByteArray) (a_2 : Bool) (a_3 : ByteArray) (a_4 : Bool) (a_5 : ByteArray) (a_6 : Bool) (a_7 : ByteArray) (b_0 : Bool) (b_1 : ByteArray) (b_2 : Bool) (b_3 : ByteArray) (b_4 : Bool) (b_5 : ByteArray) (b_6 : Bool) (b_7 : ByteArray) (w : World) (hT : TabC w) (hl_1 : l_1.size ≤ 6) (hl_3 : l_3.size ≤ 6) (hl_5 : l_5.size ≤ 6) (hl_7 : l_7.size ≤ 6) (hm_1 : m_1.size ≤ 6) (hm_3 : m_3.size ≤ 6) (hm_5 : m_5.size ≤ 6) (hm_7 : m_7.size ≤ 6) (hn_1 : n_1.size ≤ 6) (hn_3 : n_3.size ≤ 6) (hn_5 : n_5.size ≤ 6) (hn_7 : n_7.size ≤ 6) (ha_1 : a_1.size ≤ 6) (ha_3 : a_3.size ≤ 6) (ha_5 : a_5.size ≤ 6) (ha_7 : a_7.size ≤ 6) (hb_1 : b_1.size ≤ 6) (hb_3 : b_3.size ≤ 6) (hb_5 : b_5.size ≤ 6) (hb_7 : b_7.size ≤ 6) (gl : ¬ flatF (Z4.mk (iv l_0 l_1) (iv l_2 l_3) (iv l_4 l_5) (iv l_6 l_7))) (gm : ¬ flatF (Z4.mk (iv m_0 m_1) (iv m_2 m_3) (iv m_4 m_5) (iv m_6 m_7))) (gn : ¬ flatF (Z4.mk (iv n_0 n_1) (iv n_2 n_3) (iv n_4 n_5) (iv n_6 n_7))) (h0 : ¬ 0 < (((wide6 l_0 l_1 l_2 l_3 l_4 l_5 l_6 l_7) + (wide6 m_0 m_1 m_2 m_3 m_4 m_5 m_6 m_7)) + (wide6 n_0 n_1 n_2 n_3 n_4 n_5 n_6 n_7))) (hd : detF (prim (Z4.mk (iv l_0 l_1) (iv l_2 l_3) (iv l_4 l_5) (iv l_6 l_7))) (prim (Z4.mk (iv m_0 m_1) (iv m_2 m_3) (iv m_4 m_5) (iv m_6 m_7))) (prim (Z4.mk (iv n_0 n_1) (iv n_2 n_3) (iv n_4 n_5) (iv n_6 n_7))) = 0) (kb : byF (prim (Z4.mk (iv l_0 l_1) (iv l_2 l_3) (iv l_4 l_5) (iv l_6 l_7))) (pt ⟨iv a_0 a_1, iv a_2 a_3, iv a_4 a_5, iv a_6 a_7⟩) (pt ⟨iv b_0 b_1, iv b_2 b_3, iv b_4 b_5, iv b_6 b_7⟩) = 0) :
    Calls Tryd.prog 3 #[.agg #[.bool l_0, .string l_1, .bool l_2, .string l_3, .bool l_4, .string l_5, .bool l_6, .string l_7, .bool m_0, .string m_1, .bool m_2, .string m_3, .bool m_4, .string m_5, .bool m_6, .string m_7, .bool n_0, .string n_1, .bool n_2, .string n_3, .bool n_4, .string n_5, .bool n_6, .string n_7], .agg #[.bool a_0, .string a_1, .bool a_2, .string a_3, .bool a_4, .string a_5, .bool a_6, .string a_7], .agg #[.bool b_0, .string b_1, .bool b_2, .string b_3, .bool b_4, .string b_5, .bool b_6, .string b_7]] w fun e w' => e = .returned (.bool true) ∧ Below w.heap.size w w' := by
  obtain ⟨l, hl, rl⟩ : ∃ q, IsF (.agg #[.bool l_0, .string l_1, .bool l_2, .string l_3, .bool l_4, .string l_5, .bool l_6, .string l_7]) q 6 ∧ q = ⟨iv l_0 l_1, iv l_2 l_3, iv l_4 l_5, iv l_6 l_7⟩ := ⟨⟨_, _, _, _⟩, ⟨_, _, _, _, _, _, _, _, rfl, rfl, hl_1, rfl, hl_3, rfl, hl_5, rfl, hl_7⟩, rfl⟩
  have zl := hl.sz
  obtain ⟨m, hm, rm⟩ : ∃ q, IsF (.agg #[.bool m_0, .string m_1, .bool m_2, .string m_3, .bool m_4, .string m_5, .bool m_6, .string m_7]) q 6 ∧ q = ⟨iv m_0 m_1, iv m_2 m_3, iv m_4 m_5, iv m_6 m_7⟩ := ⟨⟨_, _, _, _⟩, ⟨_, _, _, _, _, _, _, _, rfl, rfl, hm_1, rfl, hm_3, rfl, hm_5, rfl, hm_7⟩, rfl⟩
  have zm := hm.sz
  obtain ⟨n, hn, rn⟩ : ∃ q, IsF (.agg #[.bool n_0, .string n_1, .bool n_2, .string n_3, .bool n_4, .string n_5, .bool n_6, .string n_7]) q 6 ∧ q = ⟨iv n_0 n_1, iv n_2 n_3, iv n_4 n_5, iv n_6 n_7⟩ := ⟨⟨_, _, _, _⟩, ⟨_, _, _, _, _, _, _, _, rfl, rfl, hn_1, rfl, hn_3, rfl, hn_5, rfl, hn_7⟩, rfl⟩
  have zn := hn.sz
  obtain ⟨aq, haq, raq⟩ : ∃ q, IsF (.agg #[.bool a_0, .string a_1, .bool a_2, .string a_3, .bool a_4, .string a_5, .bool a_6, .string a_7]) q 6 ∧ q = ⟨iv a_0 a_1, iv a_2 a_3, iv a_4 a_5, iv a_6 a_7⟩ := ⟨⟨_, _, _, _⟩, ⟨_, _, _, _, _, _, _, _, rfl, rfl, ha_1, rfl, ha_3, rfl, ha_5, rfl, ha_7⟩, rfl⟩
  have zaq := haq.sz
  obtain ⟨a, ea⟩ : ∃ p, p = pt aq := ⟨_, rfl⟩
  have ha : IsP (.agg #[.bool a_0, .string a_1, .bool a_2, .string a_3, .bool a_4, .string a_5, .bool a_6, .string a_7]) a 6 := by rw [ea]; exact haq.pt
  have za := ha.sz (by decide)
  have ra : a = pt ⟨iv a_0 a_1, iv a_2 a_3, iv a_4 a_5, iv a_6 a_7⟩ := by rw [ea, raq]
  obtain ⟨bq, hbq, rbq⟩ : ∃ q, IsF (.agg #[.bool b_0, .string b_1, .bool b_2, .string b_3, .bool b_4, .string b_5, .bool b_6, .string b_7]) q 6 ∧ q = ⟨iv b_0 b_1, iv b_2 b_3, iv b_4 b_5, iv b_6 b_7⟩ := ⟨⟨_, _, _, _⟩, ⟨_, _, _, _, _, _, _, _, rfl, rfl, hb_1, rfl, hb_3, rfl, hb_5, rfl, hb_7⟩, rfl⟩
  have zbq := hbq.sz
  obtain ⟨b, eb⟩ : ∃ p, p = pt bq := ⟨_, rfl⟩
  have hb : IsP (.agg #[.bool b_0, .string b_1, .bool b_2, .string b_3, .bool b_4, .string b_5, .bool b_6, .string b_7]) b 6 := by rw [eb]; exact hbq.pt
  have zb := hb.sz (by decide)
  have rb : b = pt ⟨iv b_0 b_1, iv b_2 b_3, iv b_4 b_5, iv b_6 b_7⟩ := by rw [eb, rbq]
  have bl := wide6_bd l_0 l_1 l_2 l_3 l_4 l_5 l_6 l_7
  have bm := wide6_bd m_0 m_1 m_2 m_3 m_4 m_5 m_6 m_7
  have bn := wide6_bd n_0 n_1 n_2 n_3 n_4 n_5 n_6 n_7
  rw [← rl] at gl
  rw [← rm] at gm
  rw [← rn] at gn
  rw [← rl, ← rm, ← rn] at hd
  rw [← rl, ← ra, ← rb] at kb
  have f1 : Fk (prim l) 6 := Fk.up ((Fk.prim zl)) (by decide)
  have f2 : Fk (prim m) 6 := Fk.up ((Fk.prim zm)) (by decide)
  have f3 : Fk (prim n) 6 := Fk.up ((Fk.prim zn)) (by decide)
  have f4 : Pk a 6 := Pk.up (za) (by decide)
  have f5 : Pk b 6 := Pk.up (zb) (by decide)
  exact SX.run (w := w) (List.flatten [(.bool l_0 :: .string l_1 :: .bool l_2 :: .string l_3 :: .bool l_4 :: .string l_5 :: .bool l_6 :: .string l_7 :: .bool m_0 :: .string m_1 :: .bool m_2 :: .string m_3 :: .bool m_4 :: .string m_5 :: .bool m_6 :: .string m_7 :: .bool n_0 :: .string n_1 :: .bool n_2 :: .string n_3 :: .bool n_4 :: .string n_5 :: .bool n_6 :: .string n_7 :: .bool a_0 :: .string a_1 :: .bool a_2 :: .string a_3 :: .bool a_4 :: .string a_5 :: .bool a_6 :: .string a_7 :: .bool b_0 :: .string b_1 :: .bool b_2 :: .string b_3 :: .bool b_4 :: .string b_5 :: .bool b_6 :: .string b_7 :: .int .i64 (wide6 l_0 l_1 l_2 l_3 l_4 l_5 l_6 l_7) :: .int .i64 (wide6 m_0 m_1 m_2 m_3 m_4 m_5 m_6 m_7) :: .int .i64 ((wide6 l_0 l_1 l_2 l_3 l_4 l_5 l_6 l_7) + (wide6 m_0 m_1 m_2 m_3 m_4 m_5 m_6 m_7)) :: .int .i64 (wide6 n_0 n_1 n_2 n_3 n_4 n_5 n_6 n_7) :: .int .i64 (((wide6 l_0 l_1 l_2 l_3 l_4 l_5 l_6 l_7) + (wide6 m_0 m_1 m_2 m_3 m_4 m_5 m_6 m_7)) + (wide6 n_0 n_1 n_2 n_3 n_4 n_5 n_6 n_7)) :: .bool false :: .int .i64 0 :: .bool false :: []), fc (prim l), fc (prim m), fc (prim n), pc a, pc b, (.bool false :: .string ⟨#[]⟩ :: .bool false :: .string ⟨#[]⟩ :: .bool false :: .string ⟨#[]⟩ :: .bool false :: .string ⟨#[]⟩ :: .bool false :: .bool false :: .string ⟨#[]⟩ :: .bool false :: .string ⟨#[]⟩ :: .bool false :: .string ⟨#[]⟩ :: .bool false :: .string ⟨#[]⟩ :: .bool false :: .bool false :: .bool false :: .bool false :: .string ⟨#[]⟩ :: .bool false :: .string ⟨#[]⟩ :: .bool false :: .string ⟨#[]⟩ :: .bool false :: .string ⟨#[]⟩ :: .bool false :: .bool true :: .bool true :: .int .i64 (sideF (prim l) a) :: .int .i64 (sideF (prim l) b) :: .bool true :: [])]) [.b false, .b false, .b false, .b false, .b false, .b true, .b true] [.ga 0 24, .ga 24 8, .ga 32 8] 40 (.one (.ca 121)) (.call 5 [.ga 0 8] (.one (.ca 40)) [] :: .call 5 [.ga 8 8] (.one (.ca 41)) [] :: .op2 false .add (.pa 40) (.pa 41) 42 :: .call 5 [.ga 16 8] (.one (.ca 43)) [] :: .op2 false .add (.pa 42) (.pa 43) 44 :: .op2 false .gtr (.pa 44) (.p (.lit (.int .i64 0))) 45 :: .isB 45 false :: .call 6 [.c (.p (.slc 3 0 2 2))] (.one (.ca 46)) [(3073, .pa 24), (3074, .pa 25), (3075, .pa 26), (3076, .pa 27), (3077, .pa 28), (3078, .pa 29), (3079, .pa 30), (3080, .pa 31), (3081, .pa 32), (3082, .pa 33), (3083, .pa 34), (3084, .pa 35), (3085, .pa 36), (3086, .pa 37), (3087, .pa 38), (3088, .pa 39)] :: .op2 false .gtr (.pa 46) (.p (.lit (.int .i64 0))) 47 :: .isB 47 false :: .call 8 [.ga 0 8] (.one (.ga 48 8)) [] :: .call 8 [.ga 8 8] (.one (.ga 56 8)) [] :: .call 8 [.ga 16 8] (.one (.ga 64 8)) [] :: .call 9 [.ga 24 8] (.one (.ga 72 8)) [] :: .call 9 [.ga 32 8] (.one (.ga 80 8)) [] :: .call 10 [.ga 48 8, .ga 56 8, .ga 64 8] (.tup [.ga 88 8, .ca 96]) [] :: .call 10 [.ga 64 8, .ga 48 8, .ga 56 8] (.tup [.ga 97 8, .ca 105]) [] :: .op2 true .neq (.pa 96) (.pa 105) 106 :: .isB 106 false :: .eqs true [.b, .s, .b, .s, .b, .s, .b, .s] [.pa 88, .pa 89, .pa 90, .pa 91, .pa 92, .pa 93, .pa 94, .pa 95] [.pa 97, .pa 98, .pa 99, .pa 100, .pa 101, .pa 102, .pa 103, .pa 104] 107 :: .isB 107 false :: .isB 96 false :: .call 12 [.ga 48 8, .ga 72 8, .ga 80 8] (.tup [.ga 108 8, .ca 116]) [] :: .op1 .not (.pa 116) 117 :: .isB 117 true :: .call 7 [] (.one (.ca 118)) [] :: .isB 118 true :: .call 11 [.ga 48 8, .ga 72 8] (.one (.ca 119)) [] :: .call 11 [.ga 48 8, .ga 80 8] (.one (.ca 120)) [] :: .op2 false .eql (.pa 119) (.pa 120) 121 :: []) Tryd.func3 (by kernel_rfl) rfl (by kernel_rfl) rfl (by kernel_rfl)
    ⟨fun γ w' _ _ => Wide6_any l_0 l_1 l_2 l_3 l_4 l_5 l_6 l_7 w',
     fun γ w' _ _ => Wide6_any m_0 m_1 m_2 m_3 m_4 m_5 m_6 m_7 w',
     congrArg (fun z => some (Value.int .i64 z)) (by rw [IntKind.wrap_i64]; omega : IntKind.wrap .i64 ((wide6 l_0 l_1 l_2 l_3 l_4 l_5 l_6 l_7) + (wide6 m_0 m_1 m_2 m_3 m_4 m_5 m_6 m_7)) = ((wide6 l_0 l_1 l_2 l_3 l_4 l_5 l_6 l_7) + (wide6 m_0 m_1 m_2 m_3 m_4 m_5 m_6 m_7))),
     fun γ w' _ _ => Wide6_any n_0 n_1 n_2 n_3 n_4 n_5 n_6 n_7 w',
     congrArg (fun z => some (Value.int .i64 z)) (by rw [IntKind.wrap_i64]; omega : IntKind.wrap .i64 (((wide6 l_0 l_1 l_2 l_3 l_4 l_5 l_6 l_7) + (wide6 m_0 m_1 m_2 m_3 m_4 m_5 m_6 m_7)) + (wide6 n_0 n_1 n_2 n_3 n_4 n_5 n_6 n_7)) = (((wide6 l_0 l_1 l_2 l_3 l_4 l_5 l_6 l_7) + (wide6 m_0 m_1 m_2 m_3 m_4 m_5 m_6 m_7)) + (wide6 n_0 n_1 n_2 n_3 n_4 n_5 n_6 n_7))),
     congrArg (fun z => some (Value.bool z)) (decide_eq_false h0 : decide ((((wide6 l_0 l_1 l_2 l_3 l_4 l_5 l_6 l_7) + (wide6 m_0 m_1 m_2 m_3 m_4 m_5 m_6 m_7)) + (wide6 n_0 n_1 n_2 n_3 n_4 n_5 n_6 n_7)) > (0 : Int)) = false),
     rfl,
     fun γ w' _ hm => by have h_ := Great6_any (some ⟨γ 3, 0, none⟩) [⟨a_0, a_1, a_2, a_3, a_4, a_5, a_6, a_7⟩, ⟨b_0, b_1, b_2, b_3, b_4, b_5, b_6, b_7⟩] 2 2 w' rfl (by simp) (RdP.of (SX.mem_at (b := 3) (l := [.pa 24, .pa 25, .pa 26, .pa 27, .pa 28, .pa 29, .pa 30, .pa 31, .pa 32, .pa 33, .pa 34, .pa 35, .pa 36, .pa 37, .pa 38, .pa 39]) hm rfl)); rw [greatI_no (by intro p hp; simp only [List.mem_cons, List.not_mem_nil, or_false] at hp; rcases hp with rfl | rfl <;> exact ⟨by assumption, by assumption, by assumption, by assumption⟩)] at h_; exact h_,
     congrArg (fun z => some (Value.bool z)) (by decide : decide ((0 : Int) > (0 : Int)) = false),
     rfl,
     fun γ w' _ _ => form6_n hl (by decide) w' gl,
     fun γ w' _ _ => form6_n hm (by decide) w' gm,
     fun γ w' _ _ => form6_n hn (by decide) w' gn,
     fun γ w' _ _ => p4Norm ha (by decide) w',
     fun γ w' _ _ => p4Norm hb (by decide) w',
     fun γ w' bw _ => by have h := inThree_any f1 (by decide) f2 (by decide) f3 (by decide) w' (hT.later bw) (prim_flat gl) (prim_flat gm) (prim_flat gn); rw [threeV, if_pos hd] at h; exact h,
     fun γ w' bw _ => by have h := inThree_any f3 (by decide) f1 (by decide) f2 (by decide) w' (hT.later bw) (prim_flat gn) (prim_flat gl) (prim_flat gm); rw [threeV, det_turn, if_pos hd] at h; exact h,
     congrArg (fun z => some (Value.bool z)) (by first | rfl | exact beq_self_eq_true _ | (rw [line_par kb]; exact beq_self_eq_true _) : (!(false == false)) = false),
     rfl,
     ⟨rfl, rfl, eqv_yes (eqL_F (Z4.mk (0 : Int) (0 : Int) (0 : Int) (0 : Int)) (Z4.mk (0 : Int) (0 : Int) (0 : Int) (0 : Int))) (by first | rfl | exact beq_self_eq_true _ | (rw [line_par kb]; exact beq_self_eq_true _)) rfl⟩,
     rfl,
     rfl,
     fun γ w' bw _ => by have h := inLine_any f1 (by decide) f4 (by decide) f5 (by decide) w' (hT.later bw) (prim_flat gl); rw [lineV, if_pos kb] at h; exact h,
     congrArg (fun z => some (Value.bool z)) (by first | rfl | exact beq_self_eq_true _ | (rw [line_par kb]; exact beq_self_eq_true _) : (!false) = true),
     rfl,
     fun γ w' bw _ => fixed6_any w' (hT.later bw),
     rfl,
     fun γ w' _ _ => plSide f1 (by decide) f4 (by decide) w',
     fun γ w' _ _ => plSide f1 (by decide) f5 (by decide) w',
     congrArg (fun z => some (Value.bool z)) (by first | rfl | exact beq_self_eq_true _ | (rw [line_par kb]; exact beq_self_eq_true _) : ((sideF (prim l) a) == (sideF (prim l) b)) = true)⟩
set_option maxRecDepth 100000 in
theorem Incidence_01 (l_0 : Bool) (l_1 : ByteArray) (l_2 : Bool) (l_3 : ByteArray) (l_4 : Bool) (l_5 : ByteArray) (l_6 : Bool) (l_7 : ByteArray) (m_0 : Bool) (m_1 : ByteArray) (m_2 : Bool) (m_3 : ByteArray) (m_4 : Bool) (m_5 : ByteArray) (m_6 : Bool) (m_7 : ByteArray) (n_0 : Bool) (n_1 : ByteArray) (n_2 : Bool) (n_3 : ByteArray) (n_4 : Bool) (n_5 : ByteArray) (n_6 : Bool) (n_7 : ByteArray) (a_0 : Bool) (a_1 : ByteArray) (a_2 : Bool) (a_3 : ByteArray) (a_4 : Bool) (a_5 : ByteArray) (a_6 : Bool) (a_7 : ByteArray) (b_0 : Bool) (b_1 : ByteArray) (b_2 : Bool) (b_3 : ByteArray) (b_4 : Bool) (b_5 : ByteArray) (b_6 : Bool) (b_7 : ByteArray) (w : World) (hT : TabC w) (hl_1 : l_1.size ≤ 6) (hl_3 : l_3.size ≤ 6) (hl_5 : l_5.size ≤ 6) (hl_7 : l_7.size ≤ 6) (hm_1 : m_1.size ≤ 6) (hm_3 : m_3.size ≤ 6) (hm_5 : m_5.size ≤ 6) (hm_7 : m_7.size ≤ 6) (hn_1 : n_1.size ≤ 6) (hn_3 : n_3.size ≤ 6) (hn_5 : n_5.size ≤ 6) (hn_7 : n_7.size ≤ 6) (ha_1 : a_1.size ≤ 6) (ha_3 : a_3.size ≤ 6) (ha_5 : a_5.size ≤ 6) (ha_7 : a_7.size ≤ 6) (hb_1 : b_1.size ≤ 6) (hb_3 : b_3.size ≤ 6) (hb_5 : b_5.size ≤ 6) (hb_7 : b_7.size ≤ 6) (gl : ¬ flatF (Z4.mk (iv l_0 l_1) (iv l_2 l_3) (iv l_4 l_5) (iv l_6 l_7))) (gm : ¬ flatF (Z4.mk (iv m_0 m_1) (iv m_2 m_3) (iv m_4 m_5) (iv m_6 m_7))) (gn : ¬ flatF (Z4.mk (iv n_0 n_1) (iv n_2 n_3) (iv n_4 n_5) (iv n_6 n_7))) (h0 : ¬ 0 < (((wide6 l_0 l_1 l_2 l_3 l_4 l_5 l_6 l_7) + (wide6 m_0 m_1 m_2 m_3 m_4 m_5 m_6 m_7)) + (wide6 n_0 n_1 n_2 n_3 n_4 n_5 n_6 n_7))) (hd : detF (prim (Z4.mk (iv l_0 l_1) (iv l_2 l_3) (iv l_4 l_5) (iv l_6 l_7))) (prim (Z4.mk (iv m_0 m_1) (iv m_2 m_3) (iv m_4 m_5) (iv m_6 m_7))) (prim (Z4.mk (iv n_0 n_1) (iv n_2 n_3) (iv n_4 n_5) (iv n_6 n_7))) = 0) (kb : byF (prim (Z4.mk (iv l_0 l_1) (iv l_2 l_3) (iv l_4 l_5) (iv l_6 l_7))) (pt ⟨iv a_0 a_1, iv a_2 a_3, iv a_4 a_5, iv a_6 a_7⟩) (pt ⟨iv b_0 b_1, iv b_2 b_3, iv b_4 b_5, iv b_6 b_7⟩) ≠ 0) :
    Calls Tryd.prog 3 #[.agg #[.bool l_0, .string l_1, .bool l_2, .string l_3, .bool l_4, .string l_5, .bool l_6, .string l_7, .bool m_0, .string m_1, .bool m_2, .string m_3, .bool m_4, .string m_5, .bool m_6, .string m_7, .bool n_0, .string n_1, .bool n_2, .string n_3, .bool n_4, .string n_5, .bool n_6, .string n_7], .agg #[.bool a_0, .string a_1, .bool a_2, .string a_3, .bool a_4, .string a_5, .bool a_6, .string a_7], .agg #[.bool b_0, .string b_1, .bool b_2, .string b_3, .bool b_4, .string b_5, .bool b_6, .string b_7]] w fun e w' => e = .returned (.bool true) ∧ Below w.heap.size w w' := by
  obtain ⟨l, hl, rl⟩ : ∃ q, IsF (.agg #[.bool l_0, .string l_1, .bool l_2, .string l_3, .bool l_4, .string l_5, .bool l_6, .string l_7]) q 6 ∧ q = ⟨iv l_0 l_1, iv l_2 l_3, iv l_4 l_5, iv l_6 l_7⟩ := ⟨⟨_, _, _, _⟩, ⟨_, _, _, _, _, _, _, _, rfl, rfl, hl_1, rfl, hl_3, rfl, hl_5, rfl, hl_7⟩, rfl⟩
  have zl := hl.sz
  obtain ⟨m, hm, rm⟩ : ∃ q, IsF (.agg #[.bool m_0, .string m_1, .bool m_2, .string m_3, .bool m_4, .string m_5, .bool m_6, .string m_7]) q 6 ∧ q = ⟨iv m_0 m_1, iv m_2 m_3, iv m_4 m_5, iv m_6 m_7⟩ := ⟨⟨_, _, _, _⟩, ⟨_, _, _, _, _, _, _, _, rfl, rfl, hm_1, rfl, hm_3, rfl, hm_5, rfl, hm_7⟩, rfl⟩
  have zm := hm.sz
  obtain ⟨n, hn, rn⟩ : ∃ q, IsF (.agg #[.bool n_0, .string n_1, .bool n_2, .string n_3, .bool n_4, .string n_5, .bool n_6, .string n_7]) q 6 ∧ q = ⟨iv n_0 n_1, iv n_2 n_3, iv n_4 n_5, iv n_6 n_7⟩ := ⟨⟨_, _, _, _⟩, ⟨_, _, _, _, _, _, _, _, rfl, rfl, hn_1, rfl, hn_3, rfl, hn_5, rfl, hn_7⟩, rfl⟩
  have zn := hn.sz
  obtain ⟨aq, haq, raq⟩ : ∃ q, IsF (.agg #[.bool a_0, .string a_1, .bool a_2, .string a_3, .bool a_4, .string a_5, .bool a_6, .string a_7]) q 6 ∧ q = ⟨iv a_0 a_1, iv a_2 a_3, iv a_4 a_5, iv a_6 a_7⟩ := ⟨⟨_, _, _, _⟩, ⟨_, _, _, _, _, _, _, _, rfl, rfl, ha_1, rfl, ha_3, rfl, ha_5, rfl, ha_7⟩, rfl⟩
  have zaq := haq.sz
  obtain ⟨a, ea⟩ : ∃ p, p = pt aq := ⟨_, rfl⟩
  have ha : IsP (.agg #[.bool a_0, .string a_1, .bool a_2, .string a_3, .bool a_4, .string a_5, .bool a_6, .string a_7]) a 6 := by rw [ea]; exact haq.pt
  have za := ha.sz (by decide)
  have ra : a = pt ⟨iv a_0 a_1, iv a_2 a_3, iv a_4 a_5, iv a_6 a_7⟩ := by rw [ea, raq]
  obtain ⟨bq, hbq, rbq⟩ : ∃ q, IsF (.agg #[.bool b_0, .string b_1, .bool b_2, .string b_3, .bool b_4, .string b_5, .bool b_6, .string b_7]) q 6 ∧ q = ⟨iv b_0 b_1, iv b_2 b_3, iv b_4 b_5, iv b_6 b_7⟩ := ⟨⟨_, _, _, _⟩, ⟨_, _, _, _, _, _, _, _, rfl, rfl, hb_1, rfl, hb_3, rfl, hb_5, rfl, hb_7⟩, rfl⟩
  have zbq := hbq.sz
  obtain ⟨b, eb⟩ : ∃ p, p = pt bq := ⟨_, rfl⟩
  have hb : IsP (.agg #[.bool b_0, .string b_1, .bool b_2, .string b_3, .bool b_4, .string b_5, .bool b_6, .string b_7]) b 6 := by rw [eb]; exact hbq.pt
  have zb := hb.sz (by decide)
  have rb : b = pt ⟨iv b_0 b_1, iv b_2 b_3, iv b_4 b_5, iv b_6 b_7⟩ := by rw [eb, rbq]
  have bl := wide6_bd l_0 l_1 l_2 l_3 l_4 l_5 l_6 l_7
  have bm := wide6_bd m_0 m_1 m_2 m_3 m_4 m_5 m_6 m_7
  have bn := wide6_bd n_0 n_1 n_2 n_3 n_4 n_5 n_6 n_7
  rw [← rl] at gl
  rw [← rm] at gm
  rw [← rn] at gn
  rw [← rl, ← rm, ← rn] at hd
  rw [← rl, ← ra, ← rb] at kb
  have onl := line_on kb
  have f1 : Fk (prim l) 6 := Fk.up ((Fk.prim zl)) (by decide)
  have f2 : Fk (prim m) 6 := Fk.up ((Fk.prim zm)) (by decide)
  have f3 : Fk (prim n) 6 := Fk.up ((Fk.prim zn)) (by decide)
  have f4 : Pk a 6 := Pk.up (za) (by decide)
  have f5 : Pk b 6 := Pk.up (zb) (by decide)
  have f6 : Pk (lineF (prim l) a b) 474 := Pk.up ((Pk.line f1 f4 f5)) (by decide)
  have f7 : Fk (negF (prim l)) 6 := Fk.up ((Fk.neg f1)) (by decide)
  exact SX.run (w := w) (List.flatten [(.bool l_0 :: .string l_1 :: .bool l_2 :: .string l_3 :: .bool l_4 :: .string l_5 :: .bool l_6 :: .string l_7 :: .bool m_0 :: .string m_1 :: .bool m_2 :: .string m_3 :: .bool m_4 :: .string m_5 :: .bool m_6 :: .string m_7 :: .bool n_0 :: .string n_1 :: .bool n_2 :: .string n_3 :: .bool n_4 :: .string n_5 :: .bool n_6 :: .string n_7 :: .bool a_0 :: .string a_1 :: .bool a_2 :: .string a_3 :: .bool a_4 :: .string a_5 :: .bool a_6 :: .string a_7 :: .bool b_0 :: .string b_1 :: .bool b_2 :: .string b_3 :: .bool b_4 :: .string b_5 :: .bool b_6 :: .string b_7 :: .int .i64 (wide6 l_0 l_1 l_2 l_3 l_4 l_5 l_6 l_7) :: .int .i64 (wide6 m_0 m_1 m_2 m_3 m_4 m_5 m_6 m_7) :: .int .i64 ((wide6 l_0 l_1 l_2 l_3 l_4 l_5 l_6 l_7) + (wide6 m_0 m_1 m_2 m_3 m_4 m_5 m_6 m_7)) :: .int .i64 (wide6 n_0 n_1 n_2 n_3 n_4 n_5 n_6 n_7) :: .int .i64 (((wide6 l_0 l_1 l_2 l_3 l_4 l_5 l_6 l_7) + (wide6 m_0 m_1 m_2 m_3 m_4 m_5 m_6 m_7)) + (wide6 n_0 n_1 n_2 n_3 n_4 n_5 n_6 n_7)) :: .bool false :: .int .i64 0 :: .bool false :: []), fc (prim l), fc (prim m), fc (prim n), pc a, pc b, [.bool false, .string ⟨#[]⟩, .bool false, .string ⟨#[]⟩, .bool false, .string ⟨#[]⟩, .bool false, .string ⟨#[]⟩, .bool false, .bool false, .string ⟨#[]⟩, .bool false, .string ⟨#[]⟩, .bool false, .string ⟨#[]⟩, .bool false, .string ⟨#[]⟩, .bool false, .bool false, .bool false], pc (lineF (prim l) a b), [.bool true, .bool false], fc (negF (prim l)), pc (lineF (prim l) a b), [.bool true, .bool true, .int .i64 (sideF (prim l) (lineF (prim l) a b)), .bool true, .bool true, .bool true]]) [.b false, .b false, .b false, .b false, .b false, .b false, .b true, .b true, .b true, .b true] [.ga 0 24, .ga 24 8, .ga 32 8] 40 (.one (.ca 139)) (.call 5 [.ga 0 8] (.one (.ca 40)) [] :: .call 5 [.ga 8 8] (.one (.ca 41)) [] :: .op2 false .add (.pa 40) (.pa 41) 42 :: .call 5 [.ga 16 8] (.one (.ca 43)) [] :: .op2 false .add (.pa 42) (.pa 43) 44 :: .op2 false .gtr (.pa 44) (.p (.lit (.int .i64 0))) 45 :: .isB 45 false :: .call 6 [.c (.p (.slc 3 0 2 2))] (.one (.ca 46)) [(3073, .pa 24), (3074, .pa 25), (3075, .pa 26), (3076, .pa 27), (3077, .pa 28), (3078, .pa 29), (3079, .pa 30), (3080, .pa 31), (3081, .pa 32), (3082, .pa 33), (3083, .pa 34), (3084, .pa 35), (3085, .pa 36), (3086, .pa 37), (3087, .pa 38), (3088, .pa 39)] :: .op2 false .gtr (.pa 46) (.p (.lit (.int .i64 0))) 47 :: .isB 47 false :: .call 8 [.ga 0 8] (.one (.ga 48 8)) [] :: .call 8 [.ga 8 8] (.one (.ga 56 8)) [] :: .call 8 [.ga 16 8] (.one (.ga 64 8)) [] :: .call 9 [.ga 24 8] (.one (.ga 72 8)) [] :: .call 9 [.ga 32 8] (.one (.ga 80 8)) [] :: .call 10 [.ga 48 8, .ga 56 8, .ga 64 8] (.tup [.ga 88 8, .ca 96]) [] :: .call 10 [.ga 64 8, .ga 48 8, .ga 56 8] (.tup [.ga 97 8, .ca 105]) [] :: .op2 true .neq (.pa 96) (.pa 105) 106 :: .isB 106 false :: .eqs true [.b, .s, .b, .s, .b, .s, .b, .s] [.pa 88, .pa 89, .pa 90, .pa 91, .pa 92, .pa 93, .pa 94, .pa 95] [.pa 97, .pa 98, .pa 99, .pa 100, .pa 101, .pa 102, .pa 103, .pa 104] 107 :: .isB 107 false :: .isB 96 false :: .call 12 [.ga 48 8, .ga 72 8, .ga 80 8] (.tup [.ga 108 8, .ca 116]) [] :: .op1 .not (.pa 116) 117 :: .isB 117 false :: .call 13 [.ga 48 8] (.one (.ga 118 8)) [] :: .call 12 [.ga 118 8, .ga 80 8, .ga 72 8] (.tup [.ga 126 8, .ca 134]) [] :: .call 7 [] (.one (.ca 135)) [] :: .isB 135 true :: .call 11 [.ga 48 8, .ga 108 8] (.one (.ca 136)) [] :: .op2 false .eql (.pa 136) (.p (.lit (.int .i64 0))) 137 :: .isB 137 true :: .call 14 [.ga 72 8, .ga 80 8, .ga 108 8] (.one (.ca 138)) [] :: .isB 138 true :: .isB 134 true :: .eqs false [.b, .s, .b, .s, .b, .s, .b, .s] [.pa 126, .pa 127, .pa 128, .pa 129, .pa 130, .pa 131, .pa 132, .pa 133] [.pa 108, .pa 109, .pa 110, .pa 111, .pa 112, .pa 113, .pa 114, .pa 115] 139 :: []) Tryd.func3 (by kernel_rfl) rfl (by kernel_rfl) rfl (by kernel_rfl)
    ⟨fun γ w' _ _ => Wide6_any l_0 l_1 l_2 l_3 l_4 l_5 l_6 l_7 w',
     fun γ w' _ _ => Wide6_any m_0 m_1 m_2 m_3 m_4 m_5 m_6 m_7 w',
     congrArg (fun z => some (Value.int .i64 z)) (by rw [IntKind.wrap_i64]; omega : IntKind.wrap .i64 ((wide6 l_0 l_1 l_2 l_3 l_4 l_5 l_6 l_7) + (wide6 m_0 m_1 m_2 m_3 m_4 m_5 m_6 m_7)) = ((wide6 l_0 l_1 l_2 l_3 l_4 l_5 l_6 l_7) + (wide6 m_0 m_1 m_2 m_3 m_4 m_5 m_6 m_7))),
     fun γ w' _ _ => Wide6_any n_0 n_1 n_2 n_3 n_4 n_5 n_6 n_7 w',
     congrArg (fun z => some (Value.int .i64 z)) (by rw [IntKind.wrap_i64]; omega : IntKind.wrap .i64 (((wide6 l_0 l_1 l_2 l_3 l_4 l_5 l_6 l_7) + (wide6 m_0 m_1 m_2 m_3 m_4 m_5 m_6 m_7)) + (wide6 n_0 n_1 n_2 n_3 n_4 n_5 n_6 n_7)) = (((wide6 l_0 l_1 l_2 l_3 l_4 l_5 l_6 l_7) + (wide6 m_0 m_1 m_2 m_3 m_4 m_5 m_6 m_7)) + (wide6 n_0 n_1 n_2 n_3 n_4 n_5 n_6 n_7))),
     congrArg (fun z => some (Value.bool z)) (decide_eq_false h0 : decide ((((wide6 l_0 l_1 l_2 l_3 l_4 l_5 l_6 l_7) + (wide6 m_0 m_1 m_2 m_3 m_4 m_5 m_6 m_7)) + (wide6 n_0 n_1 n_2 n_3 n_4 n_5 n_6 n_7)) > (0 : Int)) = false),
     rfl,
     fun γ w' _ hm => by have h_ := Great6_any (some ⟨γ 3, 0, none⟩) [⟨a_0, a_1, a_2, a_3, a_4, a_5, a_6, a_7⟩, ⟨b_0, b_1, b_2, b_3, b_4, b_5, b_6, b_7⟩] 2 2 w' rfl (by simp) (RdP.of (SX.mem_at (b := 3) (l := [.pa 24, .pa 25, .pa 26, .pa 27, .pa 28, .pa 29, .pa 30, .pa 31, .pa 32, .pa 33, .pa 34, .pa 35, .pa 36, .pa 37, .pa 38, .pa 39]) hm rfl)); rw [greatI_no (by intro p hp; simp only [List.mem_cons, List.not_mem_nil, or_false] at hp; rcases hp with rfl | rfl <;> exact ⟨by assumption, by assumption, by assumption, by assumption⟩)] at h_; exact h_,
     congrArg (fun z => some (Value.bool z)) (by decide : decide ((0 : Int) > (0 : Int)) = false),
     rfl,
     fun γ w' _ _ => form6_n hl (by decide) w' gl,
     fun γ w' _ _ => form6_n hm (by decide) w' gm,
     fun γ w' _ _ => form6_n hn (by decide) w' gn,
     fun γ w' _ _ => p4Norm ha (by decide) w',
     fun γ w' _ _ => p4Norm hb (by decide) w',
     fun γ w' bw _ => by have h := inThree_any f1 (by decide) f2 (by decide) f3 (by decide) w' (hT.later bw) (prim_flat gl) (prim_flat gm) (prim_flat gn); rw [threeV, if_pos hd] at h; exact h,
     fun γ w' bw _ => by have h := inThree_any f3 (by decide) f1 (by decide) f2 (by decide) w' (hT.later bw) (prim_flat gn) (prim_flat gl) (prim_flat gm); rw [threeV, det_turn, if_pos hd] at h; exact h,
     congrArg (fun z => some (Value.bool z)) (by first | rfl | exact beq_self_eq_true _ | (rw [onl]; rfl) : (!(false == false)) = false),
     rfl,
     ⟨rfl, rfl, eqv_yes (eqL_F (Z4.mk (0 : Int) (0 : Int) (0 : Int) (0 : Int)) (Z4.mk (0 : Int) (0 : Int) (0 : Int) (0 : Int))) (by first | rfl | exact beq_self_eq_true _ | (rw [onl]; rfl)) rfl⟩,
     rfl,
     rfl,
     fun γ w' bw _ => by have h := inLine_any f1 (by decide) f4 (by decide) f5 (by decide) w' (hT.later bw) (prim_flat gl); rw [lineV, if_neg kb] at h; exact h,
     congrArg (fun z => some (Value.bool z)) (by first | rfl | exact beq_self_eq_true _ | (rw [onl]; rfl) : (!true) = false),
     rfl,
     fun γ w' _ _ => plFlip f1 (by decide) w',
     fun γ w' bw _ => by have h := inLine_any f7 (by decide) f5 (by decide) f4 (by decide) w' (hT.later bw) (fun e => (prim_flat gl) ((flat_neg _).1 e)); rw [lineV, by_back, line_back kb, if_neg kb] at h; exact h,
     fun γ w' bw _ => fixed6_any w' (hT.later bw),
     rfl,
     fun γ w' _ _ => plSide f1 (by decide) f6 (by decide) w',
     congrArg (fun z => some (Value.bool z)) (by first | rfl | exact beq_self_eq_true _ | (rw [onl]; rfl) : ((sideF (prim l) (lineF (prim l) a b)) == (0 : Int)) = true),
     rfl,
     fun γ w' bw _ => by have h := inCollinear f4 (by decide) f5 (by decide) f6 (by decide) w' (hT.later bw); rw [decide_eq_true (line_straight _ _ _)] at h; exact h,
     rfl,
     rfl,
     ⟨rfl, rfl, eqv_yes (eqL_P (lineF (prim l) a b) (lineF (prim l) a b)) (by first | rfl | exact beq_self_eq_true _ | (rw [onl]; rfl)) rfl⟩⟩
set_option maxRecDepth 100000 in
theorem Incidence_10 (l_0 : Bool) (l_1 : ByteArray) (l_2 : Bool) (l_3 : ByteArray) (l_4 : Bool) (l_5 : ByteArray) (l_6 : Bool) (l_7 : ByteArray) (m_0 : Bool) (m_1 : ByteArray) (m_2 : Bool) (m_3 : ByteArray) (m_4 : Bool) (m_5 : ByteArray) (m_6 : Bool) (m_7 : ByteArray) (n_0 : Bool) (n_1 : ByteArray) (n_2 : Bool) (n_3 : ByteArray) (n_4 : Bool) (n_5 : ByteArray) (n_6 : Bool) (n_7 : ByteArray) (a_0 : Bool) (a_1 : ByteArray) (a_2 : Bool) (a_3 : ByteArray) (a_4 : Bool) (a_5 : ByteArray) (a_6 : Bool) (a_7 : ByteArray) (b_0 : Bool) (b_1 : ByteArray) (b_2 : Bool) (b_3 : ByteArray) (b_4 : Bool) (b_5 : ByteArray) (b_6 : Bool) (b_7 : ByteArray) (w : World) (hT : TabC w) (hl_1 : l_1.size ≤ 6) (hl_3 : l_3.size ≤ 6) (hl_5 : l_5.size ≤ 6) (hl_7 : l_7.size ≤ 6) (hm_1 : m_1.size ≤ 6) (hm_3 : m_3.size ≤ 6) (hm_5 : m_5.size ≤ 6) (hm_7 : m_7.size ≤ 6) (hn_1 : n_1.size ≤ 6) (hn_3 : n_3.size ≤ 6) (hn_5 : n_5.size ≤ 6) (hn_7 : n_7.size ≤ 6) (ha_1 : a_1.size ≤ 6) (ha_3 : a_3.size ≤ 6) (ha_5 : a_5.size ≤ 6) (ha_7 : a_7.size ≤ 6) (hb_1 : b_1.size ≤ 6) (hb_3 : b_3.size ≤ 6) (hb_5 : b_5.size ≤ 6) (hb_7 : b_7.size ≤ 6) (gl : ¬ flatF (Z4.mk (iv l_0 l_1) (iv l_2 l_3) (iv l_4 l_5) (iv l_6 l_7))) (gm : ¬ flatF (Z4.mk (iv m_0 m_1) (iv m_2 m_3) (iv m_4 m_5) (iv m_6 m_7))) (gn : ¬ flatF (Z4.mk (iv n_0 n_1) (iv n_2 n_3) (iv n_4 n_5) (iv n_6 n_7))) (h0 : ¬ 0 < (((wide6 l_0 l_1 l_2 l_3 l_4 l_5 l_6 l_7) + (wide6 m_0 m_1 m_2 m_3 m_4 m_5 m_6 m_7)) + (wide6 n_0 n_1 n_2 n_3 n_4 n_5 n_6 n_7))) (hd : detF (prim (Z4.mk (iv l_0 l_1) (iv l_2 l_3) (iv l_4 l_5) (iv l_6 l_7))) (prim (Z4.mk (iv m_0 m_1) (iv m_2 m_3) (iv m_4 m_5) (iv m_6 m_7))) (prim (Z4.mk (iv n_0 n_1) (iv n_2 n_3) (iv n_4 n_5) (iv n_6 n_7))) ≠ 0) (kb : byF (prim (Z4.mk (iv l_0 l_1) (iv l_2 l_3) (iv l_4 l_5) (iv l_6 l_7))) (pt ⟨iv a_0 a_1, iv a_2 a_3, iv a_4 a_5, iv a_6 a_7⟩) (pt ⟨iv b_0 b_1, iv b_2 b_3, iv b_4 b_5, iv b_6 b_7⟩) = 0) :
    Calls Tryd.prog 3 #[.agg #[.bool l_0, .string l_1, .bool l_2, .string l_3, .bool l_4, .string l_5, .bool l_6, .string l_7, .bool m_0, .string m_1, .bool m_2, .string m_3, .bool m_4, .string m_5, .bool m_6, .string m_7, .bool n_0, .string n_1, .bool n_2, .string n_3, .bool n_4, .string n_5, .bool n_6, .string n_7], .agg #[.bool a_0, .string a_1, .bool a_2, .string a_3, .bool a_4, .string a_5, .bool a_6, .string a_7], .agg #[.bool b_0, .string b_1, .bool b_2, .string b_3, .bool b_4, .string b_5, .bool b_6, .string b_7]] w fun e w' => e = .returned (.bool true) ∧ Below w.heap.size w w' := by
  obtain ⟨l, hl, rl⟩ : ∃ q, IsF (.agg #[.bool l_0, .string l_1, .bool l_2, .string l_3, .bool l_4, .string l_5, .bool l_6, .string l_7]) q 6 ∧ q = ⟨iv l_0 l_1, iv l_2 l_3, iv l_4 l_5, iv l_6 l_7⟩ := ⟨⟨_, _, _, _⟩, ⟨_, _, _, _, _, _, _, _, rfl, rfl, hl_1, rfl, hl_3, rfl, hl_5, rfl, hl_7⟩, rfl⟩
  have zl := hl.sz
  obtain ⟨m, hm, rm⟩ : ∃ q, IsF (.agg #[.bool m_0, .string m_1, .bool m_2, .string m_3, .bool m_4, .string m_5, .bool m_6, .string m_7]) q 6 ∧ q = ⟨iv m_0 m_1, iv m_2 m_3, iv m_4 m_5, iv m_6 m_7⟩ := ⟨⟨_, _, _, _⟩, ⟨_, _, _, _, _, _, _, _, rfl, rfl, hm_1, rfl, hm_3, rfl, hm_5, rfl, hm_7⟩, rfl⟩
  have zm := hm.sz
  obtain ⟨n, hn, rn⟩ : ∃ q, IsF (.agg #[.bool n_0, .string n_1, .bool n_2, .string n_3, .bool n_4, .string n_5, .bool n_6, .string n_7]) q 6 ∧ q = ⟨iv n_0 n_1, iv n_2 n_3, iv n_4 n_5, iv n_6 n_7⟩ := ⟨⟨_, _, _, _⟩, ⟨_, _, _, _, _, _, _, _, rfl, rfl, hn_1, rfl, hn_3, rfl, hn_5, rfl, hn_7⟩, rfl⟩
  have zn := hn.sz
  obtain ⟨aq, haq, raq⟩ : ∃ q, IsF (.agg #[.bool a_0, .string a_1, .bool a_2, .string a_3, .bool a_4, .string a_5, .bool a_6, .string a_7]) q 6 ∧ q = ⟨iv a_0 a_1, iv a_2 a_3, iv a_4 a_5, iv a_6 a_7⟩ := ⟨⟨_, _, _, _⟩, ⟨_, _, _, _, _, _, _, _, rfl, rfl, ha_1, rfl, ha_3, rfl, ha_5, rfl, ha_7⟩, rfl⟩
  have zaq := haq.sz
  obtain ⟨a, ea⟩ : ∃ p, p = pt aq := ⟨_, rfl⟩
  have ha : IsP (.agg #[.bool a_0, .string a_1, .bool a_2, .string a_3, .bool a_4, .string a_5, .bool a_6, .string a_7]) a 6 := by rw [ea]; exact haq.pt
  have za := ha.sz (by decide)
  have ra : a = pt ⟨iv a_0 a_1, iv a_2 a_3, iv a_4 a_5, iv a_6 a_7⟩ := by rw [ea, raq]
  obtain ⟨bq, hbq, rbq⟩ : ∃ q, IsF (.agg #[.bool b_0, .string b_1, .bool b_2, .string b_3, .bool b_4, .string b_5, .bool b_6, .string b_7]) q 6 ∧ q = ⟨iv b_0 b_1, iv b_2 b_3, iv b_4 b_5, iv b_6 b_7⟩ := ⟨⟨_, _, _, _⟩, ⟨_, _, _, _, _, _, _, _, rfl, rfl, hb_1, rfl, hb_3, rfl, hb_5, rfl, hb_7⟩, rfl⟩
  have zbq := hbq.sz
  obtain ⟨b, eb⟩ : ∃ p, p = pt bq := ⟨_, rfl⟩
  have hb : IsP (.agg #[.bool b_0, .string b_1, .bool b_2, .string b_3, .bool b_4, .string b_5, .bool b_6, .string b_7]) b 6 := by rw [eb]; exact hbq.pt
  have zb := hb.sz (by decide)
  have rb : b = pt ⟨iv b_0 b_1, iv b_2 b_3, iv b_4 b_5, iv b_6 b_7⟩ := by rw [eb, rbq]
  have bl := wide6_bd l_0 l_1 l_2 l_3 l_4 l_5 l_6 l_7
  have bm := wide6_bd m_0 m_1 m_2 m_3 m_4 m_5 m_6 m_7
  have bn := wide6_bd n_0 n_1 n_2 n_3 n_4 n_5 n_6 n_7
  rw [← rl] at gl
  rw [← rm] at gm
  rw [← rn] at gn
  rw [← rl, ← rm, ← rn] at hd
  rw [← rl, ← ra, ← rb] at kb
  obtain ⟨on1, on2, on3⟩ := three_on hd
  have f1 : Fk (prim l) 6 := Fk.up ((Fk.prim zl)) (by decide)
  have f2 : Fk (prim m) 6 := Fk.up ((Fk.prim zm)) (by decide)
  have f3 : Fk (prim n) 6 := Fk.up ((Fk.prim zn)) (by decide)
  have f4 : Pk a 6 := Pk.up (za) (by decide)
  have f5 : Pk b 6 := Pk.up (zb) (by decide)
  have f6 : Pk (threeF (prim l) (prim m) (prim n)) 708 := Pk.up ((Pk.three f1 f2 f3)) (by decide)
  exact SX.run (w := w) (List.flatten [(.bool l_0 :: .string l_1 :: .bool l_2 :: .string l_3 :: .bool l_4 :: .string l_5 :: .bool l_6 :: .string l_7 :: .bool m_0 :: .string m_1 :: .bool m_2 :: .string m_3 :: .bool m_4 :: .string m_5 :: .bool m_6 :: .string m_7 :: .bool n_0 :: .string n_1 :: .bool n_2 :: .string n_3 :: .bool n_4 :: .string n_5 :: .bool n_6 :: .string n_7 :: .bool a_0 :: .string a_1 :: .bool a_2 :: .string a_3 :: .bool a_4 :: .string a_5 :: .bool a_6 :: .string a_7 :: .bool b_0 :: .string b_1 :: .bool b_2 :: .string b_3 :: .bool b_4 :: .string b_5 :: .bool b_6 :: .string b_7 :: .int .i64 (wide6 l_0 l_1 l_2 l_3 l_4 l_5 l_6 l_7) :: .int .i64 (wide6 m_0 m_1 m_2 m_3 m_4 m_5 m_6 m_7) :: .int .i64 ((wide6 l_0 l_1 l_2 l_3 l_4 l_5 l_6 l_7) + (wide6 m_0 m_1 m_2 m_3 m_4 m_5 m_6 m_7)) :: .int .i64 (wide6 n_0 n_1 n_2 n_3 n_4 n_5 n_6 n_7) :: .int .i64 (((wide6 l_0 l_1 l_2 l_3 l_4 l_5 l_6 l_7) + (wide6 m_0 m_1 m_2 m_3 m_4 m_5 m_6 m_7)) + (wide6 n_0 n_1 n_2 n_3 n_4 n_5 n_6 n_7)) :: .bool false :: .int .i64 0 :: .bool false :: []), fc (prim l), fc (prim m), fc (prim n), pc a, pc b, pc (threeF (prim l) (prim m) (prim n)), [.bool true], pc (threeF (prim l) (prim m) (prim n)), [.bool true, .bool false, .bool false, .int .i64 (sideF (prim l) (threeF (prim l) (prim m) (prim n))), .bool false, .int .i64 (sideF (prim m) (threeF (prim l) (prim m) (prim n))), .bool false, .int .i64 (sideF (prim n) (threeF (prim l) (prim m) (prim n))), .bool false, .bool false, .string ⟨#[]⟩, .bool false, .string ⟨#[]⟩, .bool false, .string ⟨#[]⟩, .bool false, .string ⟨#[]⟩, .bool false, .bool true, .bool true, .int .i64 (sideF (prim l) a), .int .i64 (sideF (prim l) b), .bool true]]) [.b false, .b false, .b false, .b false, .b true, .b false, .b false, .b false, .b true, .b true] [.ga 0 24, .ga 24 8, .ga 32 8] 40 (.one (.ca 127)) (.call 5 [.ga 0 8] (.one (.ca 40)) [] :: .call 5 [.ga 8 8] (.one (.ca 41)) [] :: .op2 false .add (.pa 40) (.pa 41) 42 :: .call 5 [.ga 16 8] (.one (.ca 43)) [] :: .op2 false .add (.pa 42) (.pa 43) 44 :: .op2 false .gtr (.pa 44) (.p (.lit (.int .i64 0))) 45 :: .isB 45 false :: .call 6 [.c (.p (.slc 3 0 2 2))] (.one (.ca 46)) [(3073, .pa 24), (3074, .pa 25), (3075, .pa 26), (3076, .pa 27), (3077, .pa 28), (3078, .pa 29), (3079, .pa 30), (3080, .pa 31), (3081, .pa 32), (3082, .pa 33), (3083, .pa 34), (3084, .pa 35), (3085, .pa 36), (3086, .pa 37), (3087, .pa 38), (3088, .pa 39)] :: .op2 false .gtr (.pa 46) (.p (.lit (.int .i64 0))) 47 :: .isB 47 false :: .call 8 [.ga 0 8] (.one (.ga 48 8)) [] :: .call 8 [.ga 8 8] (.one (.ga 56 8)) [] :: .call 8 [.ga 16 8] (.one (.ga 64 8)) [] :: .call 9 [.ga 24 8] (.one (.ga 72 8)) [] :: .call 9 [.ga 32 8] (.one (.ga 80 8)) [] :: .call 10 [.ga 48 8, .ga 56 8, .ga 64 8] (.tup [.ga 88 8, .ca 96]) [] :: .call 10 [.ga 64 8, .ga 48 8, .ga 56 8] (.tup [.ga 97 8, .ca 105]) [] :: .op2 true .neq (.pa 96) (.pa 105) 106 :: .isB 106 false :: .eqs true [.b, .s, .b, .s, .b, .s, .b, .s] [.pa 88, .pa 89, .pa 90, .pa 91, .pa 92, .pa 93, .pa 94, .pa 95] [.pa 97, .pa 98, .pa 99, .pa 100, .pa 101, .pa 102, .pa 103, .pa 104] 107 :: .isB 107 false :: .isB 96 true :: .call 11 [.ga 48 8, .ga 88 8] (.one (.ca 108)) [] :: .op2 false .neq (.pa 108) (.p (.lit (.int .i64 0))) 109 :: .isB 109 false :: .call 11 [.ga 56 8, .ga 88 8] (.one (.ca 110)) [] :: .op2 false .neq (.pa 110) (.p (.lit (.int .i64 0))) 111 :: .isB 111 false :: .call 11 [.ga 64 8, .ga 88 8] (.one (.ca 112)) [] :: .op2 false .neq (.pa 112) (.p (.lit (.int .i64 0))) 113 :: .isB 113 false :: .call 12 [.ga 48 8, .ga 72 8, .ga 80 8] (.tup [.ga 114 8, .ca 122]) [] :: .op1 .not (.pa 122) 123 :: .isB 123 true :: .call 7 [] (.one (.ca 124)) [] :: .isB 124 true :: .call 11 [.ga 48 8, .ga 72 8] (.one (.ca 125)) [] :: .call 11 [.ga 48 8, .ga 80 8] (.one (.ca 126)) [] :: .op2 false .eql (.pa 125) (.pa 126) 127 :: []) Tryd.func3 (by kernel_rfl) rfl (by kernel_rfl) rfl (by kernel_rfl)
    ⟨fun γ w' _ _ => Wide6_any l_0 l_1 l_2 l_3 l_4 l_5 l_6 l_7 w',
     fun γ w' _ _ => Wide6_any m_0 m_1 m_2 m_3 m_4 m_5 m_6 m_7 w',
     congrArg (fun z => some (Value.int .i64 z)) (by rw [IntKind.wrap_i64]; omega : IntKind.wrap .i64 ((wide6 l_0 l_1 l_2 l_3 l_4 l_5 l_6 l_7) + (wide6 m_0 m_1 m_2 m_3 m_4 m_5 m_6 m_7)) = ((wide6 l_0 l_1 l_2 l_3 l_4 l_5 l_6 l_7) + (wide6 m_0 m_1 m_2 m_3 m_4 m_5 m_6 m_7))),
     fun γ w' _ _ => Wide6_any n_0 n_1 n_2 n_3 n_4 n_5 n_6 n_7 w',
     congrArg (fun z => some (Value.int .i64 z)) (by rw [IntKind.wrap_i64]; omega : IntKind.wrap .i64 (((wide6 l_0 l_1 l_2 l_3 l_4 l_5 l_6 l_7) + (wide6 m_0 m_1 m_2 m_3 m_4 m_5 m_6 m_7)) + (wide6 n_0 n_1 n_2 n_3 n_4 n_5 n_6 n_7)) = (((wide6 l_0 l_1 l_2 l_3 l_4 l_5 l_6 l_7) + (wide6 m_0 m_1 m_2 m_3 m_4 m_5 m_6 m_7)) + (wide6 n_0 n_1 n_2 n_3 n_4 n_5 n_6 n_7))),
     congrArg (fun z => some (Value.bool z)) (decide_eq_false h0 : decide ((((wide6 l_0 l_1 l_2 l_3 l_4 l_5 l_6 l_7) + (wide6 m_0 m_1 m_2 m_3 m_4 m_5 m_6 m_7)) + (wide6 n_0 n_1 n_2 n_3 n_4 n_5 n_6 n_7)) > (0 : Int)) = false),
     rfl,
     fun γ w' _ hm => by have h_ := Great6_any (some ⟨γ 3, 0, none⟩) [⟨a_0, a_1, a_2, a_3, a_4, a_5, a_6, a_7⟩, ⟨b_0, b_1, b_2, b_3, b_4, b_5, b_6, b_7⟩] 2 2 w' rfl (by simp) (RdP.of (SX.mem_at (b := 3) (l := [.pa 24, .pa 25, .pa 26, .pa 27, .pa 28, .pa 29, .pa 30, .pa 31, .pa 32, .pa 33, .pa 34, .pa 35, .pa 36, .pa 37, .pa 38, .pa 39]) hm rfl)); rw [greatI_no (by intro p hp; simp only [List.mem_cons, List.not_mem_nil, or_false] at hp; rcases hp with rfl | rfl <;> exact ⟨by assumption, by assumption, by assumption, by assumption⟩)] at h_; exact h_,
     congrArg (fun z => some (Value.bool z)) (by decide : decide ((0 : Int) > (0 : Int)) = false),
     rfl,
     fun γ w' _ _ => form6_n hl (by decide) w' gl,
     fun γ w' _ _ => form6_n hm (by decide) w' gm,
     fun γ w' _ _ => form6_n hn (by decide) w' gn,
     fun γ w' _ _ => p4Norm ha (by decide) w',
     fun γ w' _ _ => p4Norm hb (by decide) w',
     fun γ w' bw _ => by have h := inThree_any f1 (by decide) f2 (by decide) f3 (by decide) w' (hT.later bw) (prim_flat gl) (prim_flat gm) (prim_flat gn); rw [threeV, if_neg hd] at h; exact h,
     fun γ w' bw _ => by have h := inThree_any f3 (by decide) f1 (by decide) f2 (by decide) w' (hT.later bw) (prim_flat gn) (prim_flat gl) (prim_flat gm); rw [threeV, det_turn, three_turn, if_neg hd] at h; exact h,
     congrArg (fun z => some (Value.bool z)) (by first | rfl | exact beq_self_eq_true _ | (rw [on1]; rfl) | (rw [on2]; rfl) | (rw [on3]; rfl) | (rw [line_par kb]; exact beq_self_eq_true _) : (!(true == true)) = false),
     rfl,
     ⟨rfl, rfl, eqv_yes (eqL_P (threeF (prim l) (prim m) (prim n)) (threeF (prim l) (prim m) (prim n))) (by first | rfl | exact beq_self_eq_true _ | (rw [on1]; rfl) | (rw [on2]; rfl) | (rw [on3]; rfl) | (rw [line_par kb]; exact beq_self_eq_true _)) rfl⟩,
     rfl,
     rfl,
     fun γ w' _ _ => plSide f1 (by decide) f6 (by decide) w',
     congrArg (fun z => some (Value.bool z)) (by first | rfl | exact beq_self_eq_true _ | (rw [on1]; rfl) | (rw [on2]; rfl) | (rw [on3]; rfl) | (rw [line_par kb]; exact beq_self_eq_true _) : ((sideF (prim l) (threeF (prim l) (prim m) (prim n))) != (0 : Int)) = false),
     rfl,
     fun γ w' _ _ => plSide f2 (by decide) f6 (by decide) w',
     congrArg (fun z => some (Value.bool z)) (by first | rfl | exact beq_self_eq_true _ | (rw [on1]; rfl) | (rw [on2]; rfl) | (rw [on3]; rfl) | (rw [line_par kb]; exact beq_self_eq_true _) : ((sideF (prim m) (threeF (prim l) (prim m) (prim n))) != (0 : Int)) = false),
     rfl,
     fun γ w' _ _ => plSide f3 (by decide) f6 (by decide) w',
     congrArg (fun z => some (Value.bool z)) (by first | rfl | exact beq_self_eq_true _ | (rw [on1]; rfl) | (rw [on2]; rfl) | (rw [on3]; rfl) | (rw [line_par kb]; exact beq_self_eq_true _) : ((sideF (prim n) (threeF (prim l) (prim m) (prim n))) != (0 : Int)) = false),
     rfl,
     fun γ w' bw _ => by have h := inLine_any f1 (by decide) f4 (by decide) f5 (by decide) w' (hT.later bw) (prim_flat gl); rw [lineV, if_pos kb] at h; exact h,
     congrArg (fun z => some (Value.bool z)) (by first | rfl | exact beq_self_eq_true _ | (rw [on1]; rfl) | (rw [on2]; rfl) | (rw [on3]; rfl) | (rw [line_par kb]; exact beq_self_eq_true _) : (!false) = true),
     rfl,
     fun γ w' bw _ => fixed6_any w' (hT.later bw),
     rfl,
     fun γ w' _ _ => plSide f1 (by decide) f4 (by decide) w',
     fun γ w' _ _ => plSide f1 (by decide) f5 (by decide) w',
     congrArg (fun z => some (Value.bool z)) (by first | rfl | exact beq_self_eq_true _ | (rw [on1]; rfl) | (rw [on2]; rfl) | (rw [on3]; rfl) | (rw [line_par kb]; exact beq_self_eq_true _) : ((sideF (prim l) a) == (sideF (prim l) b)) = true)⟩
set_option maxRecDepth 100000 in
theorem Incidence_11 (l_0 : Bool) (l_1 : ByteArray) (l_2 : Bool) (l_3 : ByteArray) (l_4 : Bool) (l_5 : ByteArray) (l_6 : Bool) (l_7 : ByteArray) (m_0 : Bool) (m_1 : ByteArray) (m_2 : Bool) (m_3 : ByteArray) (m_4 : Bool) (m_5 : ByteArray) (m_6 : Bool) (m_7 : ByteArray) (n_0 : Bool) (n_1 : ByteArray) (n_2 : Bool) (n_3 : ByteArray) (n_4 : Bool) (n_5 : ByteArray) (n_6 : Bool) (n_7 : ByteArray) (a_0 : Bool) (a_1 : ByteArray) (a_2 : Bool) (a_3 : ByteArray) (a_4 : Bool) (a_5 : ByteArray) (a_6 : Bool) (a_7 : ByteArray) (b_0 : Bool) (b_1 : ByteArray) (b_2 : Bool) (b_3 : ByteArray) (b_4 : Bool) (b_5 : ByteArray) (b_6 : Bool) (b_7 : ByteArray) (w : World) (hT : TabC w) (hl_1 : l_1.size ≤ 6) (hl_3 : l_3.size ≤ 6) (hl_5 : l_5.size ≤ 6) (hl_7 : l_7.size ≤ 6) (hm_1 : m_1.size ≤ 6) (hm_3 : m_3.size ≤ 6) (hm_5 : m_5.size ≤ 6) (hm_7 : m_7.size ≤ 6) (hn_1 : n_1.size ≤ 6) (hn_3 : n_3.size ≤ 6) (hn_5 : n_5.size ≤ 6) (hn_7 : n_7.size ≤ 6) (ha_1 : a_1.size ≤ 6) (ha_3 : a_3.size ≤ 6) (ha_5 : a_5.size ≤ 6) (ha_7 : a_7.size ≤ 6) (hb_1 : b_1.size ≤ 6) (hb_3 : b_3.size ≤ 6) (hb_5 : b_5.size ≤ 6) (hb_7 : b_7.size ≤ 6) (gl : ¬ flatF (Z4.mk (iv l_0 l_1) (iv l_2 l_3) (iv l_4 l_5) (iv l_6 l_7))) (gm : ¬ flatF (Z4.mk (iv m_0 m_1) (iv m_2 m_3) (iv m_4 m_5) (iv m_6 m_7))) (gn : ¬ flatF (Z4.mk (iv n_0 n_1) (iv n_2 n_3) (iv n_4 n_5) (iv n_6 n_7))) (h0 : ¬ 0 < (((wide6 l_0 l_1 l_2 l_3 l_4 l_5 l_6 l_7) + (wide6 m_0 m_1 m_2 m_3 m_4 m_5 m_6 m_7)) + (wide6 n_0 n_1 n_2 n_3 n_4 n_5 n_6 n_7))) (hd : detF (prim (Z4.mk (iv l_0 l_1) (iv l_2 l_3) (iv l_4 l_5) (iv l_6 l_7))) (prim (Z4.mk (iv m_0 m_1) (iv m_2 m_3) (iv m_4 m_5) (iv m_6 m_7))) (prim (Z4.mk (iv n_0 n_1) (iv n_2 n_3) (iv n_4 n_5) (iv n_6 n_7))) ≠ 0) (kb : byF (prim (Z4.mk (iv l_0 l_1) (iv l_2 l_3) (iv l_4 l_5) (iv l_6 l_7))) (pt ⟨iv a_0 a_1, iv a_2 a_3, iv a_4 a_5, iv a_6 a_7⟩) (pt ⟨iv b_0 b_1, iv b_2 b_3, iv b_4 b_5, iv b_6 b_7⟩) ≠ 0) :
    Calls Tryd.prog 3 #[.agg #[.bool l_0, .string l_1, .bool l_2, .string l_3, .bool l_4, .string l_5, .bool l_6, .string l_7, .bool m_0, .string m_1, .bool m_2, .string m_3, .bool m_4, .string m_5, .bool m_6, .string m_7, .bool n_0, .string n_1, .bool n_2, .string n_3, .bool n_4, .string n_5, .bool n_6, .string n_7], .agg #[.bool a_0, .string a_1, .bool a_2, .string a_3, .bool a_4, .string a_5, .bool a_6, .string a_7], .agg #[.bool b_0, .string b_1, .bool b_2, .string b_3, .bool b_4, .string b_5, .bool b_6, .string b_7]] w fun e w' => e = .returned (.bool true) ∧ Below w.heap.size w w' := by
  obtain ⟨l, hl, rl⟩ : ∃ q, IsF (.agg #[.bool l_0, .string l_1, .bool l_2, .string l_3, .bool l_4, .string l_5, .bool l_6, .string l_7]) q 6 ∧ q = ⟨iv l_0 l_1, iv l_2 l_3, iv l_4 l_5, iv l_6 l_7⟩ := ⟨⟨_, _, _, _⟩, ⟨_, _, _, _, _, _, _, _, rfl, rfl, hl_1, rfl, hl_3, rfl, hl_5, rfl, hl_7⟩, rfl⟩
  have zl := hl.sz
  obtain ⟨m, hm, rm⟩ : ∃ q, IsF (.agg #[.bool m_0, .string m_1, .bool m_2, .string m_3, .bool m_4, .string m_5, .bool m_6, .string m_7]) q 6 ∧ q = ⟨iv m_0 m_1, iv m_2 m_3, iv m_4 m_5, iv m_6 m_7⟩ := ⟨⟨_, _, _, _⟩, ⟨_, _, _, _, _, _, _, _, rfl, rfl, hm_1, rfl, hm_3, rfl, hm_5, rfl, hm_7⟩, rfl⟩
  have zm := hm.sz
  obtain ⟨n, hn, rn⟩ : ∃ q, IsF (.agg #[.bool n_0, .string n_1, .bool n_2, .string n_3, .bool n_4, .string n_5, .bool n_6, .string n_7]) q 6 ∧ q = ⟨iv n_0 n_1, iv n_2 n_3, iv n_4 n_5, iv n_6 n_7⟩ := ⟨⟨_, _, _, _⟩, ⟨_, _, _, _, _, _, _, _, rfl, rfl, hn_1, rfl, hn_3, rfl, hn_5, rfl, hn_7⟩, rfl⟩
  have zn := hn.sz
  obtain ⟨aq, haq, raq⟩ : ∃ q, IsF (.agg #[.bool a_0, .string a_1, .bool a_2, .string a_3, .bool a_4, .string a_5, .bool a_6, .string a_7]) q 6 ∧ q = ⟨iv a_0 a_1, iv a_2 a_3, iv a_4 a_5, iv a_6 a_7⟩ := ⟨⟨_, _, _, _⟩, ⟨_, _, _, _, _, _, _, _, rfl, rfl, ha_1, rfl, ha_3, rfl, ha_5, rfl, ha_7⟩, rfl⟩
  have zaq := haq.sz
  obtain ⟨a, ea⟩ : ∃ p, p = pt aq := ⟨_, rfl⟩
  have ha : IsP (.agg #[.bool a_0, .string a_1, .bool a_2, .string a_3, .bool a_4, .string a_5, .bool a_6, .string a_7]) a 6 := by rw [ea]; exact haq.pt
  have za := ha.sz (by decide)
  have ra : a = pt ⟨iv a_0 a_1, iv a_2 a_3, iv a_4 a_5, iv a_6 a_7⟩ := by rw [ea, raq]
  obtain ⟨bq, hbq, rbq⟩ : ∃ q, IsF (.agg #[.bool b_0, .string b_1, .bool b_2, .string b_3, .bool b_4, .string b_5, .bool b_6, .string b_7]) q 6 ∧ q = ⟨iv b_0 b_1, iv b_2 b_3, iv b_4 b_5, iv b_6 b_7⟩ := ⟨⟨_, _, _, _⟩, ⟨_, _, _, _, _, _, _, _, rfl, rfl, hb_1, rfl, hb_3, rfl, hb_5, rfl, hb_7⟩, rfl⟩
  have zbq := hbq.sz
  obtain ⟨b, eb⟩ : ∃ p, p = pt bq := ⟨_, rfl⟩
  have hb : IsP (.agg #[.bool b_0, .string b_1, .bool b_2, .string b_3, .bool b_4, .string b_5, .bool b_6, .string b_7]) b 6 := by rw [eb]; exact hbq.pt
  have zb := hb.sz (by decide)
  have rb : b = pt ⟨iv b_0 b_1, iv b_2 b_3, iv b_4 b_5, iv b_6 b_7⟩ := by rw [eb, rbq]
  have bl := wide6_bd l_0 l_1 l_2 l_3 l_4 l_5 l_6 l_7
  have bm := wide6_bd m_0 m_1 m_2 m_3 m_4 m_5 m_6 m_7
  have bn := wide6_bd n_0 n_1 n_2 n_3 n_4 n_5 n_6 n_7
  rw [← rl] at gl
  rw [← rm] at gm
  rw [← rn] at gn
  rw [← rl, ← rm, ← rn] at hd
  rw [← rl, ← ra, ← rb] at kb
  obtain ⟨on1, on2, on3⟩ := three_on hd
  have onl := line_on kb
  have f1 : Fk (prim l) 6 := Fk.up ((Fk.prim zl)) (by decide)
  have f2 : Fk (prim m) 6 := Fk.up ((Fk.prim zm)) (by decide)
  have f3 : Fk (prim n) 6 := Fk.up ((Fk.prim zn)) (by decide)
  have f4 : Pk a 6 := Pk.up (za) (by decide)
  have f5 : Pk b 6 := Pk.up (zb) (by decide)
  have f6 : Pk (threeF (prim l) (prim m) (prim n)) 708 := Pk.up ((Pk.three f1 f2 f3)) (by decide)
  have f7 : Pk (lineF (prim l) a b) 474 := Pk.up ((Pk.line f1 f4 f5)) (by decide)
  have f8 : Fk (negF (prim l)) 6 := Fk.up ((Fk.neg f1)) (by decide)
  exact SX.run (w := w) (List.flatten [(.bool l_0 :: .string l_1 :: .bool l_2 :: .string l_3 :: .bool l_4 :: .string l_5 :: .bool l_6 :: .string l_7 :: .bool m_0 :: .string m_1 :: .bool m_2 :: .string m_3 :: .bool m_4 :: .string m_5 :: .bool m_6 :: .string m_7 :: .bool n_0 :: .string n_1 :: .bool n_2 :: .string n_3 :: .bool n_4 :: .string n_5 :: .bool n_6 :: .string n_7 :: .bool a_0 :: .string a_1 :: .bool a_2 :: .string a_3 :: .bool a_4 :: .string a_5 :: .bool a_6 :: .string a_7 :: .bool b_0 :: .string b_1 :: .bool b_2 :: .string b_3 :: .bool b_4 :: .string b_5 :: .bool b_6 :: .string b_7 :: .int .i64 (wide6 l_0 l_1 l_2 l_3 l_4 l_5 l_6 l_7) :: .int .i64 (wide6 m_0 m_1 m_2 m_3 m_4 m_5 m_6 m_7) :: .int .i64 ((wide6 l_0 l_1 l_2 l_3 l_4 l_5 l_6 l_7) + (wide6 m_0 m_1 m_2 m_3 m_4 m_5 m_6 m_7)) :: .int .i64 (wide6 n_0 n_1 n_2 n_3 n_4 n_5 n_6 n_7) :: .int .i64 (((wide6 l_0 l_1 l_2 l_3 l_4 l_5 l_6 l_7) + (wide6 m_0 m_1 m_2 m_3 m_4 m_5 m_6 m_7)) + (wide6 n_0 n_1 n_2 n_3 n_4 n_5 n_6 n_7)) :: .bool false :: .int .i64 0 :: .bool false :: []), fc (prim l), fc (prim m), fc (prim n), pc a, pc b, pc (threeF (prim l) (prim m) (prim n)), [.bool true], pc (threeF (prim l) (prim m) (prim n)), [.bool true, .bool false, .bool false, .int .i64 (sideF (prim l) (threeF (prim l) (prim m) (prim n))), .bool false, .int .i64 (sideF (prim m) (threeF (prim l) (prim m) (prim n))), .bool false, .int .i64 (sideF (prim n) (threeF (prim l) (prim m) (prim n))), .bool false], pc (lineF (prim l) a b), [.bool true, .bool false], fc (negF (prim l)), pc (lineF (prim l) a b), [.bool true, .bool true, .int .i64 (sideF (prim l) (lineF (prim l) a b)), .bool true, .bool true, .bool true]]) [.b false, .b false, .b false, .b false, .b true, .b false, .b false, .b false, .b false, .b true, .b true, .b true, .b true] [.ga 0 24, .ga 24 8, .ga 32 8] 40 (.one (.ca 145)) (.call 5 [.ga 0 8] (.one (.ca 40)) [] :: .call 5 [.ga 8 8] (.one (.ca 41)) [] :: .op2 false .add (.pa 40) (.pa 41) 42 :: .call 5 [.ga 16 8] (.one (.ca 43)) [] :: .op2 false .add (.pa 42) (.pa 43) 44 :: .op2 false .gtr (.pa 44) (.p (.lit (.int .i64 0))) 45 :: .isB 45 false :: .call 6 [.c (.p (.slc 3 0 2 2))] (.one (.ca 46)) [(3073, .pa 24), (3074, .pa 25), (3075, .pa 26), (3076, .pa 27), (3077, .pa 28), (3078, .pa 29), (3079, .pa 30), (3080, .pa 31), (3081, .pa 32), (3082, .pa 33), (3083, .pa 34), (3084, .pa 35), (3085, .pa 36), (3086, .pa 37), (3087, .pa 38), (3088, .pa 39)] :: .op2 false .gtr (.pa 46) (.p (.lit (.int .i64 0))) 47 :: .isB 47 false :: .call 8 [.ga 0 8] (.one (.ga 48 8)) [] :: .call 8 [.ga 8 8] (.one (.ga 56 8)) [] :: .call 8 [.ga 16 8] (.one (.ga 64 8)) [] :: .call 9 [.ga 24 8] (.one (.ga 72 8)) [] :: .call 9 [.ga 32 8] (.one (.ga 80 8)) [] :: .call 10 [.ga 48 8, .ga 56 8, .ga 64 8] (.tup [.ga 88 8, .ca 96]) [] :: .call 10 [.ga 64 8, .ga 48 8, .ga 56 8] (.tup [.ga 97 8, .ca 105]) [] :: .op2 true .neq (.pa 96) (.pa 105) 106 :: .isB 106 false :: .eqs true [.b, .s, .b, .s, .b, .s, .b, .s] [.pa 88, .pa 89, .pa 90, .pa 91, .pa 92, .pa 93, .pa 94, .pa 95] [.pa 97, .pa 98, .pa 99, .pa 100, .pa 101, .pa 102, .pa 103, .pa 104] 107 :: .isB 107 false :: .isB 96 true :: .call 11 [.ga 48 8, .ga 88 8] (.one (.ca 108)) [] :: .op2 false .neq (.pa 108) (.p (.lit (.int .i64 0))) 109 :: .isB 109 false :: .call 11 [.ga 56 8, .ga 88 8] (.one (.ca 110)) [] :: .op2 false .neq (.pa 110) (.p (.lit (.int .i64 0))) 111 :: .isB 111 false :: .call 11 [.ga 64 8, .ga 88 8] (.one (.ca 112)) [] :: .op2 false .neq (.pa 112) (.p (.lit (.int .i64 0))) 113 :: .isB 113 false :: .call 12 [.ga 48 8, .ga 72 8, .ga 80 8] (.tup [.ga 114 8, .ca 122]) [] :: .op1 .not (.pa 122) 123 :: .isB 123 false :: .call 13 [.ga 48 8] (.one (.ga 124 8)) [] :: .call 12 [.ga 124 8, .ga 80 8, .ga 72 8] (.tup [.ga 132 8, .ca 140]) [] :: .call 7 [] (.one (.ca 141)) [] :: .isB 141 true :: .call 11 [.ga 48 8, .ga 114 8] (.one (.ca 142)) [] :: .op2 false .eql (.pa 142) (.p (.lit (.int .i64 0))) 143 :: .isB 143 true :: .call 14 [.ga 72 8, .ga 80 8, .ga 114 8] (.one (.ca 144)) [] :: .isB 144 true :: .isB 140 true :: .eqs false [.b, .s, .b, .s, .b, .s, .b, .s] [.pa 132, .pa 133, .pa 134, .pa 135, .pa 136, .pa 137, .pa 138, .pa 139] [.pa 114, .pa 115, .pa 116, .pa 117, .pa 118, .pa 119, .pa 120, .pa 121] 145 :: []) Tryd.func3 (by kernel_rfl) rfl (by kernel_rfl) rfl (by kernel_rfl)
    ⟨fun γ w' _ _ => Wide6_any l_0 l_1 l_2 l_3 l_4 l_5 l_6 l_7 w',
     fun γ w' _ _ => Wide6_any m_0 m_1 m_2 m_3 m_4 m_5 m_6 m_7 w',
     congrArg (fun z => some (Value.int .i64 z)) (by rw [IntKind.wrap_i64]; omega : IntKind.wrap .i64 ((wide6 l_0 l_1 l_2 l_3 l_4 l_5 l_6 l_7) + (wide6 m_0 m_1 m_2 m_3 m_4 m_5 m_6 m_7)) = ((wide6 l_0 l_1 l_2 l_3 l_4 l_5 l_6 l_7) + (wide6 m_0 m_1 m_2 m_3 m_4 m_5 m_6 m_7))),
     fun γ w' _ _ => Wide6_any n_0 n_1 n_2 n_3 n_4 n_5 n_6 n_7 w',
     congrArg (fun z => some (Value.int .i64 z)) (by rw [IntKind.wrap_i64]; omega : IntKind.wrap .i64 (((wide6 l_0 l_1 l_2 l_3 l_4 l_5 l_6 l_7) + (wide6 m_0 m_1 m_2 m_3 m_4 m_5 m_6 m_7)) + (wide6 n_0 n_1 n_2 n_3 n_4 n_5 n_6 n_7)) = (((wide6 l_0 l_1 l_2 l_3 l_4 l_5 l_6 l_7) + (wide6 m_0 m_1 m_2 m_3 m_4 m_5 m_6 m_7)) + (wide6 n_0 n_1 n_2 n_3 n_4 n_5 n_6 n_7))),
     congrArg (fun z => some (Value.bool z)) (decide_eq_false h0 : decide ((((wide6 l_0 l_1 l_2 l_3 l_4 l_5 l_6 l_7) + (wide6 m_0 m_1 m_2 m_3 m_4 m_5 m_6 m_7)) + (wide6 n_0 n_1 n_2 n_3 n_4 n_5 n_6 n_7)) > (0 : Int)) = false),
     rfl,
     fun γ w' _ hm => by have h_ := Great6_any (some ⟨γ 3, 0, none⟩) [⟨a_0, a_1, a_2, a_3, a_4, a_5, a_6, a_7⟩, ⟨b_0, b_1, b_2, b_3, b_4, b_5, b_6, b_7⟩] 2 2 w' rfl (by simp) (RdP.of (SX.mem_at (b := 3) (l := [.pa 24, .pa 25, .pa 26, .pa 27, .pa 28, .pa 29, .pa 30, .pa 31, .pa 32, .pa 33, .pa 34, .pa 35, .pa 36, .pa 37, .pa 38, .pa 39]) hm rfl)); rw [greatI_no (by intro p hp; simp only [List.mem_cons, List.not_mem_nil, or_false] at hp; rcases hp with rfl | rfl <;> exact ⟨by assumption, by assumption, by assumption, by assumption⟩)] at h_; exact h_,
     congrArg (fun z => some (Value.bool z)) (by decide : decide ((0 : Int) > (0 : Int)) = false),
     rfl,
     fun γ w' _ _ => form6_n hl (by decide) w' gl,
     fun γ w' _ _ => form6_n hm (by decide) w' gm,
     fun γ w' _ _ => form6_n hn (by decide) w' gn,
     fun γ w' _ _ => p4Norm ha (by decide) w',
     fun γ w' _ _ => p4Norm hb (by decide) w',
     fun γ w' bw _ => by have h := inThree_any f1 (by decide) f2 (by decide) f3 (by decide) w' (hT.later bw) (prim_flat gl) (prim_flat gm) (prim_flat gn); rw [threeV, if_neg hd] at h; exact h,
     fun γ w' bw _ => by have h := inThree_any f3 (by decide) f1 (by decide) f2 (by decide) w' (hT.later bw) (prim_flat gn) (prim_flat gl) (prim_flat gm); rw [threeV, det_turn, three_turn, if_neg hd] at h; exact h,
     congrArg (fun z => some (Value.bool z)) (by first | rfl | exact beq_self_eq_true _ | (rw [on1]; rfl) | (rw [on2]; rfl) | (rw [on3]; rfl) | (rw [onl]; rfl) : (!(true == true)) = false),
     rfl,
     ⟨rfl, rfl, eqv_yes (eqL_P (threeF (prim l) (prim m) (prim n)) (threeF (prim l) (prim m) (prim n))) (by first | rfl | exact beq_self_eq_true _ | (rw [on1]; rfl) | (rw [on2]; rfl) | (rw [on3]; rfl) | (rw [onl]; rfl)) rfl⟩,
     rfl,
     rfl,
     fun γ w' _ _ => plSide f1 (by decide) f6 (by decide) w',
     congrArg (fun z => some (Value.bool z)) (by first | rfl | exact beq_self_eq_true _ | (rw [on1]; rfl) | (rw [on2]; rfl) | (rw [on3]; rfl) | (rw [onl]; rfl) : ((sideF (prim l) (threeF (prim l) (prim m) (prim n))) != (0 : Int)) = false),
     rfl,
     fun γ w' _ _ => plSide f2 (by decide) f6 (by decide) w',
     congrArg (fun z => some (Value.bool z)) (by first | rfl | exact beq_self_eq_true _ | (rw [on1]; rfl) | (rw [on2]; rfl) | (rw [on3]; rfl) | (rw [onl]; rfl) : ((sideF (prim m) (threeF (prim l) (prim m) (prim n))) != (0 : Int)) = false),
     rfl,
     fun γ w' _ _ => plSide f3 (by decide) f6 (by decide) w',
     congrArg (fun z => some (Value.bool z)) (by first | rfl | exact beq_self_eq_true _ | (rw [on1]; rfl) | (rw [on2]; rfl) | (rw [on3]; rfl) | (rw [onl]; rfl) : ((sideF (prim n) (threeF (prim l) (prim m) (prim n))) != (0 : Int)) = false),
     rfl,
     fun γ w' bw _ => by have h := inLine_any f1 (by decide) f4 (by decide) f5 (by decide) w' (hT.later bw) (prim_flat gl); rw [lineV, if_neg kb] at h; exact h,
     congrArg (fun z => some (Value.bool z)) (by first | rfl | exact beq_self_eq_true _ | (rw [on1]; rfl) | (rw [on2]; rfl) | (rw [on3]; rfl) | (rw [onl]; rfl) : (!true) = false),
     rfl,
     fun γ w' _ _ => plFlip f1 (by decide) w',
     fun γ w' bw _ => by have h := inLine_any f8 (by decide) f5 (by decide) f4 (by decide) w' (hT.later bw) (fun e => (prim_flat gl) ((flat_neg _).1 e)); rw [lineV, by_back, line_back kb, if_neg kb] at h; exact h,
     fun γ w' bw _ => fixed6_any w' (hT.later bw),
     rfl,
     fun γ w' _ _ => plSide f1 (by decide) f7 (by decide) w',
     congrArg (fun z => some (Value.bool z)) (by first | rfl | exact beq_self_eq_true _ | (rw [on1]; rfl) | (rw [on2]; rfl) | (rw [on3]; rfl) | (rw [onl]; rfl) : ((sideF (prim l) (lineF (prim l) a b)) == (0 : Int)) = true),
     rfl,
     fun γ w' bw _ => by have h := inCollinear f4 (by decide) f5 (by decide) f7 (by decide) w' (hT.later bw); rw [decide_eq_true (line_straight _ _ _)] at h; exact h,
     rfl,
     rfl,
     ⟨rfl, rfl, eqv_yes (eqL_P (lineF (prim l) a b) (lineF (prim l) a b)) (by first | rfl | exact beq_self_eq_true _ | (rw [on1]; rfl) | (rw [on2]; rfl) | (rw [on3]; rfl) | (rw [onl]; rfl)) rfl⟩⟩
theorem Incidence_any (l_0 : Bool) (l_1 : ByteArray) (l_2 : Bool) (l_3 : ByteArray) (l_4 : Bool) (l_5 : ByteArray) (l_6 : Bool) (l_7 : ByteArray) (m_0 : Bool) (m_1 : ByteArray) (m_2 : Bool) (m_3 : ByteArray) (m_4 : Bool) (m_5 : ByteArray) (m_6 : Bool) (m_7 : ByteArray) (n_0 : Bool) (n_1 : ByteArray) (n_2 : Bool) (n_3 : ByteArray) (n_4 : Bool) (n_5 : ByteArray) (n_6 : Bool) (n_7 : ByteArray) (a_0 : Bool) (a_1 : ByteArray) (a_2 : Bool) (a_3 : ByteArray) (a_4 : Bool) (a_5 : ByteArray) (a_6 : Bool) (a_7 : ByteArray) (b_0 : Bool) (b_1 : ByteArray) (b_2 : Bool) (b_3 : ByteArray) (b_4 : Bool) (b_5 : ByteArray) (b_6 : Bool) (b_7 : ByteArray) (w : World) (hT : TabC w) :
    Calls Tryd.prog 3 #[.agg #[.bool l_0, .string l_1, .bool l_2, .string l_3, .bool l_4, .string l_5, .bool l_6, .string l_7, .bool m_0, .string m_1, .bool m_2, .string m_3, .bool m_4, .string m_5, .bool m_6, .string m_7, .bool n_0, .string n_1, .bool n_2, .string n_3, .bool n_4, .string n_5, .bool n_6, .string n_7], .agg #[.bool a_0, .string a_1, .bool a_2, .string a_3, .bool a_4, .string a_5, .bool a_6, .string a_7], .agg #[.bool b_0, .string b_1, .bool b_2, .string b_3, .bool b_4, .string b_5, .bool b_6, .string b_7]] w fun e w' => e = .returned (.bool true) ∧ Below w.heap.size w w' := by
  by_cases h : 0 < (((wide6 l_0 l_1 l_2 l_3 l_4 l_5 l_6 l_7) + (wide6 m_0 m_1 m_2 m_3 m_4 m_5 m_6 m_7)) + (wide6 n_0 n_1 n_2 n_3 n_4 n_5 n_6 n_7))
  · exact Incidence_w l_0 l_1 l_2 l_3 l_4 l_5 l_6 l_7 m_0 m_1 m_2 m_3 m_4 m_5 m_6 m_7 n_0 n_1 n_2 n_3 n_4 n_5 n_6 n_7 a_0 a_1 a_2 a_3 a_4 a_5 a_6 a_7 b_0 b_1 b_2 b_3 b_4 b_5 b_6 b_7 w hT h
  by_cases g : a_1.size ≤ 6 ∧ a_3.size ≤ 6 ∧ a_5.size ≤ 6 ∧ a_7.size ≤ 6 ∧ b_1.size ≤ 6 ∧ b_3.size ≤ 6 ∧ b_5.size ≤ 6 ∧ b_7.size ≤ 6
  rotate_left
  · exact Incidence_g l_0 l_1 l_2 l_3 l_4 l_5 l_6 l_7 m_0 m_1 m_2 m_3 m_4 m_5 m_6 m_7 n_0 n_1 n_2 n_3 n_4 n_5 n_6 n_7 a_0 a_1 a_2 a_3 a_4 a_5 a_6 a_7 b_0 b_1 b_2 b_3 b_4 b_5 b_6 b_7 w hT h g
  obtain ⟨ha_1, ha_3, ha_5, ha_7, hb_1, hb_3, hb_5, hb_7⟩ := g
  have bl := wide6_bd l_0 l_1 l_2 l_3 l_4 l_5 l_6 l_7
  have bm := wide6_bd m_0 m_1 m_2 m_3 m_4 m_5 m_6 m_7
  have bn := wide6_bd n_0 n_1 n_2 n_3 n_4 n_5 n_6 n_7
  obtain ⟨⟨hl_1, hl_3, hl_5, hl_7⟩, gl⟩ := wide6_zero.1 (show wide6 l_0 l_1 l_2 l_3 l_4 l_5 l_6 l_7 = 0 by omega)
  obtain ⟨⟨hm_1, hm_3, hm_5, hm_7⟩, gm⟩ := wide6_zero.1 (show wide6 m_0 m_1 m_2 m_3 m_4 m_5 m_6 m_7 = 0 by omega)
  obtain ⟨⟨hn_1, hn_3, hn_5, hn_7⟩, gn⟩ := wide6_zero.1 (show wide6 n_0 n_1 n_2 n_3 n_4 n_5 n_6 n_7 = 0 by omega)
  by_cases hd : detF (prim (Z4.mk (iv l_0 l_1) (iv l_2 l_3) (iv l_4 l_5) (iv l_6 l_7))) (prim (Z4.mk (iv m_0 m_1) (iv m_2 m_3) (iv m_4 m_5) (iv m_6 m_7))) (prim (Z4.mk (iv n_0 n_1) (iv n_2 n_3) (iv n_4 n_5) (iv n_6 n_7))) = 0
  · by_cases kb : byF (prim (Z4.mk (iv l_0 l_1) (iv l_2 l_3) (iv l_4 l_5) (iv l_6 l_7))) (pt ⟨iv a_0 a_1, iv a_2 a_3, iv a_4 a_5, iv a_6 a_7⟩) (pt ⟨iv b_0 b_1, iv b_2 b_3, iv b_4 b_5, iv b_6 b_7⟩) = 0
    · exact Incidence_00 l_0 l_1 l_2 l_3 l_4 l_5 l_6 l_7 m_0 m_1 m_2 m_3 m_4 m_5 m_6 m_7 n_0 n_1 n_2 n_3 n_4 n_5 n_6 n_7 a_0 a_1 a_2 a_3 a_4 a_5 a_6 a_7 b_0 b_1 b_2 b_3 b_4 b_5 b_6 b_7 w hT hl_1 hl_3 hl_5 hl_7 hm_1 hm_3 hm_5 hm_7 hn_1 hn_3 hn_5 hn_7 ha_1 ha_3 ha_5 ha_7 hb_1 hb_3 hb_5 hb_7 gl gm gn h hd kb
    · exact Incidence_01 l_0 l_1 l_2 l_3 l_4 l_5 l_6 l_7 m_0 m_1 m_2 m_3 m_4 m_5 m_6 m_7 n_0 n_1 n_2 n_3 n_4 n_5 n_6 n_7 a_0 a_1 a_2 a_3 a_4 a_5 a_6 a_7 b_0 b_1 b_2 b_3 b_4 b_5 b_6 b_7 w hT hl_1 hl_3 hl_5 hl_7 hm_1 hm_3 hm_5 hm_7 hn_1 hn_3 hn_5 hn_7 ha_1 ha_3 ha_5 ha_7 hb_1 hb_3 hb_5 hb_7 gl gm gn h hd kb
  · by_cases kb : byF (prim (Z4.mk (iv l_0 l_1) (iv l_2 l_3) (iv l_4 l_5) (iv l_6 l_7))) (pt ⟨iv a_0 a_1, iv a_2 a_3, iv a_4 a_5, iv a_6 a_7⟩) (pt ⟨iv b_0 b_1, iv b_2 b_3, iv b_4 b_5, iv b_6 b_7⟩) = 0
    · exact Incidence_10 l_0 l_1 l_2 l_3 l_4 l_5 l_6 l_7 m_0 m_1 m_2 m_3 m_4 m_5 m_6 m_7 n_0 n_1 n_2 n_3 n_4 n_5 n_6 n_7 a_0 a_1 a_2 a_3 a_4 a_5 a_6 a_7 b_0 b_1 b_2 b_3 b_4 b_5 b_6 b_7 w hT hl_1 hl_3 hl_5 hl_7 hm_1 hm_3 hm_5 hm_7 hn_1 hn_3 hn_5 hn_7 ha_1 ha_3 ha_5 ha_7 hb_1 hb_3 hb_5 hb_7 gl gm gn h hd kb
    · exact Incidence_11 l_0 l_1 l_2 l_3 l_4 l_5 l_6 l_7 m_0 m_1 m_2 m_3 m_4 m_5 m_6 m_7 n_0 n_1 n_2 n_3 n_4 n_5 n_6 n_7 a_0 a_1 a_2 a_3 a_4 a_5 a_6 a_7 b_0 b_1 b_2 b_3 b_4 b_5 b_6 b_7 w hT hl_1 hl_3 hl_5 hl_7 hm_1 hm_3 hm_5 hm_7 hn_1 hn_3 hn_5 hn_7 ha_1 ha_3 ha_5 ha_7 hb_1 hb_3 hb_5 hb_7 gl gm gn h hd kb
end Go.Proofs.YtfapglafeghggaaDoor
