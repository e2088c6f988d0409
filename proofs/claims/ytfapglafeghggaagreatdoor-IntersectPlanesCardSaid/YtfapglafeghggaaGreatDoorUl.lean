/- Laws Planes, Line, Predicates, Incidence, Orientation of layer 6. -/
import Derived.Test.YtfapglafeghggaaGreatDoorUe
import Derived.Test.YtfapglafeghggaaGreatDoorUg
import Derived.Test.YtfapglafeghggaaGreatDoorVd
set_option linter.unusedVariables false
set_option linter.unusedSimpArgs false
namespace Go.Proofs.YtfapglafeghggaaGreatDoor
open Go.RowKit NM SX
set_option maxRecDepth 100000 in
theorem Planes_w (a_0 : Bool) (a_1 : ByteArray) (a_2 : Bool) (a_3 : ByteArray) (a_4 : Bool) (a_5 : ByteArray) (a_6 : Bool) (a_7 : ByteArray) (b_0 : Bool) (b_1 : ByteArray) (b_2 : Bool) (b_3 : ByteArray) (b_4 : Bool) (b_5 : ByteArray) (b_6 : Bool) (b_7 : ByteArray) (c_0 : Bool) (c_1 : ByteArray) (c_2 : Bool) (c_3 : ByteArray) (c_4 : Bool) (c_5 : ByteArray) (c_6 : Bool) (c_7 : ByteArray) (w : World) (hT : TabC w) (h : 0 < (((wide6 a_0 a_1 a_2 a_3 a_4 a_5 a_6 a_7) + (wide6 b_0 b_1 b_2 b_3 b_4 b_5 b_6 b_7)) + (wide6 c_0 c_1 c_2 c_3 c_4 c_5 c_6 c_7))) :
    Calls Tryz.prog 3 #[.agg #[.bool a_0, .string a_1, .bool a_2, .string a_3, .bool a_4, .string a_5, .bool a_6, .string a_7], .agg #[.bool b_0, .string b_1, .bool b_2, .string b_3, .bool b_4, .string b_5, .bool b_6, .string b_7], .agg #[.bool c_0, .string c_1, .bool c_2, .string c_3, .bool c_4, .string c_5, .bool c_6, .string c_7]] w fun e w' => e = .returned (.bool true) ∧ Below w.heap.size w w' := by
  have ba := wide6_bd a_0 a_1 a_2 a_3 a_4 a_5 a_6 a_7
  have bb := wide6_bd b_0 b_1 b_2 b_3 b_4 b_5 b_6 b_7
  have bc := wide6_bd c_0 c_1 c_2 c_3 c_4 c_5 c_6 c_7
  exact SX.run (w := w) (.bool a_0 :: .string a_1 :: .bool a_2 :: .string a_3 :: .bool a_4 :: .string a_5 :: .bool a_6 :: .string a_7 :: .bool b_0 :: .string b_1 :: .bool b_2 :: .string b_3 :: .bool b_4 :: .string b_5 :: .bool b_6 :: .string b_7 :: .bool c_0 :: .string c_1 :: .bool c_2 :: .string c_3 :: .bool c_4 :: .string c_5 :: .bool c_6 :: .string c_7 :: .int .i64 (wide6 a_0 a_1 a_2 a_3 a_4 a_5 a_6 a_7) :: .int .i64 (wide6 b_0 b_1 b_2 b_3 b_4 b_5 b_6 b_7) :: .int .i64 ((wide6 a_0 a_1 a_2 a_3 a_4 a_5 a_6 a_7) + (wide6 b_0 b_1 b_2 b_3 b_4 b_5 b_6 b_7)) :: .int .i64 (wide6 c_0 c_1 c_2 c_3 c_4 c_5 c_6 c_7) :: .int .i64 (((wide6 a_0 a_1 a_2 a_3 a_4 a_5 a_6 a_7) + (wide6 b_0 b_1 b_2 b_3 b_4 b_5 b_6 b_7)) + (wide6 c_0 c_1 c_2 c_3 c_4 c_5 c_6 c_7)) :: .bool true :: .bool true :: []) [.b true] [.ga 0 8, .ga 8 8, .ga 16 8] 24 (.one (.ca 30)) [.call 8 [.ga 0 8] (.one (.ca 24)) [], .call 8 [.ga 8 8] (.one (.ca 25)) [], .op2 false .add (.pa 24) (.pa 25) 26, .call 8 [.ga 16 8] (.one (.ca 27)) [], .op2 false .add (.pa 26) (.pa 27) 28, .op2 false .gtr (.pa 28) (.p (.lit (.int .i64 0))) 29, .isB 29 true, .call 9 [] (.one (.ca 30)) []] Tryz.func3 (by kernel_rfl) rfl (by kernel_rfl) rfl (by kernel_rfl)
    ⟨fun γ w' _ _ => Wide6_any a_0 a_1 a_2 a_3 a_4 a_5 a_6 a_7 w',
     fun γ w' _ _ => Wide6_any b_0 b_1 b_2 b_3 b_4 b_5 b_6 b_7 w',
     congrArg (fun z => some (Value.int .i64 z)) (by rw [IntKind.wrap_i64]; omega : IntKind.wrap .i64 ((wide6 a_0 a_1 a_2 a_3 a_4 a_5 a_6 a_7) + (wide6 b_0 b_1 b_2 b_3 b_4 b_5 b_6 b_7)) = ((wide6 a_0 a_1 a_2 a_3 a_4 a_5 a_6 a_7) + (wide6 b_0 b_1 b_2 b_3 b_4 b_5 b_6 b_7))),
     fun γ w' _ _ => Wide6_any c_0 c_1 c_2 c_3 c_4 c_5 c_6 c_7 w',
     congrArg (fun z => some (Value.int .i64 z)) (by rw [IntKind.wrap_i64]; omega : IntKind.wrap .i64 (((wide6 a_0 a_1 a_2 a_3 a_4 a_5 a_6 a_7) + (wide6 b_0 b_1 b_2 b_3 b_4 b_5 b_6 b_7)) + (wide6 c_0 c_1 c_2 c_3 c_4 c_5 c_6 c_7)) = (((wide6 a_0 a_1 a_2 a_3 a_4 a_5 a_6 a_7) + (wide6 b_0 b_1 b_2 b_3 b_4 b_5 b_6 b_7)) + (wide6 c_0 c_1 c_2 c_3 c_4 c_5 c_6 c_7))),
     congrArg (fun z => some (Value.bool z)) (decide_eq_true h : decide ((((wide6 a_0 a_1 a_2 a_3 a_4 a_5 a_6 a_7) + (wide6 b_0 b_1 b_2 b_3 b_4 b_5 b_6 b_7)) + (wide6 c_0 c_1 c_2 c_3 c_4 c_5 c_6 c_7)) > (0 : Int)) = true),
     rfl,
     fun γ w' bw _ => fixed6_any w' (hT.later bw)⟩
set_option maxRecDepth 100000 in
theorem Planes_0 (a_0 : Bool) (a_1 : ByteArray) (a_2 : Bool) (a_3 : ByteArray) (a_4 : Bool) (a_5 : ByteArray) (a_6 : Bool) (a_7 : ByteArray) (b_0 : Bool) (b_1 : ByteArray) (b_2 : Bool) (b_3 : ByteArray) (b_4 : Bool) (b_5 : ByteArray) (b_6 : Bool) (b_7 : ByteArray) (c_0 : Bool) (c_1 : ByteArray) (c_2 : Bool) (c_3 : ByteArray) (c_4 : Bool) (c_5 : ByteArray) (c_6 : Bool) (c_7 : ByteArray) (w : World) (hT : TabC w) (ha_1 : a_1.size ≤ 6) (ha_3 : a_3.size ≤ 6) (ha_5 : a_5.size ≤ 6) (ha_7 : a_7.size ≤ 6) (hb_1 : b_1.size ≤ 6) (hb_3 : b_3.size ≤ 6) (hb_5 : b_5.size ≤ 6) (hb_7 : b_7.size ≤ 6) (hc_1 : c_1.size ≤ 6) (hc_3 : c_3.size ≤ 6) (hc_5 : c_5.size ≤ 6) (hc_7 : c_7.size ≤ 6) (ga : ¬ flatF (Z4.mk (iv a_0 a_1) (iv a_2 a_3) (iv a_4 a_5) (iv a_6 a_7))) (gb : ¬ flatF (Z4.mk (iv b_0 b_1) (iv b_2 b_3) (iv b_4 b_5) (iv b_6 b_7))) (gc : ¬ flatF (Z4.mk (iv c_0 c_1) (iv c_2 c_3) (iv c_4 c_5) (iv c_6 c_7))) (h : ¬ 0 < (((wide6 a_0 a_1 a_2 a_3 a_4 a_5 a_6 a_7) + (wide6 b_0 b_1 b_2 b_3 b_4 b_5 b_6 b_7)) + (wide6 c_0 c_1 c_2 c_3 c_4 c_5 c_6 c_7))) (hd : detF (prim (Z4.mk (iv a_0 a_1) (iv a_2 a_3) (iv a_4 a_5) (iv a_6 a_7))) (prim (Z4.mk (iv b_0 b_1) (iv b_2 b_3) (iv b_4 b_5) (iv b_6 b_7))) (prim (Z4.mk (iv c_0 c_1) (iv c_2 c_3) (iv c_4 c_5) (iv c_6 c_7))) = 0) :
    Calls Tryz.prog 3 #[.agg #[.bool a_0, .string a_1, .bool a_2, .string a_3, .bool a_4, .string a_5, .bool a_6, .string a_7], .agg #[.bool b_0, .string b_1, .bool b_2, .string b_3, .bool b_4, .string b_5, .bool b_6, .string b_7], .agg #[.bool c_0, .string c_1, .bool c_2, .string c_3, .bool c_4, .string c_5, .bool c_6, .string c_7]] w fun e w' => e = .returned (.bool true) ∧ Below w.heap.size w w' := by
  obtain ⟨a, ha, ra⟩ : ∃ q, IsF (.agg #[.bool a_0, .string a_1, .bool a_2, .string a_3, .bool a_4, .string a_5, .bool a_6, .string a_7]) q 6 ∧ q = ⟨iv a_0 a_1, iv a_2 a_3, iv a_4 a_5, iv a_6 a_7⟩ := ⟨⟨_, _, _, _⟩, ⟨_, _, _, _, _, _, _, _, rfl, rfl, ha_1, rfl, ha_3, rfl, ha_5, rfl, ha_7⟩, rfl⟩
  have za := ha.sz
  obtain ⟨b, hb, rb⟩ : ∃ q, IsF (.agg #[.bool b_0, .string b_1, .bool b_2, .string b_3, .bool b_4, .string b_5, .bool b_6, .string b_7]) q 6 ∧ q = ⟨iv b_0 b_1, iv b_2 b_3, iv b_4 b_5, iv b_6 b_7⟩ := ⟨⟨_, _, _, _⟩, ⟨_, _, _, _, _, _, _, _, rfl, rfl, hb_1, rfl, hb_3, rfl, hb_5, rfl, hb_7⟩, rfl⟩
  have zb := hb.sz
  obtain ⟨c, hc, rc⟩ : ∃ q, IsF (.agg #[.bool c_0, .string c_1, .bool c_2, .string c_3, .bool c_4, .string c_5, .bool c_6, .string c_7]) q 6 ∧ q = ⟨iv c_0 c_1, iv c_2 c_3, iv c_4 c_5, iv c_6 c_7⟩ := ⟨⟨_, _, _, _⟩, ⟨_, _, _, _, _, _, _, _, rfl, rfl, hc_1, rfl, hc_3, rfl, hc_5, rfl, hc_7⟩, rfl⟩
  have zc := hc.sz
  have ba := wide6_bd a_0 a_1 a_2 a_3 a_4 a_5 a_6 a_7
  have bb := wide6_bd b_0 b_1 b_2 b_3 b_4 b_5 b_6 b_7
  have bc := wide6_bd c_0 c_1 c_2 c_3 c_4 c_5 c_6 c_7
  rw [← ra] at ga
  rw [← rb] at gb
  rw [← rc] at gc
  rw [← ra, ← rb, ← rc] at hd
  have f1 : Fk (prim a) 6 := Fk.up ((Fk.prim za)) (by decide)
  have f2 : Fk (prim b) 6 := Fk.up ((Fk.prim zb)) (by decide)
  have f3 : Fk (prim c) 6 := Fk.up ((Fk.prim zc)) (by decide)
  exact SX.run (w := w) (List.flatten [(.bool a_0 :: .string a_1 :: .bool a_2 :: .string a_3 :: .bool a_4 :: .string a_5 :: .bool a_6 :: .string a_7 :: .bool b_0 :: .string b_1 :: .bool b_2 :: .string b_3 :: .bool b_4 :: .string b_5 :: .bool b_6 :: .string b_7 :: .bool c_0 :: .string c_1 :: .bool c_2 :: .string c_3 :: .bool c_4 :: .string c_5 :: .bool c_6 :: .string c_7 :: .int .i64 (wide6 a_0 a_1 a_2 a_3 a_4 a_5 a_6 a_7) :: .int .i64 (wide6 b_0 b_1 b_2 b_3 b_4 b_5 b_6 b_7) :: .int .i64 ((wide6 a_0 a_1 a_2 a_3 a_4 a_5 a_6 a_7) + (wide6 b_0 b_1 b_2 b_3 b_4 b_5 b_6 b_7)) :: .int .i64 (wide6 c_0 c_1 c_2 c_3 c_4 c_5 c_6 c_7) :: .int .i64 (((wide6 a_0 a_1 a_2 a_3 a_4 a_5 a_6 a_7) + (wide6 b_0 b_1 b_2 b_3 b_4 b_5 b_6 b_7)) + (wide6 c_0 c_1 c_2 c_3 c_4 c_5 c_6 c_7)) :: .bool false :: []), fc (prim a), fc (prim b), fc (prim c), [.bool false, .string ⟨#[]⟩, .bool false, .string ⟨#[]⟩, .bool false, .string ⟨#[]⟩, .bool false, .string ⟨#[]⟩, .bool false, .bool false, .string ⟨#[]⟩, .bool false, .string ⟨#[]⟩, .bool false, .string ⟨#[]⟩, .bool false, .string ⟨#[]⟩, .bool false, .bool true, .bool true, .bool true]]) [.b false, .b true, .b true] [.ga 0 8, .ga 8 8, .ga 16 8] 24 (.one (.ca 74)) [.call 8 [.ga 0 8] (.one (.ca 24)) [], .call 8 [.ga 8 8] (.one (.ca 25)) [], .op2 false .add (.pa 24) (.pa 25) 26, .call 8 [.ga 16 8] (.one (.ca 27)) [], .op2 false .add (.pa 26) (.pa 27) 28, .op2 false .gtr (.pa 28) (.p (.lit (.int .i64 0))) 29, .isB 29 false, .call 10 [.ga 0 8] (.one (.ga 30 8)) [], .call 10 [.ga 8 8] (.one (.ga 38 8)) [], .call 10 [.ga 16 8] (.one (.ga 46 8)) [], .call 11 [.ga 30 8, .ga 38 8, .ga 46 8] (.tup [.ga 54 8, .ca 62]) [], .call 12 [.ga 30 8, .ga 38 8, .ga 46 8] (.tup [.ga 63 8, .ca 71]) [], .call 9 [] (.one (.ca 72)) [], .isB 72 true, .eqs false [.b, .s, .b, .s, .b, .s, .b, .s] [.pa 54, .pa 55, .pa 56, .pa 57, .pa 58, .pa 59, .pa 60, .pa 61] [.pa 63, .pa 64, .pa 65, .pa 66, .pa 67, .pa 68, .pa 69, .pa 70] 73, .isB 73 true, .op2 true .eql (.pa 62) (.pa 71) 74] Tryz.func3 (by kernel_rfl) rfl (by kernel_rfl) rfl (by kernel_rfl)
    ⟨fun γ w' _ _ => Wide6_any a_0 a_1 a_2 a_3 a_4 a_5 a_6 a_7 w',
     fun γ w' _ _ => Wide6_any b_0 b_1 b_2 b_3 b_4 b_5 b_6 b_7 w',
     congrArg (fun z => some (Value.int .i64 z)) (by rw [IntKind.wrap_i64]; omega : IntKind.wrap .i64 ((wide6 a_0 a_1 a_2 a_3 a_4 a_5 a_6 a_7) + (wide6 b_0 b_1 b_2 b_3 b_4 b_5 b_6 b_7)) = ((wide6 a_0 a_1 a_2 a_3 a_4 a_5 a_6 a_7) + (wide6 b_0 b_1 b_2 b_3 b_4 b_5 b_6 b_7))),
     fun γ w' _ _ => Wide6_any c_0 c_1 c_2 c_3 c_4 c_5 c_6 c_7 w',
     congrArg (fun z => some (Value.int .i64 z)) (by rw [IntKind.wrap_i64]; omega : IntKind.wrap .i64 (((wide6 a_0 a_1 a_2 a_3 a_4 a_5 a_6 a_7) + (wide6 b_0 b_1 b_2 b_3 b_4 b_5 b_6 b_7)) + (wide6 c_0 c_1 c_2 c_3 c_4 c_5 c_6 c_7)) = (((wide6 a_0 a_1 a_2 a_3 a_4 a_5 a_6 a_7) + (wide6 b_0 b_1 b_2 b_3 b_4 b_5 b_6 b_7)) + (wide6 c_0 c_1 c_2 c_3 c_4 c_5 c_6 c_7))),
     congrArg (fun z => some (Value.bool z)) (decide_eq_false h : decide ((((wide6 a_0 a_1 a_2 a_3 a_4 a_5 a_6 a_7) + (wide6 b_0 b_1 b_2 b_3 b_4 b_5 b_6 b_7)) + (wide6 c_0 c_1 c_2 c_3 c_4 c_5 c_6 c_7)) > (0 : Int)) = false),
     rfl,
     fun γ w' _ _ => form6_n ha (by decide) w' ga,
     fun γ w' _ _ => form6_n hb (by decide) w' gb,
     fun γ w' _ _ => form6_n hc (by decide) w' gc,
     fun γ w' bw _ => by have h := inThree_any f1 (by decide) f2 (by decide) f3 (by decide) w' (hT.later bw) (prim_flat ga) (prim_flat gb) (prim_flat gc); rw [threeV, if_pos hd] at h; exact h,
     fun γ w' bw _ => by have h := u6Three_any (IsF.can f1) (by decide) (IsF.can f2) (by decide) (IsF.can f3) (by decide) w'; rw [threeV, if_pos hd] at h; exact h,
     fun γ w' bw _ => fixed6_any w' (hT.later bw),
     rfl,
     ⟨rfl, rfl, eqv_yes (eqL_F (Z4.mk (0 : Int) (0 : Int) (0 : Int) (0 : Int)) (Z4.mk (0 : Int) (0 : Int) (0 : Int) (0 : Int))) (rfl) rfl⟩,
     rfl,
     congrArg (fun z => some (Value.bool z)) (by first | rfl | assumption | decide | simp [*] : (false == false) = true)⟩
set_option maxRecDepth 100000 in
theorem Planes_1 (a_0 : Bool) (a_1 : ByteArray) (a_2 : Bool) (a_3 : ByteArray) (a_4 : Bool) (a_5 : ByteArray) (a_6 : Bool) (a_7 : ByteArray) (b_0 : Bool) (b_1 : ByteArray) (b_2 : Bool) (b_3 : ByteArray) (b_4 : Bool) (b_5 : ByteArray) (b_6 : Bool) (b_7 : ByteArray) (c_0 : Bool) (c_1 : ByteArray) (c_2 : Bool) (c_3 : ByteArray) (c_4 : Bool) (c_5 : ByteArray) (c_6 : Bool) (c_7 : ByteArray) (w : World) (hT : TabC w) (ha_1 : a_1.size ≤ 6) (ha_3 : a_3.size ≤ 6) (ha_5 : a_5.size ≤ 6) (ha_7 : a_7.size ≤ 6) (hb_1 : b_1.size ≤ 6) (hb_3 : b_3.size ≤ 6) (hb_5 : b_5.size ≤ 6) (hb_7 : b_7.size ≤ 6) (hc_1 : c_1.size ≤ 6) (hc_3 : c_3.size ≤ 6) (hc_5 : c_5.size ≤ 6) (hc_7 : c_7.size ≤ 6) (ga : ¬ flatF (Z4.mk (iv a_0 a_1) (iv a_2 a_3) (iv a_4 a_5) (iv a_6 a_7))) (gb : ¬ flatF (Z4.mk (iv b_0 b_1) (iv b_2 b_3) (iv b_4 b_5) (iv b_6 b_7))) (gc : ¬ flatF (Z4.mk (iv c_0 c_1) (iv c_2 c_3) (iv c_4 c_5) (iv c_6 c_7))) (h : ¬ 0 < (((wide6 a_0 a_1 a_2 a_3 a_4 a_5 a_6 a_7) + (wide6 b_0 b_1 b_2 b_3 b_4 b_5 b_6 b_7)) + (wide6 c_0 c_1 c_2 c_3 c_4 c_5 c_6 c_7))) (hd : detF (prim (Z4.mk (iv a_0 a_1) (iv a_2 a_3) (iv a_4 a_5) (iv a_6 a_7))) (prim (Z4.mk (iv b_0 b_1) (iv b_2 b_3) (iv b_4 b_5) (iv b_6 b_7))) (prim (Z4.mk (iv c_0 c_1) (iv c_2 c_3) (iv c_4 c_5) (iv c_6 c_7))) ≠ 0) :
    Calls Tryz.prog 3 #[.agg #[.bool a_0, .string a_1, .bool a_2, .string a_3, .bool a_4, .string a_5, .bool a_6, .string a_7], .agg #[.bool b_0, .string b_1, .bool b_2, .string b_3, .bool b_4, .string b_5, .bool b_6, .string b_7], .agg #[.bool c_0, .string c_1, .bool c_2, .string c_3, .bool c_4, .string c_5, .bool c_6, .string c_7]] w fun e w' => e = .returned (.bool true) ∧ Below w.heap.size w w' := by
  obtain ⟨a, ha, ra⟩ : ∃ q, IsF (.agg #[.bool a_0, .string a_1, .bool a_2, .string a_3, .bool a_4, .string a_5, .bool a_6, .string a_7]) q 6 ∧ q = ⟨iv a_0 a_1, iv a_2 a_3, iv a_4 a_5, iv a_6 a_7⟩ := ⟨⟨_, _, _, _⟩, ⟨_, _, _, _, _, _, _, _, rfl, rfl, ha_1, rfl, ha_3, rfl, ha_5, rfl, ha_7⟩, rfl⟩
  have za := ha.sz
  obtain ⟨b, hb, rb⟩ : ∃ q, IsF (.agg #[.bool b_0, .string b_1, .bool b_2, .string b_3, .bool b_4, .string b_5, .bool b_6, .string b_7]) q 6 ∧ q = ⟨iv b_0 b_1, iv b_2 b_3, iv b_4 b_5, iv b_6 b_7⟩ := ⟨⟨_, _, _, _⟩, ⟨_, _, _, _, _, _, _, _, rfl, rfl, hb_1, rfl, hb_3, rfl, hb_5, rfl, hb_7⟩, rfl⟩
  have zb := hb.sz
  obtain ⟨c, hc, rc⟩ : ∃ q, IsF (.agg #[.bool c_0, .string c_1, .bool c_2, .string c_3, .bool c_4, .string c_5, .bool c_6, .string c_7]) q 6 ∧ q = ⟨iv c_0 c_1, iv c_2 c_3, iv c_4 c_5, iv c_6 c_7⟩ := ⟨⟨_, _, _, _⟩, ⟨_, _, _, _, _, _, _, _, rfl, rfl, hc_1, rfl, hc_3, rfl, hc_5, rfl, hc_7⟩, rfl⟩
  have zc := hc.sz
  have ba := wide6_bd a_0 a_1 a_2 a_3 a_4 a_5 a_6 a_7
  have bb := wide6_bd b_0 b_1 b_2 b_3 b_4 b_5 b_6 b_7
  have bc := wide6_bd c_0 c_1 c_2 c_3 c_4 c_5 c_6 c_7
  rw [← ra] at ga
  rw [← rb] at gb
  rw [← rc] at gc
  rw [← ra, ← rb, ← rc] at hd
  have f1 : Fk (prim a) 6 := Fk.up ((Fk.prim za)) (by decide)
  have f2 : Fk (prim b) 6 := Fk.up ((Fk.prim zb)) (by decide)
  have f3 : Fk (prim c) 6 := Fk.up ((Fk.prim zc)) (by decide)
  have f4 : Pk (threeF (prim a) (prim b) (prim c)) 708 := Pk.up ((Pk.three f1 f2 f3)) (by decide)
  exact SX.run (w := w) (List.flatten [(.bool a_0 :: .string a_1 :: .bool a_2 :: .string a_3 :: .bool a_4 :: .string a_5 :: .bool a_6 :: .string a_7 :: .bool b_0 :: .string b_1 :: .bool b_2 :: .string b_3 :: .bool b_4 :: .string b_5 :: .bool b_6 :: .string b_7 :: .bool c_0 :: .string c_1 :: .bool c_2 :: .string c_3 :: .bool c_4 :: .string c_5 :: .bool c_6 :: .string c_7 :: .int .i64 (wide6 a_0 a_1 a_2 a_3 a_4 a_5 a_6 a_7) :: .int .i64 (wide6 b_0 b_1 b_2 b_3 b_4 b_5 b_6 b_7) :: .int .i64 ((wide6 a_0 a_1 a_2 a_3 a_4 a_5 a_6 a_7) + (wide6 b_0 b_1 b_2 b_3 b_4 b_5 b_6 b_7)) :: .int .i64 (wide6 c_0 c_1 c_2 c_3 c_4 c_5 c_6 c_7) :: .int .i64 (((wide6 a_0 a_1 a_2 a_3 a_4 a_5 a_6 a_7) + (wide6 b_0 b_1 b_2 b_3 b_4 b_5 b_6 b_7)) + (wide6 c_0 c_1 c_2 c_3 c_4 c_5 c_6 c_7)) :: .bool false :: []), fc (prim a), fc (prim b), fc (prim c), pc (threeF (prim a) (prim b) (prim c)), [.bool true], pc (threeF (prim a) (prim b) (prim c)), [.bool true, .bool true, .bool true, .bool true]]) [.b false, .b true, .b true] [.ga 0 8, .ga 8 8, .ga 16 8] 24 (.one (.ca 74)) [.call 8 [.ga 0 8] (.one (.ca 24)) [], .call 8 [.ga 8 8] (.one (.ca 25)) [], .op2 false .add (.pa 24) (.pa 25) 26, .call 8 [.ga 16 8] (.one (.ca 27)) [], .op2 false .add (.pa 26) (.pa 27) 28, .op2 false .gtr (.pa 28) (.p (.lit (.int .i64 0))) 29, .isB 29 false, .call 10 [.ga 0 8] (.one (.ga 30 8)) [], .call 10 [.ga 8 8] (.one (.ga 38 8)) [], .call 10 [.ga 16 8] (.one (.ga 46 8)) [], .call 11 [.ga 30 8, .ga 38 8, .ga 46 8] (.tup [.ga 54 8, .ca 62]) [], .call 12 [.ga 30 8, .ga 38 8, .ga 46 8] (.tup [.ga 63 8, .ca 71]) [], .call 9 [] (.one (.ca 72)) [], .isB 72 true, .eqs false [.b, .s, .b, .s, .b, .s, .b, .s] [.pa 54, .pa 55, .pa 56, .pa 57, .pa 58, .pa 59, .pa 60, .pa 61] [.pa 63, .pa 64, .pa 65, .pa 66, .pa 67, .pa 68, .pa 69, .pa 70] 73, .isB 73 true, .op2 true .eql (.pa 62) (.pa 71) 74] Tryz.func3 (by kernel_rfl) rfl (by kernel_rfl) rfl (by kernel_rfl)
    ⟨fun γ w' _ _ => Wide6_any a_0 a_1 a_2 a_3 a_4 a_5 a_6 a_7 w',
     fun γ w' _ _ => Wide6_any b_0 b_1 b_2 b_3 b_4 b_5 b_6 b_7 w',
     congrArg (fun z => some (Value.int .i64 z)) (by rw [IntKind.wrap_i64]; omega : IntKind.wrap .i64 ((wide6 a_0 a_1 a_2 a_3 a_4 a_5 a_6 a_7) + (wide6 b_0 b_1 b_2 b_3 b_4 b_5 b_6 b_7)) = ((wide6 a_0 a_1 a_2 a_3 a_4 a_5 a_6 a_7) + (wide6 b_0 b_1 b_2 b_3 b_4 b_5 b_6 b_7))),
     fun γ w' _ _ => Wide6_any c_0 c_1 c_2 c_3 c_4 c_5 c_6 c_7 w',
     congrArg (fun z => some (Value.int .i64 z)) (by rw [IntKind.wrap_i64]; omega : IntKind.wrap .i64 (((wide6 a_0 a_1 a_2 a_3 a_4 a_5 a_6 a_7) + (wide6 b_0 b_1 b_2 b_3 b_4 b_5 b_6 b_7)) + (wide6 c_0 c_1 c_2 c_3 c_4 c_5 c_6 c_7)) = (((wide6 a_0 a_1 a_2 a_3 a_4 a_5 a_6 a_7) + (wide6 b_0 b_1 b_2 b_3 b_4 b_5 b_6 b_7)) + (wide6 c_0 c_1 c_2 c_3 c_4 c_5 c_6 c_7))),
     congrArg (fun z => some (Value.bool z)) (decide_eq_false h : decide ((((wide6 a_0 a_1 a_2 a_3 a_4 a_5 a_6 a_7) + (wide6 b_0 b_1 b_2 b_3 b_4 b_5 b_6 b_7)) + (wide6 c_0 c_1 c_2 c_3 c_4 c_5 c_6 c_7)) > (0 : Int)) = false),
     rfl,
     fun γ w' _ _ => form6_n ha (by decide) w' ga,
     fun γ w' _ _ => form6_n hb (by decide) w' gb,
     fun γ w' _ _ => form6_n hc (by decide) w' gc,
     fun γ w' bw _ => by have h := inThree_any f1 (by decide) f2 (by decide) f3 (by decide) w' (hT.later bw) (prim_flat ga) (prim_flat gb) (prim_flat gc); rw [threeV, if_neg hd] at h; exact h,
     fun γ w' bw _ => by have h := u6Three_any (IsF.can f1) (by decide) (IsF.can f2) (by decide) (IsF.can f3) (by decide) w'; rw [threeV, if_neg hd] at h; exact h,
     fun γ w' bw _ => fixed6_any w' (hT.later bw),
     rfl,
     ⟨rfl, rfl, eqv_yes (eqL_P (threeF (prim a) (prim b) (prim c)) (threeF (prim a) (prim b) (prim c))) (rfl) rfl⟩,
     rfl,
     congrArg (fun z => some (Value.bool z)) (by first | rfl | assumption | decide | simp [*] : (true == true) = true)⟩
theorem Planes_any (a_0 : Bool) (a_1 : ByteArray) (a_2 : Bool) (a_3 : ByteArray) (a_4 : Bool) (a_5 : ByteArray) (a_6 : Bool) (a_7 : ByteArray) (b_0 : Bool) (b_1 : ByteArray) (b_2 : Bool) (b_3 : ByteArray) (b_4 : Bool) (b_5 : ByteArray) (b_6 : Bool) (b_7 : ByteArray) (c_0 : Bool) (c_1 : ByteArray) (c_2 : Bool) (c_3 : ByteArray) (c_4 : Bool) (c_5 : ByteArray) (c_6 : Bool) (c_7 : ByteArray) (w : World) (hT : TabC w) :
    Calls Tryz.prog 3 #[.agg #[.bool a_0, .string a_1, .bool a_2, .string a_3, .bool a_4, .string a_5, .bool a_6, .string a_7], .agg #[.bool b_0, .string b_1, .bool b_2, .string b_3, .bool b_4, .string b_5, .bool b_6, .string b_7], .agg #[.bool c_0, .string c_1, .bool c_2, .string c_3, .bool c_4, .string c_5, .bool c_6, .string c_7]] w fun e w' => e = .returned (.bool true) ∧ Below w.heap.size w w' := by
  by_cases h : 0 < (((wide6 a_0 a_1 a_2 a_3 a_4 a_5 a_6 a_7) + (wide6 b_0 b_1 b_2 b_3 b_4 b_5 b_6 b_7)) + (wide6 c_0 c_1 c_2 c_3 c_4 c_5 c_6 c_7))
  · exact Planes_w a_0 a_1 a_2 a_3 a_4 a_5 a_6 a_7 b_0 b_1 b_2 b_3 b_4 b_5 b_6 b_7 c_0 c_1 c_2 c_3 c_4 c_5 c_6 c_7 w hT h
  have ba := wide6_bd a_0 a_1 a_2 a_3 a_4 a_5 a_6 a_7
  have bb := wide6_bd b_0 b_1 b_2 b_3 b_4 b_5 b_6 b_7
  have bc := wide6_bd c_0 c_1 c_2 c_3 c_4 c_5 c_6 c_7
  obtain ⟨⟨ha_1, ha_3, ha_5, ha_7⟩, ga⟩ := wide6_zero.1 (show wide6 a_0 a_1 a_2 a_3 a_4 a_5 a_6 a_7 = 0 by omega)
  obtain ⟨⟨hb_1, hb_3, hb_5, hb_7⟩, gb⟩ := wide6_zero.1 (show wide6 b_0 b_1 b_2 b_3 b_4 b_5 b_6 b_7 = 0 by omega)
  obtain ⟨⟨hc_1, hc_3, hc_5, hc_7⟩, gc⟩ := wide6_zero.1 (show wide6 c_0 c_1 c_2 c_3 c_4 c_5 c_6 c_7 = 0 by omega)
  by_cases hd : detF (prim (Z4.mk (iv a_0 a_1) (iv a_2 a_3) (iv a_4 a_5) (iv a_6 a_7))) (prim (Z4.mk (iv b_0 b_1) (iv b_2 b_3) (iv b_4 b_5) (iv b_6 b_7))) (prim (Z4.mk (iv c_0 c_1) (iv c_2 c_3) (iv c_4 c_5) (iv c_6 c_7))) = 0
  · exact Planes_0 a_0 a_1 a_2 a_3 a_4 a_5 a_6 a_7 b_0 b_1 b_2 b_3 b_4 b_5 b_6 b_7 c_0 c_1 c_2 c_3 c_4 c_5 c_6 c_7 w hT ha_1 ha_3 ha_5 ha_7 hb_1 hb_3 hb_5 hb_7 hc_1 hc_3 hc_5 hc_7 ga gb gc h hd
  · exact Planes_1 a_0 a_1 a_2 a_3 a_4 a_5 a_6 a_7 b_0 b_1 b_2 b_3 b_4 b_5 b_6 b_7 c_0 c_1 c_2 c_3 c_4 c_5 c_6 c_7 w hT ha_1 ha_3 ha_5 ha_7 hb_1 hb_3 hb_5 hb_7 hc_1 hc_3 hc_5 hc_7 ga gb gc h hd
set_option maxRecDepth 100000 in
theorem Line_w (p_0 : Bool) (p_1 : ByteArray) (p_2 : Bool) (p_3 : ByteArray) (p_4 : Bool) (p_5 : ByteArray) (p_6 : Bool) (p_7 : ByteArray) (a_0 : Bool) (a_1 : ByteArray) (a_2 : Bool) (a_3 : ByteArray) (a_4 : Bool) (a_5 : ByteArray) (a_6 : Bool) (a_7 : ByteArray) (b_0 : Bool) (b_1 : ByteArray) (b_2 : Bool) (b_3 : ByteArray) (b_4 : Bool) (b_5 : ByteArray) (b_6 : Bool) (b_7 : ByteArray) (w : World) (hT : TabC w) (h : 0 < (wide6 p_0 p_1 p_2 p_3 p_4 p_5 p_6 p_7)) :
    Calls Tryz.prog 4 #[.agg #[.bool p_0, .string p_1, .bool p_2, .string p_3, .bool p_4, .string p_5, .bool p_6, .string p_7], .agg #[.bool a_0, .string a_1, .bool a_2, .string a_3, .bool a_4, .string a_5, .bool a_6, .string a_7], .agg #[.bool b_0, .string b_1, .bool b_2, .string b_3, .bool b_4, .string b_5, .bool b_6, .string b_7]] w fun e w' => e = .returned (.bool true) ∧ Below w.heap.size w w' := by
  have bp := wide6_bd p_0 p_1 p_2 p_3 p_4 p_5 p_6 p_7
  exact SX.run (w := w) [.bool p_0, .string p_1, .bool p_2, .string p_3, .bool p_4, .string p_5, .bool p_6, .string p_7, .bool a_0, .string a_1, .bool a_2, .string a_3, .bool a_4, .string a_5, .bool a_6, .string a_7, .bool b_0, .string b_1, .bool b_2, .string b_3, .bool b_4, .string b_5, .bool b_6, .string b_7, .int .i64 (wide6 p_0 p_1 p_2 p_3 p_4 p_5 p_6 p_7), .bool true, .bool true] [.b true] [.ga 0 8, .ga 8 8, .ga 16 8] 24 (.one (.ca 26)) [.call 8 [.ga 0 8] (.one (.ca 24)) [], .op2 false .gtr (.pa 24) (.p (.lit (.int .i64 0))) 25, .isB 25 true, .call 9 [] (.one (.ca 26)) []] Tryz.func4 (by kernel_rfl) rfl (by kernel_rfl) rfl (by kernel_rfl)
    ⟨fun γ w' _ _ => Wide6_any p_0 p_1 p_2 p_3 p_4 p_5 p_6 p_7 w',
     congrArg (fun z => some (Value.bool z)) (decide_eq_true h : decide ((wide6 p_0 p_1 p_2 p_3 p_4 p_5 p_6 p_7) > (0 : Int)) = true),
     rfl,
     fun γ w' bw _ => fixed6_any w' (hT.later bw)⟩
set_option maxRecDepth 100000 in
theorem Line_g (p_0 : Bool) (p_1 : ByteArray) (p_2 : Bool) (p_3 : ByteArray) (p_4 : Bool) (p_5 : ByteArray) (p_6 : Bool) (p_7 : ByteArray) (a_0 : Bool) (a_1 : ByteArray) (a_2 : Bool) (a_3 : ByteArray) (a_4 : Bool) (a_5 : ByteArray) (a_6 : Bool) (a_7 : ByteArray) (b_0 : Bool) (b_1 : ByteArray) (b_2 : Bool) (b_3 : ByteArray) (b_4 : Bool) (b_5 : ByteArray) (b_6 : Bool) (b_7 : ByteArray) (w : World) (hT : TabC w) (h0 : ¬ 0 < (wide6 p_0 p_1 p_2 p_3 p_4 p_5 p_6 p_7)) (h : ¬ (a_1.size ≤ 6 ∧ a_3.size ≤ 6 ∧ a_5.size ≤ 6 ∧ a_7.size ≤ 6 ∧ b_1.size ≤ 6 ∧ b_3.size ≤ 6 ∧ b_5.size ≤ 6 ∧ b_7.size ≤ 6)) :
    Calls Tryz.prog 4 #[.agg #[.bool p_0, .string p_1, .bool p_2, .string p_3, .bool p_4, .string p_5, .bool p_6, .string p_7], .agg #[.bool a_0, .string a_1, .bool a_2, .string a_3, .bool a_4, .string a_5, .bool a_6, .string a_7], .agg #[.bool b_0, .string b_1, .bool b_2, .string b_3, .bool b_4, .string b_5, .bool b_6, .string b_7]] w fun e w' => e = .returned (.bool true) ∧ Below w.heap.size w w' := by
  have bp := wide6_bd p_0 p_1 p_2 p_3 p_4 p_5 p_6 p_7
  exact SX.run (w := w) (.bool p_0 :: .string p_1 :: .bool p_2 :: .string p_3 :: .bool p_4 :: .string p_5 :: .bool p_6 :: .string p_7 :: .bool a_0 :: .string a_1 :: .bool a_2 :: .string a_3 :: .bool a_4 :: .string a_5 :: .bool a_6 :: .string a_7 :: .bool b_0 :: .string b_1 :: .bool b_2 :: .string b_3 :: .bool b_4 :: .string b_5 :: .bool b_6 :: .string b_7 :: .int .i64 (wide6 p_0 p_1 p_2 p_3 p_4 p_5 p_6 p_7) :: .bool false :: .int .i64 1 :: .bool true :: .bool true :: []) [.b false, .b true] [.ga 0 8, .ga 8 8, .ga 16 8] 24 (.one (.ca 28)) [.call 8 [.ga 0 8] (.one (.ca 24)) [], .op2 false .gtr (.pa 24) (.p (.lit (.int .i64 0))) 25, .isB 25 false, .call 13 [.c (.p (.slc 3 0 2 2))] (.one (.ca 26)) [(3073, .pa 8), (3074, .pa 9), (3075, .pa 10), (3076, .pa 11), (3077, .pa 12), (3078, .pa 13), (3079, .pa 14), (3080, .pa 15), (3081, .pa 16), (3082, .pa 17), (3083, .pa 18), (3084, .pa 19), (3085, .pa 20), (3086, .pa 21), (3087, .pa 22), (3088, .pa 23)], .op2 false .gtr (.pa 26) (.p (.lit (.int .i64 0))) 27, .isB 27 true, .call 9 [] (.one (.ca 28)) []] Tryz.func4 (by kernel_rfl) rfl (by kernel_rfl) rfl (by kernel_rfl)
    ⟨fun γ w' _ _ => Wide6_any p_0 p_1 p_2 p_3 p_4 p_5 p_6 p_7 w',
     congrArg (fun z => some (Value.bool z)) (decide_eq_false h0 : decide ((wide6 p_0 p_1 p_2 p_3 p_4 p_5 p_6 p_7) > (0 : Int)) = false),
     rfl,
     fun γ w' _ hm => by have h_ := Great6_any (some ⟨γ 3, 0, none⟩) [⟨a_0, a_1, a_2, a_3, a_4, a_5, a_6, a_7⟩, ⟨b_0, b_1, b_2, b_3, b_4, b_5, b_6, b_7⟩] 2 2 w' rfl (by simp) (RdP.of (SX.mem_at (b := 3) (l := [.pa 8, .pa 9, .pa 10, .pa 11, .pa 12, .pa 13, .pa 14, .pa 15, .pa 16, .pa 17, .pa 18, .pa 19, .pa 20, .pa 21, .pa 22, .pa 23]) hm rfl)); rw [greatI_yes (fun k => h ⟨(k ⟨a_0, a_1, a_2, a_3, a_4, a_5, a_6, a_7⟩ (by simp)).1, (k ⟨a_0, a_1, a_2, a_3, a_4, a_5, a_6, a_7⟩ (by simp)).2.1, (k ⟨a_0, a_1, a_2, a_3, a_4, a_5, a_6, a_7⟩ (by simp)).2.2.1, (k ⟨a_0, a_1, a_2, a_3, a_4, a_5, a_6, a_7⟩ (by simp)).2.2.2, (k ⟨b_0, b_1, b_2, b_3, b_4, b_5, b_6, b_7⟩ (by simp)).1, (k ⟨b_0, b_1, b_2, b_3, b_4, b_5, b_6, b_7⟩ (by simp)).2.1, (k ⟨b_0, b_1, b_2, b_3, b_4, b_5, b_6, b_7⟩ (by simp)).2.2.1, (k ⟨b_0, b_1, b_2, b_3, b_4, b_5, b_6, b_7⟩ (by simp)).2.2.2⟩)] at h_; exact h_,
     congrArg (fun z => some (Value.bool z)) (by decide : decide ((1 : Int) > (0 : Int)) = true),
     rfl,
     fun γ w' bw _ => fixed6_any w' (hT.later bw)⟩
set_option maxRecDepth 100000 in
theorem Line_0 (p_0 : Bool) (p_1 : ByteArray) (p_2 : Bool) (p_3 : ByteArray) (p_4 : Bool) (p_5 : ByteArray) (p_6 : Bool) (p_7 : ByteArray) (a_0 : Bool) (a_1 : ByteArray) (a_2 : Bool) (a_3 : ByteArray) (a_4 : Bool) (a_5 : ByteArray) (a_6 : Bool) (a_7 : ByteArray) (b_0 : Bool) (b_1 : ByteArray) (b_2 : Bool) (b_3 : ByteArray) (b_4 : Bool) (b_5 : ByteArray) (b_6 : Bool) (b_7 : ByteArray) (w : World) (hT : TabC w) (hp_1 : p_1.size ≤ 6) (hp_3 : p_3.size ≤ 6) (hp_5 : p_5.size ≤ 6) (hp_7 : p_7.size ≤ 6) (ha_1 : a_1.size ≤ 6) (ha_3 : a_3.size ≤ 6) (ha_5 : a_5.size ≤ 6) (ha_7 : a_7.size ≤ 6) (hb_1 : b_1.size ≤ 6) (hb_3 : b_3.size ≤ 6) (hb_5 : b_5.size ≤ 6) (hb_7 : b_7.size ≤ 6) (gp : ¬ flatF (Z4.mk (iv p_0 p_1) (iv p_2 p_3) (iv p_4 p_5) (iv p_6 p_7))) (h0 : ¬ 0 < (wide6 p_0 p_1 p_2 p_3 p_4 p_5 p_6 p_7)) (hd : byF (prim (Z4.mk (iv p_0 p_1) (iv p_2 p_3) (iv p_4 p_5) (iv p_6 p_7))) (pt ⟨iv a_0 a_1, iv a_2 a_3, iv a_4 a_5, iv a_6 a_7⟩) (pt ⟨iv b_0 b_1, iv b_2 b_3, iv b_4 b_5, iv b_6 b_7⟩) = 0) :
    Calls Tryz.prog 4 #[.agg #[.bool p_0, .string p_1, .bool p_2, .string p_3, .bool p_4, .string p_5, .bool p_6, .string p_7], .agg #[.bool a_0, .string a_1, .bool a_2, .string a_3, .bool a_4, .string a_5, .bool a_6, .string a_7], .agg #[.bool b_0, .string b_1, .bool b_2, .string b_3, .bool b_4, .string b_5, .bool b_6, .string b_7]] w fun e w' => e = .returned (.bool true) ∧ Below w.heap.size w w' := by
  obtain ⟨p, hp, rp⟩ : ∃ q, IsF (.agg #[.bool p_0, .string p_1, .bool p_2, .string p_3, .bool p_4, .string p_5, .bool p_6, .string p_7]) q 6 ∧ q = ⟨iv p_0 p_1, iv p_2 p_3, iv p_4 p_5, iv p_6 p_7⟩ := ⟨⟨_, _, _, _⟩, ⟨_, _, _, _, _, _, _, _, rfl, rfl, hp_1, rfl, hp_3, rfl, hp_5, rfl, hp_7⟩, rfl⟩
  have zp := hp.sz
  obtain ⟨aq, haq, raq⟩ : ∃ q, IsF (.agg #[.bool a_0, .string a_1, .bool a_2, .string a_3, .bool a_4, .string a_5, .bool a_6, .string a_7]) q 6 ∧ q = ⟨iv a_0 a_1, iv a_2 a_3, iv a_4 a_5, iv a_6 a_7⟩ := ⟨⟨_, _, _, _⟩, ⟨_, _, _, _, _, _, _, _, rfl, rfl, ha_1, rfl, ha_3, rfl, ha_5, rfl, ha_7⟩, rfl⟩
  have zaq := haq.sz
  obtain ⟨a, ea⟩ : ∃ p, p = pt aq := ⟨_, rfl⟩
  have ha : IsP (.agg #[.bool a_0, .string a_1, .bool a_2, .string a_3, .bool a_4, .string a_5, .bool a_6, .string a_7]) a 6 := by rw [ea]; exact haq.pt
  have za := ha.sz (by decide)
  have ra : a = pt ⟨iv a_0 a_1, iv a_2 a_3, iv a_4 a_5, iv a_6 a_7⟩ := by rw [ea, raq]
  obtain ⟨bq, hbq, rbq⟩ : ∃ q, IsF (.agg #[.bool b_0, .string b_1, .bool b_2, .string b_3, .bool b_4, .string b_5, .bool b_6, .string b_7]) q 6 ∧ q = ⟨iv b_0 b_1, iv b_2 b_3, iv b_4 b_5, iv b_6 b_7⟩ := ⟨⟨_, _, _, _⟩, ⟨_, _, _, _, _, _, _, _, rfl, rfl, hb_1, rfl, hb_3, rfl, hb_5, rfl, hb_7⟩, rfl⟩
  have zbq := hbq.sz
  obtain ⟨b, eb⟩ : ∃ p, p = pt bq := ⟨_, rfl⟩
  have hb : IsP (.agg #[.bool b_0, .string b_1, .bool b_2, .string b_3, .bool b_4, .string b_5, .bool b_6, .string b_7]) b 6 := by rw [eb]; exact hbq.pt
  have zb := hb.sz (by decide)
  have rb : b = pt ⟨iv b_0 b_1, iv b_2 b_3, iv b_4 b_5, iv b_6 b_7⟩ := by rw [eb, rbq]
  have bp := wide6_bd p_0 p_1 p_2 p_3 p_4 p_5 p_6 p_7
  rw [← rp] at gp
  rw [← rp, ← ra, ← rb] at hd
  have f1 : Fk (prim p) 6 := Fk.up ((Fk.prim zp)) (by decide)
  have f2 : Pk a 6 := Pk.up (za) (by decide)
  have f3 : Pk b 6 := Pk.up (zb) (by decide)
  exact SX.run (w := w) (List.flatten [(.bool p_0 :: .string p_1 :: .bool p_2 :: .string p_3 :: .bool p_4 :: .string p_5 :: .bool p_6 :: .string p_7 :: .bool a_0 :: .string a_1 :: .bool a_2 :: .string a_3 :: .bool a_4 :: .string a_5 :: .bool a_6 :: .string a_7 :: .bool b_0 :: .string b_1 :: .bool b_2 :: .string b_3 :: .bool b_4 :: .string b_5 :: .bool b_6 :: .string b_7 :: .int .i64 (wide6 p_0 p_1 p_2 p_3 p_4 p_5 p_6 p_7) :: .bool false :: .int .i64 0 :: .bool false :: []), fc (prim p), pc a, pc b, [.bool false, .string ⟨#[]⟩, .bool false, .string ⟨#[]⟩, .bool false, .string ⟨#[]⟩, .bool false, .string ⟨#[]⟩, .bool false, .bool false, .string ⟨#[]⟩, .bool false, .string ⟨#[]⟩, .bool false, .string ⟨#[]⟩, .bool false, .string ⟨#[]⟩, .bool false, .bool true, .bool true, .bool true]]) [.b false, .b false, .b true, .b true] [.ga 0 8, .ga 8 8, .ga 16 8] 24 (.one (.ca 72)) [.call 8 [.ga 0 8] (.one (.ca 24)) [], .op2 false .gtr (.pa 24) (.p (.lit (.int .i64 0))) 25, .isB 25 false, .call 13 [.c (.p (.slc 3 0 2 2))] (.one (.ca 26)) [(3073, .pa 8), (3074, .pa 9), (3075, .pa 10), (3076, .pa 11), (3077, .pa 12), (3078, .pa 13), (3079, .pa 14), (3080, .pa 15), (3081, .pa 16), (3082, .pa 17), (3083, .pa 18), (3084, .pa 19), (3085, .pa 20), (3086, .pa 21), (3087, .pa 22), (3088, .pa 23)], .op2 false .gtr (.pa 26) (.p (.lit (.int .i64 0))) 27, .isB 27 false, .call 10 [.ga 0 8] (.one (.ga 28 8)) [], .call 14 [.ga 8 8] (.one (.ga 36 8)) [], .call 14 [.ga 16 8] (.one (.ga 44 8)) [], .call 15 [.ga 28 8, .ga 36 8, .ga 44 8] (.tup [.ga 52 8, .ca 60]) [], .call 16 [.ga 28 8, .ga 36 8, .ga 44 8] (.tup [.ga 61 8, .ca 69]) [], .call 9 [] (.one (.ca 70)) [], .isB 70 true, .eqs false [.b, .s, .b, .s, .b, .s, .b, .s] [.pa 52, .pa 53, .pa 54, .pa 55, .pa 56, .pa 57, .pa 58, .pa 59] [.pa 61, .pa 62, .pa 63, .pa 64, .pa 65, .pa 66, .pa 67, .pa 68] 71, .isB 71 true, .op2 true .eql (.pa 60) (.pa 69) 72] Tryz.func4 (by kernel_rfl) rfl (by kernel_rfl) rfl (by kernel_rfl)
    ⟨fun γ w' _ _ => Wide6_any p_0 p_1 p_2 p_3 p_4 p_5 p_6 p_7 w',
     congrArg (fun z => some (Value.bool z)) (decide_eq_false h0 : decide ((wide6 p_0 p_1 p_2 p_3 p_4 p_5 p_6 p_7) > (0 : Int)) = false),
     rfl,
     fun γ w' _ hm => by have h_ := Great6_any (some ⟨γ 3, 0, none⟩) [⟨a_0, a_1, a_2, a_3, a_4, a_5, a_6, a_7⟩, ⟨b_0, b_1, b_2, b_3, b_4, b_5, b_6, b_7⟩] 2 2 w' rfl (by simp) (RdP.of (SX.mem_at (b := 3) (l := [.pa 8, .pa 9, .pa 10, .pa 11, .pa 12, .pa 13, .pa 14, .pa 15, .pa 16, .pa 17, .pa 18, .pa 19, .pa 20, .pa 21, .pa 22, .pa 23]) hm rfl)); rw [greatI_no (by intro p hp; simp only [List.mem_cons, List.not_mem_nil, or_false] at hp; rcases hp with rfl | rfl <;> exact ⟨by assumption, by assumption, by assumption, by assumption⟩)] at h_; exact h_,
     congrArg (fun z => some (Value.bool z)) (by decide : decide ((0 : Int) > (0 : Int)) = false),
     rfl,
     fun γ w' _ _ => form6_n hp (by decide) w' gp,
     fun γ w' _ _ => p4Norm ha (by decide) w',
     fun γ w' _ _ => p4Norm hb (by decide) w',
     fun γ w' bw _ => by have h := inLine_any f1 (by decide) f2 (by decide) f3 (by decide) w' (hT.later bw) (prim_flat gp); rw [lineV, if_pos hd] at h; exact h,
     fun γ w' bw _ => by have h := u6Cross_any (IsF.can f1) (by decide) (IsP.can f2) (by decide) (IsP.can f3) (by decide) w'; rw [lineV, if_pos hd] at h; exact h,
     fun γ w' bw _ => fixed6_any w' (hT.later bw),
     rfl,
     ⟨rfl, rfl, eqv_yes (eqL_F (Z4.mk (0 : Int) (0 : Int) (0 : Int) (0 : Int)) (Z4.mk (0 : Int) (0 : Int) (0 : Int) (0 : Int))) (rfl) rfl⟩,
     rfl,
     congrArg (fun z => some (Value.bool z)) (by first | rfl | assumption | decide | simp [*] : (false == false) = true)⟩
set_option maxRecDepth 100000 in
theorem Line_1 (p_0 : Bool) (p_1 : ByteArray) (p_2 : Bool) (p_3 : ByteArray) (p_4 : Bool) (p_5 : ByteArray) (p_6 : Bool) (p_7 : ByteArray) (a_0 : Bool) (a_1 : ByteArray) (a_2 : Bool) (a_3 : ByteArray) (a_4 : Bool) (a_5 : ByteArray) (a_6 : Bool) (a_7 : ByteArray) (b_0 : Bool) (b_1 : ByteArray) (b_2 : Bool) (b_3 : ByteArray) (b_4 : Bool) (b_5 : ByteArray) (b_6 : Bool) (b_7 : ByteArray) (w : World) (hT : TabC w) (hp_1 : p_1.size ≤ 6) (hp_3 : p_3.size ≤ 6) (hp_5 : p_5.size ≤ 6) (hp_7 : p_7.size ≤ 6) (ha_1 : a_1.size ≤ 6) (ha_3 : a_3.size ≤ 6) (ha_5 : a_5.size ≤ 6) (ha_7 : a_7.size ≤ 6) (hb_1 : b_1.size ≤ 6) (hb_3 : b_3.size ≤ 6) (hb_5 : b_5.size ≤ 6) (hb_7 : b_7.size ≤ 6) (gp : ¬ flatF (Z4.mk (iv p_0 p_1) (iv p_2 p_3) (iv p_4 p_5) (iv p_6 p_7))) (h0 : ¬ 0 < (wide6 p_0 p_1 p_2 p_3 p_4 p_5 p_6 p_7)) (hd : byF (prim (Z4.mk (iv p_0 p_1) (iv p_2 p_3) (iv p_4 p_5) (iv p_6 p_7))) (pt ⟨iv a_0 a_1, iv a_2 a_3, iv a_4 a_5, iv a_6 a_7⟩) (pt ⟨iv b_0 b_1, iv b_2 b_3, iv b_4 b_5, iv b_6 b_7⟩) ≠ 0) :
    Calls Tryz.prog 4 #[.agg #[.bool p_0, .string p_1, .bool p_2, .string p_3, .bool p_4, .string p_5, .bool p_6, .string p_7], .agg #[.bool a_0, .string a_1, .bool a_2, .string a_3, .bool a_4, .string a_5, .bool a_6, .string a_7], .agg #[.bool b_0, .string b_1, .bool b_2, .string b_3, .bool b_4, .string b_5, .bool b_6, .string b_7]] w fun e w' => e = .returned (.bool true) ∧ Below w.heap.size w w' := by
  obtain ⟨p, hp, rp⟩ : ∃ q, IsF (.agg #[.bool p_0, .string p_1, .bool p_2, .string p_3, .bool p_4, .string p_5, .bool p_6, .string p_7]) q 6 ∧ q = ⟨iv p_0 p_1, iv p_2 p_3, iv p_4 p_5, iv p_6 p_7⟩ := ⟨⟨_, _, _, _⟩, ⟨_, _, _, _, _, _, _, _, rfl, rfl, hp_1, rfl, hp_3, rfl, hp_5, rfl, hp_7⟩, rfl⟩
  have zp := hp.sz
  obtain ⟨aq, haq, raq⟩ : ∃ q, IsF (.agg #[.bool a_0, .string a_1, .bool a_2, .string a_3, .bool a_4, .string a_5, .bool a_6, .string a_7]) q 6 ∧ q = ⟨iv a_0 a_1, iv a_2 a_3, iv a_4 a_5, iv a_6 a_7⟩ := ⟨⟨_, _, _, _⟩, ⟨_, _, _, _, _, _, _, _, rfl, rfl, ha_1, rfl, ha_3, rfl, ha_5, rfl, ha_7⟩, rfl⟩
  have zaq := haq.sz
  obtain ⟨a, ea⟩ : ∃ p, p = pt aq := ⟨_, rfl⟩
  have ha : IsP (.agg #[.bool a_0, .string a_1, .bool a_2, .string a_3, .bool a_4, .string a_5, .bool a_6, .string a_7]) a 6 := by rw [ea]; exact haq.pt
  have za := ha.sz (by decide)
  have ra : a = pt ⟨iv a_0 a_1, iv a_2 a_3, iv a_4 a_5, iv a_6 a_7⟩ := by rw [ea, raq]
  obtain ⟨bq, hbq, rbq⟩ : ∃ q, IsF (.agg #[.bool b_0, .string b_1, .bool b_2, .string b_3, .bool b_4, .string b_5, .bool b_6, .string b_7]) q 6 ∧ q = ⟨iv b_0 b_1, iv b_2 b_3, iv b_4 b_5, iv b_6 b_7⟩ := ⟨⟨_, _, _, _⟩, ⟨_, _, _, _, _, _, _, _, rfl, rfl, hb_1, rfl, hb_3, rfl, hb_5, rfl, hb_7⟩, rfl⟩
  have zbq := hbq.sz
  obtain ⟨b, eb⟩ : ∃ p, p = pt bq := ⟨_, rfl⟩
  have hb : IsP (.agg #[.bool b_0, .string b_1, .bool b_2, .string b_3, .bool b_4, .string b_5, .bool b_6, .string b_7]) b 6 := by rw [eb]; exact hbq.pt
  have zb := hb.sz (by decide)
  have rb : b = pt ⟨iv b_0 b_1, iv b_2 b_3, iv b_4 b_5, iv b_6 b_7⟩ := by rw [eb, rbq]
  have bp := wide6_bd p_0 p_1 p_2 p_3 p_4 p_5 p_6 p_7
  rw [← rp] at gp
  rw [← rp, ← ra, ← rb] at hd
  have f1 : Fk (prim p) 6 := Fk.up ((Fk.prim zp)) (by decide)
  have f2 : Pk a 6 := Pk.up (za) (by decide)
  have f3 : Pk b 6 := Pk.up (zb) (by decide)
  have f4 : Pk (lineF (prim p) a b) 474 := Pk.up ((Pk.line f1 f2 f3)) (by decide)
  exact SX.run (w := w) (List.flatten [(.bool p_0 :: .string p_1 :: .bool p_2 :: .string p_3 :: .bool p_4 :: .string p_5 :: .bool p_6 :: .string p_7 :: .bool a_0 :: .string a_1 :: .bool a_2 :: .string a_3 :: .bool a_4 :: .string a_5 :: .bool a_6 :: .string a_7 :: .bool b_0 :: .string b_1 :: .bool b_2 :: .string b_3 :: .bool b_4 :: .string b_5 :: .bool b_6 :: .string b_7 :: .int .i64 (wide6 p_0 p_1 p_2 p_3 p_4 p_5 p_6 p_7) :: .bool false :: .int .i64 0 :: .bool false :: []), fc (prim p), pc a, pc b, pc (lineF (prim p) a b), [.bool true], pc (lineF (prim p) a b), [.bool true, .bool true, .bool true, .bool true]]) [.b false, .b false, .b true, .b true] [.ga 0 8, .ga 8 8, .ga 16 8] 24 (.one (.ca 72)) [.call 8 [.ga 0 8] (.one (.ca 24)) [], .op2 false .gtr (.pa 24) (.p (.lit (.int .i64 0))) 25, .isB 25 false, .call 13 [.c (.p (.slc 3 0 2 2))] (.one (.ca 26)) [(3073, .pa 8), (3074, .pa 9), (3075, .pa 10), (3076, .pa 11), (3077, .pa 12), (3078, .pa 13), (3079, .pa 14), (3080, .pa 15), (3081, .pa 16), (3082, .pa 17), (3083, .pa 18), (3084, .pa 19), (3085, .pa 20), (3086, .pa 21), (3087, .pa 22), (3088, .pa 23)], .op2 false .gtr (.pa 26) (.p (.lit (.int .i64 0))) 27, .isB 27 false, .call 10 [.ga 0 8] (.one (.ga 28 8)) [], .call 14 [.ga 8 8] (.one (.ga 36 8)) [], .call 14 [.ga 16 8] (.one (.ga 44 8)) [], .call 15 [.ga 28 8, .ga 36 8, .ga 44 8] (.tup [.ga 52 8, .ca 60]) [], .call 16 [.ga 28 8, .ga 36 8, .ga 44 8] (.tup [.ga 61 8, .ca 69]) [], .call 9 [] (.one (.ca 70)) [], .isB 70 true, .eqs false [.b, .s, .b, .s, .b, .s, .b, .s] [.pa 52, .pa 53, .pa 54, .pa 55, .pa 56, .pa 57, .pa 58, .pa 59] [.pa 61, .pa 62, .pa 63, .pa 64, .pa 65, .pa 66, .pa 67, .pa 68] 71, .isB 71 true, .op2 true .eql (.pa 60) (.pa 69) 72] Tryz.func4 (by kernel_rfl) rfl (by kernel_rfl) rfl (by kernel_rfl)
    ⟨fun γ w' _ _ => Wide6_any p_0 p_1 p_2 p_3 p_4 p_5 p_6 p_7 w',
     congrArg (fun z => some (Value.bool z)) (decide_eq_false h0 : decide ((wide6 p_0 p_1 p_2 p_3 p_4 p_5 p_6 p_7) > (0 : Int)) = false),
     rfl,
     fun γ w' _ hm => by have h_ := Great6_any (some ⟨γ 3, 0, none⟩) [⟨a_0, a_1, a_2, a_3, a_4, a_5, a_6, a_7⟩, ⟨b_0, b_1, b_2, b_3, b_4, b_5, b_6, b_7⟩] 2 2 w' rfl (by simp) (RdP.of (SX.mem_at (b := 3) (l := [.pa 8, .pa 9, .pa 10, .pa 11, .pa 12, .pa 13, .pa 14, .pa 15, .pa 16, .pa 17, .pa 18, .pa 19, .pa 20, .pa 21, .pa 22, .pa 23]) hm rfl)); rw [greatI_no (by intro p hp; simp only [List.mem_cons, List.not_mem_nil, or_false] at hp; rcases hp with rfl | rfl <;> exact ⟨by assumption, by assumption, by assumption, by assumption⟩)] at h_; exact h_,
     congrArg (fun z => some (Value.bool z)) (by decide : decide ((0 : Int) > (0 : Int)) = false),
     rfl,
     fun γ w' _ _ => form6_n hp (by decide) w' gp,
     fun γ w' _ _ => p4Norm ha (by decide) w',
     fun γ w' _ _ => p4Norm hb (by decide) w',
     fun γ w' bw _ => by have h := inLine_any f1 (by decide) f2 (by decide) f3 (by decide) w' (hT.later bw) (prim_flat gp); rw [lineV, if_neg hd] at h; exact h,
     fun γ w' bw _ => by have h := u6Cross_any (IsF.can f1) (by decide) (IsP.can f2) (by decide) (IsP.can f3) (by decide) w'; rw [lineV, if_neg hd] at h; exact h,
     fun γ w' bw _ => fixed6_any w' (hT.later bw),
     rfl,
     ⟨rfl, rfl, eqv_yes (eqL_P (lineF (prim p) a b) (lineF (prim p) a b)) (rfl) rfl⟩,
     rfl,
     congrArg (fun z => some (Value.bool z)) (by first | rfl | assumption | decide | simp [*] : (true == true) = true)⟩
theorem Line_any (p_0 : Bool) (p_1 : ByteArray) (p_2 : Bool) (p_3 : ByteArray) (p_4 : Bool) (p_5 : ByteArray) (p_6 : Bool) (p_7 : ByteArray) (a_0 : Bool) (a_1 : ByteArray) (a_2 : Bool) (a_3 : ByteArray) (a_4 : Bool) (a_5 : ByteArray) (a_6 : Bool) (a_7 : ByteArray) (b_0 : Bool) (b_1 : ByteArray) (b_2 : Bool) (b_3 : ByteArray) (b_4 : Bool) (b_5 : ByteArray) (b_6 : Bool) (b_7 : ByteArray) (w : World) (hT : TabC w) :
    Calls Tryz.prog 4 #[.agg #[.bool p_0, .string p_1, .bool p_2, .string p_3, .bool p_4, .string p_5, .bool p_6, .string p_7], .agg #[.bool a_0, .string a_1, .bool a_2, .string a_3, .bool a_4, .string a_5, .bool a_6, .string a_7], .agg #[.bool b_0, .string b_1, .bool b_2, .string b_3, .bool b_4, .string b_5, .bool b_6, .string b_7]] w fun e w' => e = .returned (.bool true) ∧ Below w.heap.size w w' := by
  by_cases h : 0 < (wide6 p_0 p_1 p_2 p_3 p_4 p_5 p_6 p_7)
  · exact Line_w p_0 p_1 p_2 p_3 p_4 p_5 p_6 p_7 a_0 a_1 a_2 a_3 a_4 a_5 a_6 a_7 b_0 b_1 b_2 b_3 b_4 b_5 b_6 b_7 w hT h
  by_cases g : a_1.size ≤ 6 ∧ a_3.size ≤ 6 ∧ a_5.size ≤ 6 ∧ a_7.size ≤ 6 ∧ b_1.size ≤ 6 ∧ b_3.size ≤ 6 ∧ b_5.size ≤ 6 ∧ b_7.size ≤ 6
  rotate_left
  · exact Line_g p_0 p_1 p_2 p_3 p_4 p_5 p_6 p_7 a_0 a_1 a_2 a_3 a_4 a_5 a_6 a_7 b_0 b_1 b_2 b_3 b_4 b_5 b_6 b_7 w hT h g
  obtain ⟨ha_1, ha_3, ha_5, ha_7, hb_1, hb_3, hb_5, hb_7⟩ := g
  have bp := wide6_bd p_0 p_1 p_2 p_3 p_4 p_5 p_6 p_7
  obtain ⟨⟨hp_1, hp_3, hp_5, hp_7⟩, gp⟩ := wide6_zero.1 (show wide6 p_0 p_1 p_2 p_3 p_4 p_5 p_6 p_7 = 0 by omega)
  by_cases hd : byF (prim (Z4.mk (iv p_0 p_1) (iv p_2 p_3) (iv p_4 p_5) (iv p_6 p_7))) (pt ⟨iv a_0 a_1, iv a_2 a_3, iv a_4 a_5, iv a_6 a_7⟩) (pt ⟨iv b_0 b_1, iv b_2 b_3, iv b_4 b_5, iv b_6 b_7⟩) = 0
  · exact Line_0 p_0 p_1 p_2 p_3 p_4 p_5 p_6 p_7 a_0 a_1 a_2 a_3 a_4 a_5 a_6 a_7 b_0 b_1 b_2 b_3 b_4 b_5 b_6 b_7 w hT hp_1 hp_3 hp_5 hp_7 ha_1 ha_3 ha_5 ha_7 hb_1 hb_3 hb_5 hb_7 gp h hd
  · exact Line_1 p_0 p_1 p_2 p_3 p_4 p_5 p_6 p_7 a_0 a_1 a_2 a_3 a_4 a_5 a_6 a_7 b_0 b_1 b_2 b_3 b_4 b_5 b_6 b_7 w hT hp_1 hp_3 hp_5 hp_7 ha_1 ha_3 ha_5 ha_7 hb_1 hb_3 hb_5 hb_7 gp h hd
set_option maxRecDepth 100000 in
theorem Predicates_g (a_0 : Bool) (a_1 : ByteArray) (a_2 : Bool) (a_3 : ByteArray) (a_4 : Bool) (a_5 : ByteArray) (a_6 : Bool) (a_7 : ByteArray) (b_0 : Bool) (b_1 : ByteArray) (b_2 : Bool) (b_3 : ByteArray) (b_4 : Bool) (b_5 : ByteArray) (b_6 : Bool) (b_7 : ByteArray) (c_0 : Bool) (c_1 : ByteArray) (c_2 : Bool) (c_3 : ByteArray) (c_4 : Bool) (c_5 : ByteArray) (c_6 : Bool) (c_7 : ByteArray) (d_0 : Bool) (d_1 : ByteArray) (d_2 : Bool) (d_3 : ByteArray) (d_4 : Bool) (d_5 : ByteArray) (d_6 : Bool) (d_7 : ByteArray) (w : World) (hT : TabC w) (h : ¬ (a_1.size ≤ 6 ∧ a_3.size ≤ 6 ∧ a_5.size ≤ 6 ∧ a_7.size ≤ 6 ∧ b_1.size ≤ 6 ∧ b_3.size ≤ 6 ∧ b_5.size ≤ 6 ∧ b_7.size ≤ 6 ∧ c_1.size ≤ 6 ∧ c_3.size ≤ 6 ∧ c_5.size ≤ 6 ∧ c_7.size ≤ 6 ∧ d_1.size ≤ 6 ∧ d_3.size ≤ 6 ∧ d_5.size ≤ 6 ∧ d_7.size ≤ 6)) :
    Calls Tryz.prog 5 #[.agg #[.bool a_0, .string a_1, .bool a_2, .string a_3, .bool a_4, .string a_5, .bool a_6, .string a_7, .bool b_0, .string b_1, .bool b_2, .string b_3, .bool b_4, .string b_5, .bool b_6, .string b_7, .bool c_0, .string c_1, .bool c_2, .string c_3, .bool c_4, .string c_5, .bool c_6, .string c_7, .bool d_0, .string d_1, .bool d_2, .string d_3, .bool d_4, .string d_5, .bool d_6, .string d_7]] w fun e w' => e = .returned (.bool true) ∧ Below w.heap.size w w' := by
  exact SX.run (w := w) (.bool a_0 :: .string a_1 :: .bool a_2 :: .string a_3 :: .bool a_4 :: .string a_5 :: .bool a_6 :: .string a_7 :: .bool b_0 :: .string b_1 :: .bool b_2 :: .string b_3 :: .bool b_4 :: .string b_5 :: .bool b_6 :: .string b_7 :: .bool c_0 :: .string c_1 :: .bool c_2 :: .string c_3 :: .bool c_4 :: .string c_5 :: .bool c_6 :: .string c_7 :: .bool d_0 :: .string d_1 :: .bool d_2 :: .string d_3 :: .bool d_4 :: .string d_5 :: .bool d_6 :: .string d_7 :: .int .i64 1 :: .bool true :: .bool true :: []) [.b true] [.ga 0 32] 32 (.one (.ca 34)) [.call 13 [.c (.p (.slc 0 0 4 4))] (.one (.ca 32)) [(1, .pa 0), (2, .pa 1), (3, .pa 2), (4, .pa 3), (5, .pa 4), (6, .pa 5), (7, .pa 6), (8, .pa 7), (9, .pa 8), (10, .pa 9), (11, .pa 10), (12, .pa 11), (13, .pa 12), (14, .pa 13), (15, .pa 14), (16, .pa 15), (17, .pa 16), (18, .pa 17), (19, .pa 18), (20, .pa 19), (21, .pa 20), (22, .pa 21), (23, .pa 22), (24, .pa 23), (25, .pa 24), (26, .pa 25), (27, .pa 26), (28, .pa 27), (29, .pa 28), (30, .pa 29), (31, .pa 30), (32, .pa 31)], .op2 false .gtr (.pa 32) (.p (.lit (.int .i64 0))) 33, .isB 33 true, .call 9 [] (.one (.ca 34)) []] Tryz.func5 (by kernel_rfl) rfl (by kernel_rfl) rfl (by kernel_rfl)
    ⟨fun γ w' _ hm => by have h_ := Great6_any (some ⟨γ 0, 0, none⟩) [⟨a_0, a_1, a_2, a_3, a_4, a_5, a_6, a_7⟩, ⟨b_0, b_1, b_2, b_3, b_4, b_5, b_6, b_7⟩, ⟨c_0, c_1, c_2, c_3, c_4, c_5, c_6, c_7⟩, ⟨d_0, d_1, d_2, d_3, d_4, d_5, d_6, d_7⟩] 4 4 w' rfl (by simp) (RdP.of (SX.mem_at (b := 0) (l := [.pa 0, .pa 1, .pa 2, .pa 3, .pa 4, .pa 5, .pa 6, .pa 7, .pa 8, .pa 9, .pa 10, .pa 11, .pa 12, .pa 13, .pa 14, .pa 15, .pa 16, .pa 17, .pa 18, .pa 19, .pa 20, .pa 21, .pa 22, .pa 23, .pa 24, .pa 25, .pa 26, .pa 27, .pa 28, .pa 29, .pa 30, .pa 31]) hm rfl)); rw [greatI_yes (fun k => h ⟨(k ⟨a_0, a_1, a_2, a_3, a_4, a_5, a_6, a_7⟩ (by simp)).1, (k ⟨a_0, a_1, a_2, a_3, a_4, a_5, a_6, a_7⟩ (by simp)).2.1, (k ⟨a_0, a_1, a_2, a_3, a_4, a_5, a_6, a_7⟩ (by simp)).2.2.1, (k ⟨a_0, a_1, a_2, a_3, a_4, a_5, a_6, a_7⟩ (by simp)).2.2.2, (k ⟨b_0, b_1, b_2, b_3, b_4, b_5, b_6, b_7⟩ (by simp)).1, (k ⟨b_0, b_1, b_2, b_3, b_4, b_5, b_6, b_7⟩ (by simp)).2.1, (k ⟨b_0, b_1, b_2, b_3, b_4, b_5, b_6, b_7⟩ (by simp)).2.2.1, (k ⟨b_0, b_1, b_2, b_3, b_4, b_5, b_6, b_7⟩ (by simp)).2.2.2, (k ⟨c_0, c_1, c_2, c_3, c_4, c_5, c_6, c_7⟩ (by simp)).1, (k ⟨c_0, c_1, c_2, c_3, c_4, c_5, c_6, c_7⟩ (by simp)).2.1, (k ⟨c_0, c_1, c_2, c_3, c_4, c_5, c_6, c_7⟩ (by simp)).2.2.1, (k ⟨c_0, c_1, c_2, c_3, c_4, c_5, c_6, c_7⟩ (by simp)).2.2.2, (k ⟨d_0, d_1, d_2, d_3, d_4, d_5, d_6, d_7⟩ (by simp)).1, (k ⟨d_0, d_1, d_2, d_3, d_4, d_5, d_6, d_7⟩ (by simp)).2.1, (k ⟨d_0, d_1, d_2, d_3, d_4, d_5, d_6, d_7⟩ (by simp)).2.2.1, (k ⟨d_0, d_1, d_2, d_3, d_4, d_5, d_6, d_7⟩ (by simp)).2.2.2⟩)] at h_; exact h_,
     congrArg (fun z => some (Value.bool z)) (by decide : decide ((1 : Int) > (0 : Int)) = true),
     rfl,
     fun γ w' bw _ => fixed6_any w' (hT.later bw)⟩
set_option maxRecDepth 100000 in
theorem Predicates_m (a_0 : Bool) (a_1 : ByteArray) (a_2 : Bool) (a_3 : ByteArray) (a_4 : Bool) (a_5 : ByteArray) (a_6 : Bool) (a_7 : ByteArray) (b_0 : Bool) (b_1 : ByteArray) (b_2 : Bool) (b_3 : ByteArray) (b_4 : Bool) (b_5 : ByteArray) (b_6 : Bool) (b_7 : ByteArray) (c_0 : Bool) (c_1 : ByteArray) (c_2 : Bool) (c_3 : ByteArray) (c_4 : Bool) (c_5 : ByteArray) (c_6 : Bool) (c_7 : ByteArray) (d_0 : Bool) (d_1 : ByteArray) (d_2 : Bool) (d_3 : ByteArray) (d_4 : Bool) (d_5 : ByteArray) (d_6 : Bool) (d_7 : ByteArray) (w : World) (hT : TabC w) (ha_1 : a_1.size ≤ 6) (ha_3 : a_3.size ≤ 6) (ha_5 : a_5.size ≤ 6) (ha_7 : a_7.size ≤ 6) (hb_1 : b_1.size ≤ 6) (hb_3 : b_3.size ≤ 6) (hb_5 : b_5.size ≤ 6) (hb_7 : b_7.size ≤ 6) (hc_1 : c_1.size ≤ 6) (hc_3 : c_3.size ≤ 6) (hc_5 : c_5.size ≤ 6) (hc_7 : c_7.size ≤ 6) (hd_1 : d_1.size ≤ 6) (hd_3 : d_3.size ≤ 6) (hd_5 : d_5.size ≤ 6) (hd_7 : d_7.size ≤ 6) :
    Calls Tryz.prog 5 #[.agg #[.bool a_0, .string a_1, .bool a_2, .string a_3, .bool a_4, .string a_5, .bool a_6, .string a_7, .bool b_0, .string b_1, .bool b_2, .string b_3, .bool b_4, .string b_5, .bool b_6, .string b_7, .bool c_0, .string c_1, .bool c_2, .string c_3, .bool c_4, .string c_5, .bool c_6, .string c_7, .bool d_0, .string d_1, .bool d_2, .string d_3, .bool d_4, .string d_5, .bool d_6, .string d_7]] w fun e w' => e = .returned (.bool true) ∧ Below w.heap.size w w' := by
  obtain ⟨aq, haq⟩ : ∃ q, IsF (.agg #[.bool a_0, .string a_1, .bool a_2, .string a_3, .bool a_4, .string a_5, .bool a_6, .string a_7]) q 6 := ⟨⟨_, _, _, _⟩, _, _, _, _, _, _, _, _, rfl, rfl, ha_1, rfl, ha_3, rfl, ha_5, rfl, ha_7⟩
  have zaq := haq.sz
  obtain ⟨a, ea⟩ : ∃ p, p = pt aq := ⟨_, rfl⟩
  have ha : IsP (.agg #[.bool a_0, .string a_1, .bool a_2, .string a_3, .bool a_4, .string a_5, .bool a_6, .string a_7]) a 6 := by rw [ea]; exact haq.pt
  have za := ha.sz (by decide)
  obtain ⟨bq, hbq⟩ : ∃ q, IsF (.agg #[.bool b_0, .string b_1, .bool b_2, .string b_3, .bool b_4, .string b_5, .bool b_6, .string b_7]) q 6 := ⟨⟨_, _, _, _⟩, _, _, _, _, _, _, _, _, rfl, rfl, hb_1, rfl, hb_3, rfl, hb_5, rfl, hb_7⟩
  have zbq := hbq.sz
  obtain ⟨b, eb⟩ : ∃ p, p = pt bq := ⟨_, rfl⟩
  have hb : IsP (.agg #[.bool b_0, .string b_1, .bool b_2, .string b_3, .bool b_4, .string b_5, .bool b_6, .string b_7]) b 6 := by rw [eb]; exact hbq.pt
  have zb := hb.sz (by decide)
  obtain ⟨cq, hcq⟩ : ∃ q, IsF (.agg #[.bool c_0, .string c_1, .bool c_2, .string c_3, .bool c_4, .string c_5, .bool c_6, .string c_7]) q 6 := ⟨⟨_, _, _, _⟩, _, _, _, _, _, _, _, _, rfl, rfl, hc_1, rfl, hc_3, rfl, hc_5, rfl, hc_7⟩
  have zcq := hcq.sz
  obtain ⟨c, ec⟩ : ∃ p, p = pt cq := ⟨_, rfl⟩
  have hc : IsP (.agg #[.bool c_0, .string c_1, .bool c_2, .string c_3, .bool c_4, .string c_5, .bool c_6, .string c_7]) c 6 := by rw [ec]; exact hcq.pt
  have zc := hc.sz (by decide)
  obtain ⟨dq, hdq⟩ : ∃ q, IsF (.agg #[.bool d_0, .string d_1, .bool d_2, .string d_3, .bool d_4, .string d_5, .bool d_6, .string d_7]) q 6 := ⟨⟨_, _, _, _⟩, _, _, _, _, _, _, _, _, rfl, rfl, hd_1, rfl, hd_3, rfl, hd_5, rfl, hd_7⟩
  have zdq := hdq.sz
  obtain ⟨d, ed⟩ : ∃ p, p = pt dq := ⟨_, rfl⟩
  have hd : IsP (.agg #[.bool d_0, .string d_1, .bool d_2, .string d_3, .bool d_4, .string d_5, .bool d_6, .string d_7]) d 6 := by rw [ed]; exact hdq.pt
  have zd := hd.sz (by decide)
  have f1 : Pk a 6 := Pk.up (za) (by decide)
  have f2 : Pk b 6 := Pk.up (zb) (by decide)
  have f3 : Pk c 6 := Pk.up (zc) (by decide)
  have f4 : Pk d 6 := Pk.up (zd) (by decide)
  exact SX.run (w := w) (List.flatten [(.bool a_0 :: .string a_1 :: .bool a_2 :: .string a_3 :: .bool a_4 :: .string a_5 :: .bool a_6 :: .string a_7 :: .bool b_0 :: .string b_1 :: .bool b_2 :: .string b_3 :: .bool b_4 :: .string b_5 :: .bool b_6 :: .string b_7 :: .bool c_0 :: .string c_1 :: .bool c_2 :: .string c_3 :: .bool c_4 :: .string c_5 :: .bool c_6 :: .string c_7 :: .bool d_0 :: .string d_1 :: .bool d_2 :: .string d_3 :: .bool d_4 :: .string d_5 :: .bool d_6 :: .string d_7 :: .int .i64 0 :: .bool false :: []), pc a, pc b, pc c, pc d, [.bool true, .int .i64 (orientP a b c d), .int .i64 (orientP a b c d), .bool true, .bool (decide (straightP a b c)), .bool (decide (straightP a b c)), .bool true, .bool (decide (betP a b c)), .bool (decide (betP a b c)), .bool true]]) [.b false, .b true, .b true, .b true] [.ga 0 32] 32 (.one (.ca 75)) [.call 13 [.c (.p (.slc 0 0 4 4))] (.one (.ca 32)) [(1, .pa 0), (2, .pa 1), (3, .pa 2), (4, .pa 3), (5, .pa 4), (6, .pa 5), (7, .pa 6), (8, .pa 7), (9, .pa 8), (10, .pa 9), (11, .pa 10), (12, .pa 11), (13, .pa 12), (14, .pa 13), (15, .pa 14), (16, .pa 15), (17, .pa 16), (18, .pa 17), (19, .pa 18), (20, .pa 19), (21, .pa 20), (22, .pa 21), (23, .pa 22), (24, .pa 23), (25, .pa 24), (26, .pa 25), (27, .pa 26), (28, .pa 27), (29, .pa 28), (30, .pa 29), (31, .pa 30), (32, .pa 31)], .op2 false .gtr (.pa 32) (.p (.lit (.int .i64 0))) 33, .isB 33 false, .call 14 [.ga 0 8] (.one (.ga 34 8)) [], .call 14 [.ga 8 8] (.one (.ga 42 8)) [], .call 14 [.ga 16 8] (.one (.ga 50 8)) [], .call 14 [.ga 24 8] (.one (.ga 58 8)) [], .call 9 [] (.one (.ca 66)) [], .isB 66 true, .call 17 [.ga 34 8, .ga 42 8, .ga 50 8, .ga 58 8] (.one (.ca 67)) [], .call 18 [.ga 34 8, .ga 42 8, .ga 50 8, .ga 58 8] (.one (.ca 68)) [], .op2 false .eql (.pa 67) (.pa 68) 69, .isB 69 true, .call 19 [.ga 34 8, .ga 42 8, .ga 50 8] (.one (.ca 70)) [], .call 20 [.ga 34 8, .ga 42 8, .ga 50 8] (.one (.ca 71)) [], .op2 true .eql (.pa 70) (.pa 71) 72, .isB 72 true, .call 21 [.ga 34 8, .ga 42 8, .ga 50 8] (.one (.ca 73)) [], .call 22 [.ga 34 8, .ga 42 8, .ga 50 8] (.one (.ca 74)) [], .op2 true .eql (.pa 73) (.pa 74) 75] Tryz.func5 (by kernel_rfl) rfl (by kernel_rfl) rfl (by kernel_rfl)
    ⟨fun γ w' _ hm => by have h_ := Great6_any (some ⟨γ 0, 0, none⟩) [⟨a_0, a_1, a_2, a_3, a_4, a_5, a_6, a_7⟩, ⟨b_0, b_1, b_2, b_3, b_4, b_5, b_6, b_7⟩, ⟨c_0, c_1, c_2, c_3, c_4, c_5, c_6, c_7⟩, ⟨d_0, d_1, d_2, d_3, d_4, d_5, d_6, d_7⟩] 4 4 w' rfl (by simp) (RdP.of (SX.mem_at (b := 0) (l := [.pa 0, .pa 1, .pa 2, .pa 3, .pa 4, .pa 5, .pa 6, .pa 7, .pa 8, .pa 9, .pa 10, .pa 11, .pa 12, .pa 13, .pa 14, .pa 15, .pa 16, .pa 17, .pa 18, .pa 19, .pa 20, .pa 21, .pa 22, .pa 23, .pa 24, .pa 25, .pa 26, .pa 27, .pa 28, .pa 29, .pa 30, .pa 31]) hm rfl)); rw [greatI_no (by intro p hp; simp only [List.mem_cons, List.not_mem_nil, or_false] at hp; rcases hp with rfl | rfl | rfl | rfl <;> exact ⟨by assumption, by assumption, by assumption, by assumption⟩)] at h_; exact h_,
     congrArg (fun z => some (Value.bool z)) (by first | decide | exact beq_self_eq_true _ : decide ((0 : Int) > (0 : Int)) = false),
     rfl,
     fun γ w' _ _ => p4Norm ha (by decide) w',
     fun γ w' _ _ => p4Norm hb (by decide) w',
     fun γ w' _ _ => p4Norm hc (by decide) w',
     fun γ w' _ _ => p4Norm hd (by decide) w',
     fun γ w' bw _ => fixed6_any w' (hT.later bw),
     rfl,
     fun γ w' bw _ => inOrient f1 (by decide) f2 (by decide) f3 (by decide) f4 (by decide) w' (hT.later bw),
     fun γ w' _ _ => u6Orient f1 (by decide) f2 (by decide) f3 (by decide) f4 (by decide) w',
     congrArg (fun z => some (Value.bool z)) (by first | decide | exact beq_self_eq_true _ : ((orientP a b c d) == (orientP a b c d)) = true),
     rfl,
     fun γ w' bw _ => inCollinear f1 (by decide) f2 (by decide) f3 (by decide) w' (hT.later bw),
     fun γ w' _ _ => u6Straight (IsP.can f1) (by decide) (IsP.can f2) (by decide) (IsP.can f3) (by decide) w',
     congrArg (fun z => some (Value.bool z)) (by first | decide | exact beq_self_eq_true _ : ((decide (straightP a b c)) == (decide (straightP a b c))) = true),
     rfl,
     fun γ w' bw _ => inBetween f1 (by decide) f2 (by decide) f3 (by decide) w' (hT.later bw),
     fun γ w' _ _ => u6Between (IsP.can f1) (by decide) (IsP.can f2) (by decide) (IsP.can f3) (by decide) w',
     congrArg (fun z => some (Value.bool z)) (by first | decide | exact beq_self_eq_true _ : ((decide (betP a b c)) == (decide (betP a b c))) = true)⟩
theorem Predicates_any (a_0 : Bool) (a_1 : ByteArray) (a_2 : Bool) (a_3 : ByteArray) (a_4 : Bool) (a_5 : ByteArray) (a_6 : Bool) (a_7 : ByteArray) (b_0 : Bool) (b_1 : ByteArray) (b_2 : Bool) (b_3 : ByteArray) (b_4 : Bool) (b_5 : ByteArray) (b_6 : Bool) (b_7 : ByteArray) (c_0 : Bool) (c_1 : ByteArray) (c_2 : Bool) (c_3 : ByteArray) (c_4 : Bool) (c_5 : ByteArray) (c_6 : Bool) (c_7 : ByteArray) (d_0 : Bool) (d_1 : ByteArray) (d_2 : Bool) (d_3 : ByteArray) (d_4 : Bool) (d_5 : ByteArray) (d_6 : Bool) (d_7 : ByteArray) (w : World) (hT : TabC w) :
    Calls Tryz.prog 5 #[.agg #[.bool a_0, .string a_1, .bool a_2, .string a_3, .bool a_4, .string a_5, .bool a_6, .string a_7, .bool b_0, .string b_1, .bool b_2, .string b_3, .bool b_4, .string b_5, .bool b_6, .string b_7, .bool c_0, .string c_1, .bool c_2, .string c_3, .bool c_4, .string c_5, .bool c_6, .string c_7, .bool d_0, .string d_1, .bool d_2, .string d_3, .bool d_4, .string d_5, .bool d_6, .string d_7]] w fun e w' => e = .returned (.bool true) ∧ Below w.heap.size w w' := by
  by_cases g : a_1.size ≤ 6 ∧ a_3.size ≤ 6 ∧ a_5.size ≤ 6 ∧ a_7.size ≤ 6 ∧ b_1.size ≤ 6 ∧ b_3.size ≤ 6 ∧ b_5.size ≤ 6 ∧ b_7.size ≤ 6 ∧ c_1.size ≤ 6 ∧ c_3.size ≤ 6 ∧ c_5.size ≤ 6 ∧ c_7.size ≤ 6 ∧ d_1.size ≤ 6 ∧ d_3.size ≤ 6 ∧ d_5.size ≤ 6 ∧ d_7.size ≤ 6
  rotate_left
  · exact Predicates_g a_0 a_1 a_2 a_3 a_4 a_5 a_6 a_7 b_0 b_1 b_2 b_3 b_4 b_5 b_6 b_7 c_0 c_1 c_2 c_3 c_4 c_5 c_6 c_7 d_0 d_1 d_2 d_3 d_4 d_5 d_6 d_7 w hT g
  obtain ⟨ha_1, ha_3, ha_5, ha_7, hb_1, hb_3, hb_5, hb_7, hc_1, hc_3, hc_5, hc_7, hd_1, hd_3, hd_5, hd_7⟩ := g
  exact Predicates_m a_0 a_1 a_2 a_3 a_4 a_5 a_6 a_7 b_0 b_1 b_2 b_3 b_4 b_5 b_6 b_7 c_0 c_1 c_2 c_3 c_4 c_5 c_6 c_7 d_0 d_1 d_2 d_3 d_4 d_5 d_6 d_7 w hT ha_1 ha_3 ha_5 ha_7 hb_1 hb_3 hb_5 hb_7 hc_1 hc_3 hc_5 hc_7 hd_1 hd_3 hd_5 hd_7
end Go.Proofs.YtfapglafeghggaaGreatDoor
