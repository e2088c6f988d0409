/- The laws of layer 4 but PointStrings. -/
import Derived.Test.YtdgppfccolhaeaaGreatDoorPg
import Derived.Test.YtdgppfccolhaeaaGreatDoorPf
import Derived.Test.YtdgppfccolhaeaaGreatDoorPv
set_option linter.unusedVariables false
set_option linter.unusedSimpArgs false
namespace Go.Proofs.YtdgppfccolhaeaaGreatDoor
open Go.RowKit NM SX
theorem lrat (x0 : Int) (x1 : Int) (w : World) (l0 : -9223372036854775808 ≤ x0) (u0 : x0 ≤ 9223372036854775807) (l1 : -9223372036854775808 ≤ x1) (u1 : x1 ≤ 9223372036854775807) :
    Calls Tryz.prog 33 #[.int .i64 x0, .int .i64 x1] w fun e w' => e = .returned (QV (Rat.divInt x0 x1)) ∧ Below w.heap.size w w' := by
  have f1 : Zk (x0 : Int) 8 := mg_size_le (k := 8) (by first | decide | omega)
  have f2 : Zk (x1 : Int) 8 := mg_size_le (k := 8) (by first | decide | omega)
  have f3 : Rk (Rat.divInt (x0 : Int) (x1 : Int)) 8 := Rk.up (Is.divInt f1 f2) (by decide)
  exact SX.run (w := w) (List.flatten [[.int .i64 x0, .int .i64 x1], zc (x0 : Int), zc (x1 : Int), qc (Rat.divInt (x0 : Int) (x1 : Int)), [.bool (decide ((x1 : Int) ≠ 0))]]) [] [.ca 0, .ca 1] 2 (.one (.ga 6 3)) [.call 38 [.ca 0] (.one (.ga 2 2)) [], .call 38 [.ca 1] (.one (.ga 4 2)) [], .call 47 [.ga 2 2, .ga 4 2] (.tup [.ga 6 3, .ca 9]) []] Tryz.func33 (by kernel_rfl) rfl (by kernel_rfl) rfl (by kernel_rfl)
    ⟨fun γ w' _ _ => From_any x0 w' (by first | decide | omega) (by first | decide | omega),
     fun γ w' _ _ => From_any x1 w' (by first | decide | omega) (by first | decide | omega),
     fun γ w' _ _ => rMake (IsZ.can f1) (by decide) (IsZ.can f2) (by decide) w'⟩
theorem alive_any (w : World) (hT : TabC w) :
    Calls Tryz.prog 10 #[] w fun e w' => e = .returned (.bool true) ∧ Below w.heap.size w w' := by
  have f1 : Rk (Rat.divInt (1 : Int) (2 : Int)) 8 := Rk.up ((⟨by decide +kernel, by decide +kernel⟩ : Rk (Rat.divInt (1 : Int) (2 : Int)) 8)) (by decide)
  have f2 : Rk (Rat.divInt (1 : Int) (3 : Int)) 8 := Rk.up ((⟨by decide +kernel, by decide +kernel⟩ : Rk (Rat.divInt (1 : Int) (3 : Int)) 8)) (by decide)
  have f3 : Pk (P3.mk (Rat.divInt (1 : Int) (2 : Int)) (Rat.divInt (1 : Int) (3 : Int)) (0 : Rat)) 24 := Pk.up ((Pk.ofV (Vk.mk f1 f2 Rk.zero))) (by decide)
  have f4 : Pk (P3.mk (0 : Rat) (0 : Rat) (0 : Rat)) 3 := Pk.up ((Pk.ofV (Vk.mk Rk.zero Rk.zero Rk.zero))) (by decide)
  have f5 : Rk (Rat.divInt (1 : Int) (1 : Int)) 8 := Rk.up ((⟨by decide +kernel, by decide +kernel⟩ : Rk (Rat.divInt (1 : Int) (1 : Int)) 8)) (by decide)
  have f6 : Rk (Rat.divInt (2 : Int) (1 : Int)) 8 := Rk.up ((⟨by decide +kernel, by decide +kernel⟩ : Rk (Rat.divInt (2 : Int) (1 : Int)) 8)) (by decide)
  have f7 : Rk (Rat.divInt (3 : Int) (1 : Int)) 8 := Rk.up ((⟨by decide +kernel, by decide +kernel⟩ : Rk (Rat.divInt (3 : Int) (1 : Int)) 8)) (by decide)
  have f8 : Pk (P3.mk (Rat.divInt (1 : Int) (1 : Int)) (Rat.divInt (2 : Int) (1 : Int)) (Rat.divInt (3 : Int) (1 : Int))) 24 := Pk.up ((Pk.ofV (Vk.mk f5 f6 f7))) (by decide)
  have f9 : Pk (lerp (P3.mk (0 : Rat) (0 : Rat) (0 : Rat)) (P3.mk (Rat.divInt (1 : Int) (1 : Int)) (Rat.divInt (2 : Int) (1 : Int)) (Rat.divInt (3 : Int) (1 : Int))) (Rat.divInt (1 : Int) (2 : Int))) 120 := Pk.up ((Pk.lerp f4 f8 f1)) (by decide)
  have f10 : Zk (3 : Int) 8 := mg_size_le (k := 8) (by first | decide | omega)
  have f11 : Zk (2 : Int) 8 := mg_size_le (k := 8) (by first | decide | omega)
  have f12 : Zk (6 : Int) 8 := mg_size_le (k := 8) (by first | decide | omega)
  have f13 : Fk (can4 (P3.mk (Rat.divInt (1 : Int) (2 : Int)) (Rat.divInt (1 : Int) (3 : Int)) (0 : Rat))) 24 := Fk.up (f3) (by decide)
  exact SX.run (w := w) (List.flatten [qc (Rat.divInt (1 : Int) (2 : Int)), qc (Rat.divInt (1 : Int) (3 : Int)), pc (P3.mk (Rat.divInt (1 : Int) (2 : Int)) (Rat.divInt (1 : Int) (3 : Int)) (0 : Rat)), pc (P3.mk (0 : Rat) (0 : Rat) (0 : Rat)), qc (Rat.divInt (1 : Int) (1 : Int)), qc (Rat.divInt (2 : Int) (1 : Int)), qc (Rat.divInt (3 : Int) (1 : Int)), pc (P3.mk (Rat.divInt (1 : Int) (1 : Int)) (Rat.divInt (2 : Int) (1 : Int)) (Rat.divInt (3 : Int) (1 : Int))), qc (Rat.divInt (1 : Int) (2 : Int)), pc (lerp (P3.mk (0 : Rat) (0 : Rat) (0 : Rat)) (P3.mk (Rat.divInt (1 : Int) (1 : Int)) (Rat.divInt (2 : Int) (1 : Int)) (Rat.divInt (3 : Int) (1 : Int))) (Rat.divInt (1 : Int) (2 : Int))), zc (3 : Int), zc (2 : Int), zc (6 : Int), [.bool true, .string (textP (lerp (P3.mk (0 : Rat) (0 : Rat) (0 : Rat)) (P3.mk (Rat.divInt (1 : Int) (1 : Int)) (Rat.divInt (2 : Int) (1 : Int)) (Rat.divInt (3 : Int) (1 : Int))) (Rat.divInt (1 : Int) (2 : Int)))), .bool true]]) [.b true] [] 0 (.one (.ca 58)) [.call 33 [.c (.p (.lit (.int .i64 1))), .c (.p (.lit (.int .i64 2)))] (.one (.ga 0 3)) [], .call 33 [.c (.p (.lit (.int .i64 1))), .c (.p (.lit (.int .i64 3)))] (.one (.ga 3 3)) [], .call 19 [.agg [.pa 0, .pa 1, .pa 2, .pa 3, .pa 4, .pa 5, .p (.lit (.bool false)), .p (.lit (.string ⟨#[]⟩)), .p (.lit (.string ⟨#[]⟩))]] (.one (.ga 6 8)) [], .call 19 [.agg [.p (.lit (.bool false)), .p (.lit (.string ⟨#[]⟩)), .p (.lit (.string ⟨#[]⟩)), .p (.lit (.bool false)), .p (.lit (.string ⟨#[]⟩)), .p (.lit (.string ⟨#[]⟩)), .p (.lit (.bool false)), .p (.lit (.string ⟨#[]⟩)), .p (.lit (.string ⟨#[]⟩))]] (.one (.ga 14 8)) [], .call 33 [.c (.p (.lit (.int .i64 1))), .c (.p (.lit (.int .i64 1)))] (.one (.ga 22 3)) [], .call 33 [.c (.p (.lit (.int .i64 2))), .c (.p (.lit (.int .i64 1)))] (.one (.ga 25 3)) [], .call 33 [.c (.p (.lit (.int .i64 3))), .c (.p (.lit (.int .i64 1)))] (.one (.ga 28 3)) [], .call 19 [.ga 22 9] (.one (.ga 31 8)) [], .call 33 [.c (.p (.lit (.int .i64 1))), .c (.p (.lit (.int .i64 2)))] (.one (.ga 39 3)) [], .call 25 [.ga 14 8, .ga 31 8, .ga 39 3] (.one (.ga 42 8)) [], .call 38 [.c (.p (.lit (.int .i64 3)))] (.one (.ga 50 2)) [], .call 38 [.c (.p (.lit (.int .i64 2)))] (.one (.ga 52 2)) [], .call 38 [.c (.p (.lit (.int .i64 6)))] (.one (.ga 54 2)) [], .eqs false [.b, .s, .b, .s, .b, .s, .b, .s] [.pa 6, .pa 7, .pa 8, .pa 9, .pa 10, .pa 11, .pa 12, .pa 13] [.pa 50, .pa 51, .pa 52, .pa 53, .p (.lit (.bool false)), .p (.lit (.string ⟨#[]⟩)), .pa 54, .pa 55] 56, .isB 56 true, .call 17 [.ga 42 8] (.one (.ca 57)) [], .op2 false .eql (.pa 57) (.p (.lit (.string ⟨#[40, 49, 47, 50, 44, 32, 49, 44, 32, 51, 47, 50, 41]⟩))) 58] Tryz.func10 (by kernel_rfl) rfl (by kernel_rfl) rfl (by kernel_rfl)
    ⟨fun γ w' _ _ => lrat 1 2 w' (by decide) (by decide) (by decide) (by decide),
     fun γ w' _ _ => lrat 1 3 w' (by decide) (by decide) (by decide) (by decide),
     fun γ w' bw _ => pFromCoords (IsV.mk (IsQ.can f1) (IsQ.can f2) IsQ.zero) (by decide) w' (hT.later bw),
     fun γ w' bw _ => pFromCoords (IsV.mk IsQ.zero IsQ.zero IsQ.zero) (by decide) w' (hT.later bw),
     fun γ w' _ _ => lrat 1 1 w' (by decide) (by decide) (by decide) (by decide),
     fun γ w' _ _ => lrat 2 1 w' (by decide) (by decide) (by decide) (by decide),
     fun γ w' _ _ => lrat 3 1 w' (by decide) (by decide) (by decide) (by decide),
     fun γ w' bw _ => pFromCoords (IsV.mk (IsQ.can f5) (IsQ.can f6) (IsQ.can f7)) (by decide) w' (hT.later bw),
     fun γ w' _ _ => lrat 1 2 w' (by decide) (by decide) (by decide) (by decide),
     fun γ w' bw _ => pLerp (IsP.can f4) (by decide) (IsP.can f8) (by decide) (IsQ.can f1) (by decide) w' (hT.later bw),
     fun γ w' _ _ => From_any 3 w' (by first | decide | omega) (by first | decide | omega),
     fun γ w' _ _ => From_any 2 w' (by first | decide | omega) (by first | decide | omega),
     fun γ w' _ _ => From_any 6 w' (by first | decide | omega) (by first | decide | omega),
     ⟨rfl, rfl, eqv_yes (eqL_F (can4 (P3.mk (Rat.divInt (1 : Int) (2 : Int)) (Rat.divInt (1 : Int) (3 : Int)) (0 : Rat))) (Z4.mk (3 : Int) (2 : Int) (0 : Int) (6 : Int))) (by decide +kernel) rfl⟩,
     rfl,
     fun γ w' bw _ => pFormat (IsP.can f9) (by decide) w' (hT.later bw),
     congrArg (fun z => some (Value.bool z)) (by decide +kernel : ((textP (lerp (P3.mk (0 : Rat) (0 : Rat) (0 : Rat)) (P3.mk (Rat.divInt (1 : Int) (1 : Int)) (Rat.divInt (2 : Int) (1 : Int)) (Rat.divInt (3 : Int) (1 : Int))) (Rat.divInt (1 : Int) (2 : Int)))).toList == (⟨#[40, 49, 47, 50, 44, 32, 49, 44, 32, 51, 47, 50, 41]⟩ : ByteArray).toList) = true)⟩
set_option maxRecDepth 100000 in
theorem Forms_g0 (a_0 : Bool) (a_1 : ByteArray) (a_2 : Bool) (a_3 : ByteArray) (a_4 : Bool) (a_5 : ByteArray) (a_6 : Bool) (a_7 : ByteArray) (v_0 : Bool) (v_1 : ByteArray) (v_2 : ByteArray) (v_3 : Bool) (v_4 : ByteArray) (v_5 : ByteArray) (v_6 : Bool) (v_7 : ByteArray) (v_8 : ByteArray) (w : World) (hT : TabC w)  (h : ¬ ((a_1.size ≤ 6 ∧ a_3.size ≤ 6 ∧ a_5.size ≤ 6 ∧ a_7.size ≤ 6))) :
    Calls Tryz.prog 3 #[.agg #[.bool a_0, .string a_1, .bool a_2, .string a_3, .bool a_4, .string a_5, .bool a_6, .string a_7], .agg #[.bool v_0, .string v_1, .string v_2, .bool v_3, .string v_4, .string v_5, .bool v_6, .string v_7, .string v_8]] w fun e w' => e = .returned (.bool true) ∧ Below w.heap.size w w' := by
  exact SX.run (w := w) [.bool a_0, .string a_1, .bool a_2, .string a_3, .bool a_4, .string a_5, .bool a_6, .string a_7, .bool v_0, .string v_1, .string v_2, .bool v_3, .string v_4, .string v_5, .bool v_6, .string v_7, .string v_8, .bool true, .bool false, .bool true] [.b false, .b true] [.ga 0 8, .ga 8 9] 17 (.one (.c (.p (.lit (.bool true))))) [.call 10 [] (.one (.ca 17)) [], .op1 .not (.pa 17) 18, .isB 18 false, .call 11 [.c (.p (.slc 2 0 1 1))] (.one (.ca 19)) [(2049, .pa 0), (2050, .pa 1), (2051, .pa 2), (2052, .pa 3), (2053, .pa 4), (2054, .pa 5), (2055, .pa 6), (2056, .pa 7)], .isB 19 true] Tryz.func3 (by kernel_rfl) rfl (by kernel_rfl) rfl (by kernel_rfl)
    ⟨fun γ w' bw _ => alive_any w' (hT.later bw),
     congrArg (fun z => some (Value.bool z)) (by decide : (!true) = false),
     rfl,
     fun γ w' _ hm => great1_yes a_0 a_1 a_2 a_3 a_4 a_5 a_6 a_7 w' (γ 2) (SX.mem_at (b := 2) (l := [.pa 0, .pa 1, .pa 2, .pa 3, .pa 4, .pa 5, .pa 6, .pa 7]) hm rfl) h,
     rfl⟩
set_option maxRecDepth 100000 in
theorem Forms_g1 (a_0 : Bool) (a_1 : ByteArray) (a_2 : Bool) (a_3 : ByteArray) (a_4 : Bool) (a_5 : ByteArray) (a_6 : Bool) (a_7 : ByteArray) (v_0 : Bool) (v_1 : ByteArray) (v_2 : ByteArray) (v_3 : Bool) (v_4 : ByteArray) (v_5 : ByteArray) (v_6 : Bool) (v_7 : ByteArray) (v_8 : ByteArray) (w : World) (hT : TabC w) (ha_1 : a_1.size ≤ 6) (ha_3 : a_3.size ≤ 6) (ha_5 : a_5.size ≤ 6) (ha_7 : a_7.size ≤ 6) (h : ¬ (v_1.size ≤ 6 ∧ v_2.size ≤ 6 ∧ v_4.size ≤ 6 ∧ v_5.size ≤ 6 ∧ v_7.size ≤ 6 ∧ v_8.size ≤ 6)) :
    Calls Tryz.prog 3 #[.agg #[.bool a_0, .string a_1, .bool a_2, .string a_3, .bool a_4, .string a_5, .bool a_6, .string a_7], .agg #[.bool v_0, .string v_1, .string v_2, .bool v_3, .string v_4, .string v_5, .bool v_6, .string v_7, .string v_8]] w fun e w' => e = .returned (.bool true) ∧ Below w.heap.size w w' := by
  exact SX.run (w := w) [.bool a_0, .string a_1, .bool a_2, .string a_3, .bool a_4, .string a_5, .bool a_6, .string a_7, .bool v_0, .string v_1, .string v_2, .bool v_3, .string v_4, .string v_5, .bool v_6, .string v_7, .string v_8, .bool true, .bool false, .bool false, .int .i64 1, .bool true] [.b false, .b false, .b true] [.ga 0 8, .ga 8 9] 17 (.one (.c (.p (.lit (.bool true))))) [.call 10 [] (.one (.ca 17)) [], .op1 .not (.pa 17) 18, .isB 18 false, .call 11 [.c (.p (.slc 2 0 1 1))] (.one (.ca 19)) [(2049, .pa 0), (2050, .pa 1), (2051, .pa 2), (2052, .pa 3), (2053, .pa 4), (2054, .pa 5), (2055, .pa 6), (2056, .pa 7)], .isB 19 false, .call 12 [.ga 8 9] (.one (.ca 20)) [], .op2 false .eql (.pa 20) (.p (.lit (.int .i64 1))) 21, .isB 21 true] Tryz.func3 (by kernel_rfl) rfl (by kernel_rfl) rfl (by kernel_rfl)
    ⟨fun γ w' bw _ => alive_any w' (hT.later bw),
     congrArg (fun z => some (Value.bool z)) (by decide : (!true) = false),
     rfl,
     fun γ w' _ hm => great1_no a_0 a_1 a_2 a_3 a_4 a_5 a_6 a_7 w' (γ 2) (SX.mem_at (b := 2) (l := [.pa 0, .pa 1, .pa 2, .pa 3, .pa 4, .pa 5, .pa 6, .pa 7]) hm rfl) ha_1 ha_3 ha_5 ha_7,
     rfl,
     fun γ w' _ _ => Wide_yes v_0 v_1 v_2 v_3 v_4 v_5 v_6 v_7 v_8 w' h,
     congrArg (fun z => some (Value.bool z)) (by decide : ((1 : Int) == (1 : Int)) = true),
     rfl⟩
set_option maxRecDepth 100000 in
theorem Forms_m (a_0 : Bool) (a_1 : ByteArray) (a_2 : Bool) (a_3 : ByteArray) (a_4 : Bool) (a_5 : ByteArray) (a_6 : Bool) (a_7 : ByteArray) (v_0 : Bool) (v_1 : ByteArray) (v_2 : ByteArray) (v_3 : Bool) (v_4 : ByteArray) (v_5 : ByteArray) (v_6 : Bool) (v_7 : ByteArray) (v_8 : ByteArray) (w : World) (hT : TabC w) (ha_1 : a_1.size ≤ 6) (ha_3 : a_3.size ≤ 6) (ha_5 : a_5.size ≤ 6) (ha_7 : a_7.size ≤ 6) (hv_1 : v_1.size ≤ 6) (hv_2 : v_2.size ≤ 6) (hv_4 : v_4.size ≤ 6) (hv_5 : v_5.size ≤ 6) (hv_7 : v_7.size ≤ 6) (hv_8 : v_8.size ≤ 6)  :
    Calls Tryz.prog 3 #[.agg #[.bool a_0, .string a_1, .bool a_2, .string a_3, .bool a_4, .string a_5, .bool a_6, .string a_7], .agg #[.bool v_0, .string v_1, .string v_2, .bool v_3, .string v_4, .string v_5, .bool v_6, .string v_7, .string v_8]] w fun e w' => e = .returned (.bool true) ∧ Below w.heap.size w w' := by
  obtain ⟨aq, haq⟩ : ∃ q, IsF (.agg #[.bool a_0, .string a_1, .bool a_2, .string a_3, .bool a_4, .string a_5, .bool a_6, .string a_7]) q 6 := ⟨⟨_, _, _, _⟩, _, _, _, _, _, _, _, _, rfl, rfl, ha_1, rfl, ha_3, rfl, ha_5, rfl, ha_7⟩
  have zaq := haq.sz
  obtain ⟨a, ea⟩ : ∃ p, p = pt aq := ⟨_, rfl⟩
  have ha : IsP (.agg #[.bool a_0, .string a_1, .bool a_2, .string a_3, .bool a_4, .string a_5, .bool a_6, .string a_7]) a 6 := by rw [ea]; exact haq.pt
  have za := ha.sz (by decide)
  obtain ⟨v, hv⟩ : ∃ q, IsV (.agg #[.bool v_0, .string v_1, .string v_2, .bool v_3, .string v_4, .string v_5, .bool v_6, .string v_7, .string v_8]) q 6 := ⟨⟨_, _, _⟩, _, _, _, _, _, _, _, _, _, rfl, rfl, hv_1, hv_2, rfl, hv_4, hv_5, rfl, hv_7, hv_8⟩
  have zv := hv.sz (by decide)
  have f1 : Pk a 6 := Pk.up (za) (by decide)
  have f2 : Vk a 6 := Vk.up ((Vk.ofP1 za)) (by decide)
  have f3 : Pk v 18 := Pk.up ((Pk.ofV zv)) (by decide)
  exact SX.run (w := w) (List.flatten [[.bool a_0, .string a_1, .bool a_2, .string a_3, .bool a_4, .string a_5, .bool a_6, .string a_7, .bool v_0, .string v_1, .string v_2, .bool v_3, .string v_4, .string v_5, .bool v_6, .string v_7, .string v_8, .bool true, .bool false, .bool false, .int .i64 0, .bool false], pc a, pc a, [.bool true], vc a, vc a, [.bool true, .string (textP a), .string (textP a), .bool true], pc v, pc v, [.bool true]]) [.b false, .b false, .b false, .b true, .b true, .b true] [.ga 0 8, .ga 8 9] 17 (.one (.ca 77)) [.call 10 [] (.one (.ca 17)) [], .op1 .not (.pa 17) 18, .isB 18 false, .call 11 [.c (.p (.slc 2 0 1 1))] (.one (.ca 19)) [(2049, .pa 0), (2050, .pa 1), (2051, .pa 2), (2052, .pa 3), (2053, .pa 4), (2054, .pa 5), (2055, .pa 6), (2056, .pa 7)], .isB 19 false, .call 12 [.ga 8 9] (.one (.ca 20)) [], .op2 false .eql (.pa 20) (.p (.lit (.int .i64 1))) 21, .isB 21 false, .call 13 [.ga 0 8] (.one (.ga 22 8)) [], .call 14 [.ga 0 8] (.one (.ga 30 8)) [], .eqs false [.b, .s, .b, .s, .b, .s, .b, .s] [.pa 22, .pa 23, .pa 24, .pa 25, .pa 26, .pa 27, .pa 28, .pa 29] [.pa 30, .pa 31, .pa 32, .pa 33, .pa 34, .pa 35, .pa 36, .pa 37] 38, .isB 38 true, .call 15 [.ga 0 8] (.one (.ga 39 9)) [], .call 16 [.ga 0 8] (.one (.ga 48 9)) [], .eqs false [.b, .s, .s, .b, .s, .s, .b, .s, .s] [.pa 39, .pa 40, .pa 41, .pa 42, .pa 43, .pa 44, .pa 45, .pa 46, .pa 47] [.pa 48, .pa 49, .pa 50, .pa 51, .pa 52, .pa 53, .pa 54, .pa 55, .pa 56] 57, .isB 57 true, .call 17 [.ga 0 8] (.one (.ca 58)) [], .call 18 [.ga 0 8] (.one (.ca 59)) [], .op2 false .eql (.pa 58) (.pa 59) 60, .isB 60 true, .call 19 [.ga 8 9] (.one (.ga 61 8)) [], .call 20 [.ga 8 9] (.one (.ga 69 8)) [], .eqs false [.b, .s, .b, .s, .b, .s, .b, .s] [.pa 61, .pa 62, .pa 63, .pa 64, .pa 65, .pa 66, .pa 67, .pa 68] [.pa 69, .pa 70, .pa 71, .pa 72, .pa 73, .pa 74, .pa 75, .pa 76] 77] Tryz.func3 (by kernel_rfl) rfl (by kernel_rfl) rfl (by kernel_rfl)
    ⟨fun γ w' bw _ => alive_any w' (hT.later bw),
     congrArg (fun z => some (Value.bool z)) (by first | rfl | assumption | decide | simp [*] : (!true) = false),
     rfl,
     fun γ w' _ hm => great1_no a_0 a_1 a_2 a_3 a_4 a_5 a_6 a_7 w' (γ 2) (SX.mem_at (b := 2) (l := [.pa 0, .pa 1, .pa 2, .pa 3, .pa 4, .pa 5, .pa 6, .pa 7]) hm rfl) ha_1 ha_3 ha_5 ha_7,
     rfl,
     fun γ w' _ _ => Wide_no v_0 v_1 v_2 v_3 v_4 v_5 v_6 v_7 v_8 w' hv_1 hv_2 hv_4 hv_5 hv_7 hv_8,
     congrArg (fun z => some (Value.bool z)) (by decide : ((0 : Int) == (1 : Int)) = false),
     rfl,
     fun γ w' bw _ => pNormalize ha (by decide) w' (hT.later bw),
     fun γ w' _ _ => p4Norm ha (by decide) w',
     ⟨rfl, rfl, eqv_yes (eqL_P a a) (rfl) rfl⟩,
     rfl,
     fun γ w' bw _ => pCoords ha (by decide) w' (hT.later bw),
     fun γ w' _ _ => p4Coords ha (by decide) w',
     ⟨rfl, rfl, eqv_yes (eqL_V a a) (rfl) rfl⟩,
     rfl,
     fun γ w' bw _ => pFormat ha (by decide) w' (hT.later bw),
     fun γ w' _ _ => p4Text ha (by decide) w',
     congrArg (fun z => some (Value.bool z)) (beq_self_eq_true _ : ((textP a).toList == (textP a).toList) = true),
     rfl,
     fun γ w' bw _ => pFromCoords hv (by decide) w' (hT.later bw),
     fun γ w' _ _ => p4Make hv (by decide) w',
     ⟨rfl, rfl, eqv_yes (eqL_P v v) (rfl) rfl⟩⟩
theorem Forms_any (a_0 : Bool) (a_1 : ByteArray) (a_2 : Bool) (a_3 : ByteArray) (a_4 : Bool) (a_5 : ByteArray) (a_6 : Bool) (a_7 : ByteArray) (v_0 : Bool) (v_1 : ByteArray) (v_2 : ByteArray) (v_3 : Bool) (v_4 : ByteArray) (v_5 : ByteArray) (v_6 : Bool) (v_7 : ByteArray) (v_8 : ByteArray) (w : World) (hT : TabC w) :
    Calls Tryz.prog 3 #[.agg #[.bool a_0, .string a_1, .bool a_2, .string a_3, .bool a_4, .string a_5, .bool a_6, .string a_7], .agg #[.bool v_0, .string v_1, .string v_2, .bool v_3, .string v_4, .string v_5, .bool v_6, .string v_7, .string v_8]] w fun e w' => e = .returned (.bool true) ∧ Below w.heap.size w w' := by
  by_cases g0 : (a_1.size ≤ 6 ∧ a_3.size ≤ 6 ∧ a_5.size ≤ 6 ∧ a_7.size ≤ 6)
  rotate_left
  · exact Forms_g0 a_0 a_1 a_2 a_3 a_4 a_5 a_6 a_7 v_0 v_1 v_2 v_3 v_4 v_5 v_6 v_7 v_8 w hT  g0
  obtain ⟨ha_1, ha_3, ha_5, ha_7⟩ := g0
  by_cases g1 : v_1.size ≤ 6 ∧ v_2.size ≤ 6 ∧ v_4.size ≤ 6 ∧ v_5.size ≤ 6 ∧ v_7.size ≤ 6 ∧ v_8.size ≤ 6
  rotate_left
  · exact Forms_g1 a_0 a_1 a_2 a_3 a_4 a_5 a_6 a_7 v_0 v_1 v_2 v_3 v_4 v_5 v_6 v_7 v_8 w hT ha_1 ha_3 ha_5 ha_7 g1
  obtain ⟨hv_1, hv_2, hv_4, hv_5, hv_7, hv_8⟩ := g1
  exact Forms_m a_0 a_1 a_2 a_3 a_4 a_5 a_6 a_7 v_0 v_1 v_2 v_3 v_4 v_5 v_6 v_7 v_8 w hT ha_1 ha_3 ha_5 ha_7 hv_1 hv_2 hv_4 hv_5 hv_7 hv_8
set_option maxRecDepth 100000 in
theorem Moves_g0 (a_0 : Bool) (a_1 : ByteArray) (a_2 : Bool) (a_3 : ByteArray) (a_4 : Bool) (a_5 : ByteArray) (a_6 : Bool) (a_7 : ByteArray) (b_0 : Bool) (b_1 : ByteArray) (b_2 : Bool) (b_3 : ByteArray) (b_4 : Bool) (b_5 : ByteArray) (b_6 : Bool) (b_7 : ByteArray) (v_0 : Bool) (v_1 : ByteArray) (v_2 : ByteArray) (v_3 : Bool) (v_4 : ByteArray) (v_5 : ByteArray) (v_6 : Bool) (v_7 : ByteArray) (v_8 : ByteArray) (t_0 : Bool) (t_1 : ByteArray) (t_2 : ByteArray) (w : World) (hT : TabC w)  (h : ¬ ((a_1.size ≤ 6 ∧ a_3.size ≤ 6 ∧ a_5.size ≤ 6 ∧ a_7.size ≤ 6) ∧ (b_1.size ≤ 6 ∧ b_3.size ≤ 6 ∧ b_5.size ≤ 6 ∧ b_7.size ≤ 6))) :
    Calls Tryz.prog 4 #[.agg #[.bool a_0, .string a_1, .bool a_2, .string a_3, .bool a_4, .string a_5, .bool a_6, .string a_7], .agg #[.bool b_0, .string b_1, .bool b_2, .string b_3, .bool b_4, .string b_5, .bool b_6, .string b_7], .agg #[.bool v_0, .string v_1, .string v_2, .bool v_3, .string v_4, .string v_5, .bool v_6, .string v_7, .string v_8, .bool t_0, .string t_1, .string t_2]] w fun e w' => e = .returned (.bool true) ∧ Below w.heap.size w w' := by
  exact SX.run (w := w) (.bool a_0 :: .string a_1 :: .bool a_2 :: .string a_3 :: .bool a_4 :: .string a_5 :: .bool a_6 :: .string a_7 :: .bool b_0 :: .string b_1 :: .bool b_2 :: .string b_3 :: .bool b_4 :: .string b_5 :: .bool b_6 :: .string b_7 :: .bool v_0 :: .string v_1 :: .string v_2 :: .bool v_3 :: .string v_4 :: .string v_5 :: .bool v_6 :: .string v_7 :: .string v_8 :: .bool t_0 :: .string t_1 :: .string t_2 :: .bool true :: .bool false :: .bool true :: []) [.b false, .b true] [.ga 0 8, .ga 8 8, .ga 16 12] 28 (.one (.c (.p (.lit (.bool true))))) [.call 10 [] (.one (.ca 28)) [], .op1 .not (.pa 28) 29, .isB 29 false, .call 11 [.c (.p (.slc 3 0 2 2))] (.one (.ca 30)) [(3073, .pa 0), (3074, .pa 1), (3075, .pa 2), (3076, .pa 3), (3077, .pa 4), (3078, .pa 5), (3079, .pa 6), (3080, .pa 7), (3081, .pa 8), (3082, .pa 9), (3083, .pa 10), (3084, .pa 11), (3085, .pa 12), (3086, .pa 13), (3087, .pa 14), (3088, .pa 15)], .isB 30 true] Tryz.func4 (by kernel_rfl) rfl (by kernel_rfl) rfl (by kernel_rfl)
    ⟨fun γ w' bw _ => alive_any w' (hT.later bw),
     congrArg (fun z => some (Value.bool z)) (by decide : (!true) = false),
     rfl,
     fun γ w' _ hm => great2_yes a_0 a_1 a_2 a_3 a_4 a_5 a_6 a_7 b_0 b_1 b_2 b_3 b_4 b_5 b_6 b_7 w' (γ 3) (SX.mem_at (b := 3) (l := [.pa 0, .pa 1, .pa 2, .pa 3, .pa 4, .pa 5, .pa 6, .pa 7, .pa 8, .pa 9, .pa 10, .pa 11, .pa 12, .pa 13, .pa 14, .pa 15]) hm rfl) h,
     rfl⟩
set_option maxRecDepth 100000 in
theorem Moves_g1 (a_0 : Bool) (a_1 : ByteArray) (a_2 : Bool) (a_3 : ByteArray) (a_4 : Bool) (a_5 : ByteArray) (a_6 : Bool) (a_7 : ByteArray) (b_0 : Bool) (b_1 : ByteArray) (b_2 : Bool) (b_3 : ByteArray) (b_4 : Bool) (b_5 : ByteArray) (b_6 : Bool) (b_7 : ByteArray) (v_0 : Bool) (v_1 : ByteArray) (v_2 : ByteArray) (v_3 : Bool) (v_4 : ByteArray) (v_5 : ByteArray) (v_6 : Bool) (v_7 : ByteArray) (v_8 : ByteArray) (t_0 : Bool) (t_1 : ByteArray) (t_2 : ByteArray) (w : World) (hT : TabC w) (ha_1 : a_1.size ≤ 6) (ha_3 : a_3.size ≤ 6) (ha_5 : a_5.size ≤ 6) (ha_7 : a_7.size ≤ 6) (hb_1 : b_1.size ≤ 6) (hb_3 : b_3.size ≤ 6) (hb_5 : b_5.size ≤ 6) (hb_7 : b_7.size ≤ 6) (h : ¬ (v_1.size ≤ 6 ∧ v_2.size ≤ 6 ∧ v_4.size ≤ 6 ∧ v_5.size ≤ 6 ∧ v_7.size ≤ 6 ∧ v_8.size ≤ 6)) :
    Calls Tryz.prog 4 #[.agg #[.bool a_0, .string a_1, .bool a_2, .string a_3, .bool a_4, .string a_5, .bool a_6, .string a_7], .agg #[.bool b_0, .string b_1, .bool b_2, .string b_3, .bool b_4, .string b_5, .bool b_6, .string b_7], .agg #[.bool v_0, .string v_1, .string v_2, .bool v_3, .string v_4, .string v_5, .bool v_6, .string v_7, .string v_8, .bool t_0, .string t_1, .string t_2]] w fun e w' => e = .returned (.bool true) ∧ Below w.heap.size w w' := by
  exact SX.run (w := w) (.bool a_0 :: .string a_1 :: .bool a_2 :: .string a_3 :: .bool a_4 :: .string a_5 :: .bool a_6 :: .string a_7 :: .bool b_0 :: .string b_1 :: .bool b_2 :: .string b_3 :: .bool b_4 :: .string b_5 :: .bool b_6 :: .string b_7 :: .bool v_0 :: .string v_1 :: .string v_2 :: .bool v_3 :: .string v_4 :: .string v_5 :: .bool v_6 :: .string v_7 :: .string v_8 :: .bool t_0 :: .string t_1 :: .string t_2 :: .bool true :: .bool false :: .bool false :: .int .i64 1 :: .bool true :: []) [.b false, .b false, .b true] [.ga 0 8, .ga 8 8, .ga 16 12] 28 (.one (.c (.p (.lit (.bool true))))) [.call 10 [] (.one (.ca 28)) [], .op1 .not (.pa 28) 29, .isB 29 false, .call 11 [.c (.p (.slc 3 0 2 2))] (.one (.ca 30)) [(3073, .pa 0), (3074, .pa 1), (3075, .pa 2), (3076, .pa 3), (3077, .pa 4), (3078, .pa 5), (3079, .pa 6), (3080, .pa 7), (3081, .pa 8), (3082, .pa 9), (3083, .pa 10), (3084, .pa 11), (3085, .pa 12), (3086, .pa 13), (3087, .pa 14), (3088, .pa 15)], .isB 30 false, .call 12 [.ga 16 9] (.one (.ca 31)) [], .op2 false .eql (.pa 31) (.p (.lit (.int .i64 1))) 32, .isB 32 true] Tryz.func4 (by kernel_rfl) rfl (by kernel_rfl) rfl (by kernel_rfl)
    ⟨fun γ w' bw _ => alive_any w' (hT.later bw),
     congrArg (fun z => some (Value.bool z)) (by decide : (!true) = false),
     rfl,
     fun γ w' _ hm => great2_no a_0 a_1 a_2 a_3 a_4 a_5 a_6 a_7 b_0 b_1 b_2 b_3 b_4 b_5 b_6 b_7 w' (γ 3) (SX.mem_at (b := 3) (l := [.pa 0, .pa 1, .pa 2, .pa 3, .pa 4, .pa 5, .pa 6, .pa 7, .pa 8, .pa 9, .pa 10, .pa 11, .pa 12, .pa 13, .pa 14, .pa 15]) hm rfl) ha_1 ha_3 ha_5 ha_7 hb_1 hb_3 hb_5 hb_7,
     rfl,
     fun γ w' _ _ => Wide_yes v_0 v_1 v_2 v_3 v_4 v_5 v_6 v_7 v_8 w' h,
     congrArg (fun z => some (Value.bool z)) (by decide : ((1 : Int) == (1 : Int)) = true),
     rfl⟩
set_option maxRecDepth 100000 in
theorem Moves_g2 (a_0 : Bool) (a_1 : ByteArray) (a_2 : Bool) (a_3 : ByteArray) (a_4 : Bool) (a_5 : ByteArray) (a_6 : Bool) (a_7 : ByteArray) (b_0 : Bool) (b_1 : ByteArray) (b_2 : Bool) (b_3 : ByteArray) (b_4 : Bool) (b_5 : ByteArray) (b_6 : Bool) (b_7 : ByteArray) (v_0 : Bool) (v_1 : ByteArray) (v_2 : ByteArray) (v_3 : Bool) (v_4 : ByteArray) (v_5 : ByteArray) (v_6 : Bool) (v_7 : ByteArray) (v_8 : ByteArray) (t_0 : Bool) (t_1 : ByteArray) (t_2 : ByteArray) (w : World) (hT : TabC w) (ha_1 : a_1.size ≤ 6) (ha_3 : a_3.size ≤ 6) (ha_5 : a_5.size ≤ 6) (ha_7 : a_7.size ≤ 6) (hb_1 : b_1.size ≤ 6) (hb_3 : b_3.size ≤ 6) (hb_5 : b_5.size ≤ 6) (hb_7 : b_7.size ≤ 6) (hv_1 : v_1.size ≤ 6) (hv_2 : v_2.size ≤ 6) (hv_4 : v_4.size ≤ 6) (hv_5 : v_5.size ≤ 6) (hv_7 : v_7.size ≤ 6) (hv_8 : v_8.size ≤ 6) (h : ¬ (t_1.size ≤ 6 ∧ t_2.size ≤ 6)) :
    Calls Tryz.prog 4 #[.agg #[.bool a_0, .string a_1, .bool a_2, .string a_3, .bool a_4, .string a_5, .bool a_6, .string a_7], .agg #[.bool b_0, .string b_1, .bool b_2, .string b_3, .bool b_4, .string b_5, .bool b_6, .string b_7], .agg #[.bool v_0, .string v_1, .string v_2, .bool v_3, .string v_4, .string v_5, .bool v_6, .string v_7, .string v_8, .bool t_0, .string t_1, .string t_2]] w fun e w' => e = .returned (.bool true) ∧ Below w.heap.size w w' := by
  exact SX.run (w := w) (.bool a_0 :: .string a_1 :: .bool a_2 :: .string a_3 :: .bool a_4 :: .string a_5 :: .bool a_6 :: .string a_7 :: .bool b_0 :: .string b_1 :: .bool b_2 :: .string b_3 :: .bool b_4 :: .string b_5 :: .bool b_6 :: .string b_7 :: .bool v_0 :: .string v_1 :: .string v_2 :: .bool v_3 :: .string v_4 :: .string v_5 :: .bool v_6 :: .string v_7 :: .string v_8 :: .bool t_0 :: .string t_1 :: .string t_2 :: .bool true :: .bool false :: .bool false :: .int .i64 0 :: .bool false :: .int .i64 1 :: .bool true :: []) [.b false, .b false, .b false, .b true] [.ga 0 8, .ga 8 8, .ga 16 12] 28 (.one (.c (.p (.lit (.bool true))))) [.call 10 [] (.one (.ca 28)) [], .op1 .not (.pa 28) 29, .isB 29 false, .call 11 [.c (.p (.slc 3 0 2 2))] (.one (.ca 30)) [(3073, .pa 0), (3074, .pa 1), (3075, .pa 2), (3076, .pa 3), (3077, .pa 4), (3078, .pa 5), (3079, .pa 6), (3080, .pa 7), (3081, .pa 8), (3082, .pa 9), (3083, .pa 10), (3084, .pa 11), (3085, .pa 12), (3086, .pa 13), (3087, .pa 14), (3088, .pa 15)], .isB 30 false, .call 12 [.ga 16 9] (.one (.ca 31)) [], .op2 false .eql (.pa 31) (.p (.lit (.int .i64 1))) 32, .isB 32 false, .call 12 [.agg [.pa 25, .pa 26, .pa 27, .p (.lit (.bool false)), .p (.lit (.string ⟨#[]⟩)), .p (.lit (.string ⟨#[]⟩)), .p (.lit (.bool false)), .p (.lit (.string ⟨#[]⟩)), .p (.lit (.string ⟨#[]⟩))]] (.one (.ca 33)) [], .op2 false .eql (.pa 33) (.p (.lit (.int .i64 1))) 34, .isB 34 true] Tryz.func4 (by kernel_rfl) rfl (by kernel_rfl) rfl (by kernel_rfl)
    ⟨fun γ w' bw _ => alive_any w' (hT.later bw),
     congrArg (fun z => some (Value.bool z)) (by decide : (!true) = false),
     rfl,
     fun γ w' _ hm => great2_no a_0 a_1 a_2 a_3 a_4 a_5 a_6 a_7 b_0 b_1 b_2 b_3 b_4 b_5 b_6 b_7 w' (γ 3) (SX.mem_at (b := 3) (l := [.pa 0, .pa 1, .pa 2, .pa 3, .pa 4, .pa 5, .pa 6, .pa 7, .pa 8, .pa 9, .pa 10, .pa 11, .pa 12, .pa 13, .pa 14, .pa 15]) hm rfl) ha_1 ha_3 ha_5 ha_7 hb_1 hb_3 hb_5 hb_7,
     rfl,
     fun γ w' _ _ => Wide_no v_0 v_1 v_2 v_3 v_4 v_5 v_6 v_7 v_8 w' hv_1 hv_2 hv_4 hv_5 hv_7 hv_8,
     congrArg (fun z => some (Value.bool z)) (by decide : ((0 : Int) == (1 : Int)) = false),
     rfl,
     fun γ w' _ _ => Wide_yes t_0 t_1 t_2 false ⟨#[]⟩ ⟨#[]⟩ false ⟨#[]⟩ ⟨#[]⟩ w' (fun k => h ⟨k.1, k.2.1⟩),
     congrArg (fun z => some (Value.bool z)) (by decide : ((1 : Int) == (1 : Int)) = true),
     rfl⟩
set_option maxRecDepth 100000 in
theorem Moves_m (a_0 : Bool) (a_1 : ByteArray) (a_2 : Bool) (a_3 : ByteArray) (a_4 : Bool) (a_5 : ByteArray) (a_6 : Bool) (a_7 : ByteArray) (b_0 : Bool) (b_1 : ByteArray) (b_2 : Bool) (b_3 : ByteArray) (b_4 : Bool) (b_5 : ByteArray) (b_6 : Bool) (b_7 : ByteArray) (v_0 : Bool) (v_1 : ByteArray) (v_2 : ByteArray) (v_3 : Bool) (v_4 : ByteArray) (v_5 : ByteArray) (v_6 : Bool) (v_7 : ByteArray) (v_8 : ByteArray) (t_0 : Bool) (t_1 : ByteArray) (t_2 : ByteArray) (w : World) (hT : TabC w) (ha_1 : a_1.size ≤ 6) (ha_3 : a_3.size ≤ 6) (ha_5 : a_5.size ≤ 6) (ha_7 : a_7.size ≤ 6) (hb_1 : b_1.size ≤ 6) (hb_3 : b_3.size ≤ 6) (hb_5 : b_5.size ≤ 6) (hb_7 : b_7.size ≤ 6) (hv_1 : v_1.size ≤ 6) (hv_2 : v_2.size ≤ 6) (hv_4 : v_4.size ≤ 6) (hv_5 : v_5.size ≤ 6) (hv_7 : v_7.size ≤ 6) (hv_8 : v_8.size ≤ 6) (ht_1 : t_1.size ≤ 6) (ht_2 : t_2.size ≤ 6)  :
    Calls Tryz.prog 4 #[.agg #[.bool a_0, .string a_1, .bool a_2, .string a_3, .bool a_4, .string a_5, .bool a_6, .string a_7], .agg #[.bool b_0, .string b_1, .bool b_2, .string b_3, .bool b_4, .string b_5, .bool b_6, .string b_7], .agg #[.bool v_0, .string v_1, .string v_2, .bool v_3, .string v_4, .string v_5, .bool v_6, .string v_7, .string v_8, .bool t_0, .string t_1, .string t_2]] w fun e w' => e = .returned (.bool true) ∧ Below w.heap.size w w' := by
  obtain ⟨aq, haq⟩ : ∃ q, IsF (.agg #[.bool a_0, .string a_1, .bool a_2, .string a_3, .bool a_4, .string a_5, .bool a_6, .string a_7]) q 6 := ⟨⟨_, _, _, _⟩, _, _, _, _, _, _, _, _, rfl, rfl, ha_1, rfl, ha_3, rfl, ha_5, rfl, ha_7⟩
  have zaq := haq.sz
  obtain ⟨a, ea⟩ : ∃ p, p = pt aq := ⟨_, rfl⟩
  have ha : IsP (.agg #[.bool a_0, .string a_1, .bool a_2, .string a_3, .bool a_4, .string a_5, .bool a_6, .string a_7]) a 6 := by rw [ea]; exact haq.pt
  have za := ha.sz (by decide)
  obtain ⟨bq, hbq⟩ : ∃ q, IsF (.agg #[.bool b_0, .string b_1, .bool b_2, .string b_3, .bool b_4, .string b_5, .bool b_6, .string b_7]) q 6 := ⟨⟨_, _, _, _⟩, _, _, _, _, _, _, _, _, rfl, rfl, hb_1, rfl, hb_3, rfl, hb_5, rfl, hb_7⟩
  have zbq := hbq.sz
  obtain ⟨b, eb⟩ : ∃ p, p = pt bq := ⟨_, rfl⟩
  have hb : IsP (.agg #[.bool b_0, .string b_1, .bool b_2, .string b_3, .bool b_4, .string b_5, .bool b_6, .string b_7]) b 6 := by rw [eb]; exact hbq.pt
  have zb := hb.sz (by decide)
  obtain ⟨v, hv⟩ : ∃ q, IsV (.agg #[.bool v_0, .string v_1, .string v_2, .bool v_3, .string v_4, .string v_5, .bool v_6, .string v_7, .string v_8]) q 6 := ⟨⟨_, _, _⟩, _, _, _, _, _, _, _, _, _, rfl, rfl, hv_1, hv_2, rfl, hv_4, hv_5, rfl, hv_7, hv_8⟩
  have zv := hv.sz (by decide)
  obtain ⟨t, ht⟩ : ∃ q, IsQ (.agg #[.bool t_0, .string t_1, .string t_2]) q 6 := ⟨_, _, _, _, rfl, rfl, ht_1, ht_2⟩
  have zt := ht.sz (by decide)
  have f1 : Pk (addP a v) 39 := Pk.up ((Pk.add za zv)) (by decide)
  have f2 : Pk (lerp a b t) 78 := Pk.up ((Pk.lerp za zb zt)) (by decide)
  exact SX.run (w := w) (List.flatten [(.bool a_0 :: .string a_1 :: .bool a_2 :: .string a_3 :: .bool a_4 :: .string a_5 :: .bool a_6 :: .string a_7 :: .bool b_0 :: .string b_1 :: .bool b_2 :: .string b_3 :: .bool b_4 :: .string b_5 :: .bool b_6 :: .string b_7 :: .bool v_0 :: .string v_1 :: .string v_2 :: .bool v_3 :: .string v_4 :: .string v_5 :: .bool v_6 :: .string v_7 :: .string v_8 :: .bool t_0 :: .string t_1 :: .string t_2 :: .bool true :: .bool false :: .bool false :: .int .i64 0 :: .bool false :: .int .i64 0 :: .bool false :: .int .i64 (cmpP a b) :: .int .i64 (cmpP a b) :: .bool true :: []), pc (addP a v), pc (addP a v), [.bool true], pc (lerp a b t), pc (lerp a b t), [.bool true]]) [.b false, .b false, .b false, .b false, .b true, .b true, .b true] [.ga 0 8, .ga 8 8, .ga 16 12] 28 (.one (.ca 71)) [.call 10 [] (.one (.ca 28)) [], .op1 .not (.pa 28) 29, .isB 29 false, .call 11 [.c (.p (.slc 3 0 2 2))] (.one (.ca 30)) [(3073, .pa 0), (3074, .pa 1), (3075, .pa 2), (3076, .pa 3), (3077, .pa 4), (3078, .pa 5), (3079, .pa 6), (3080, .pa 7), (3081, .pa 8), (3082, .pa 9), (3083, .pa 10), (3084, .pa 11), (3085, .pa 12), (3086, .pa 13), (3087, .pa 14), (3088, .pa 15)], .isB 30 false, .call 12 [.ga 16 9] (.one (.ca 31)) [], .op2 false .eql (.pa 31) (.p (.lit (.int .i64 1))) 32, .isB 32 false, .call 12 [.agg [.pa 25, .pa 26, .pa 27, .p (.lit (.bool false)), .p (.lit (.string ⟨#[]⟩)), .p (.lit (.string ⟨#[]⟩)), .p (.lit (.bool false)), .p (.lit (.string ⟨#[]⟩)), .p (.lit (.string ⟨#[]⟩))]] (.one (.ca 33)) [], .op2 false .eql (.pa 33) (.p (.lit (.int .i64 1))) 34, .isB 34 false, .call 21 [.ga 0 8, .ga 8 8] (.one (.ca 35)) [], .call 22 [.ga 0 8, .ga 8 8] (.one (.ca 36)) [], .op2 false .eql (.pa 35) (.pa 36) 37, .isB 37 true, .call 23 [.ga 0 8, .ga 16 9] (.one (.ga 38 8)) [], .call 24 [.ga 0 8, .ga 16 9] (.one (.ga 46 8)) [], .eqs false [.b, .s, .b, .s, .b, .s, .b, .s] [.pa 38, .pa 39, .pa 40, .pa 41, .pa 42, .pa 43, .pa 44, .pa 45] [.pa 46, .pa 47, .pa 48, .pa 49, .pa 50, .pa 51, .pa 52, .pa 53] 54, .isB 54 true, .call 25 [.ga 0 8, .ga 8 8, .ga 25 3] (.one (.ga 55 8)) [], .call 26 [.ga 0 8, .ga 8 8, .ga 25 3] (.one (.ga 63 8)) [], .eqs false [.b, .s, .b, .s, .b, .s, .b, .s] [.pa 55, .pa 56, .pa 57, .pa 58, .pa 59, .pa 60, .pa 61, .pa 62] [.pa 63, .pa 64, .pa 65, .pa 66, .pa 67, .pa 68, .pa 69, .pa 70] 71] Tryz.func4 (by kernel_rfl) rfl (by kernel_rfl) rfl (by kernel_rfl)
    ⟨fun γ w' bw _ => alive_any w' (hT.later bw),
     congrArg (fun z => some (Value.bool z)) (by first | rfl | assumption | decide | simp [*] : (!true) = false),
     rfl,
     fun γ w' _ hm => great2_no a_0 a_1 a_2 a_3 a_4 a_5 a_6 a_7 b_0 b_1 b_2 b_3 b_4 b_5 b_6 b_7 w' (γ 3) (SX.mem_at (b := 3) (l := [.pa 0, .pa 1, .pa 2, .pa 3, .pa 4, .pa 5, .pa 6, .pa 7, .pa 8, .pa 9, .pa 10, .pa 11, .pa 12, .pa 13, .pa 14, .pa 15]) hm rfl) ha_1 ha_3 ha_5 ha_7 hb_1 hb_3 hb_5 hb_7,
     rfl,
     fun γ w' _ _ => Wide_no v_0 v_1 v_2 v_3 v_4 v_5 v_6 v_7 v_8 w' hv_1 hv_2 hv_4 hv_5 hv_7 hv_8,
     congrArg (fun z => some (Value.bool z)) (by decide : ((0 : Int) == (1 : Int)) = false),
     rfl,
     fun γ w' _ _ => Wide_no t_0 t_1 t_2 false ⟨#[]⟩ ⟨#[]⟩ false ⟨#[]⟩ ⟨#[]⟩ w' ht_1 ht_2 (by decide) (by decide) (by decide) (by decide),
     congrArg (fun z => some (Value.bool z)) (by decide : ((0 : Int) == (1 : Int)) = false),
     rfl,
     fun γ w' _ _ => pCmp ha (by decide) hb (by decide) w',
     fun γ w' _ _ => p4Cmp ha (by decide) hb (by decide) w',
     congrArg (fun z => some (Value.bool z)) (beq_self_eq_true _ : ((cmpP a b) == (cmpP a b)) = true),
     rfl,
     fun γ w' bw _ => pAdd ha (by decide) hv (by decide) w' (hT.later bw),
     fun γ w' _ _ => p4Add ha (by decide) hv (by decide) w',
     ⟨rfl, rfl, eqv_yes (eqL_P (addP a v) (addP a v)) (rfl) rfl⟩,
     rfl,
     fun γ w' bw _ => pLerp ha (by decide) hb (by decide) ht (by decide) w' (hT.later bw),
     fun γ w' _ _ => p4Mid ha (by decide) hb (by decide) ht (by decide) w',
     ⟨rfl, rfl, eqv_yes (eqL_P (lerp a b t) (lerp a b t)) (rfl) rfl⟩⟩
theorem Moves_any (a_0 : Bool) (a_1 : ByteArray) (a_2 : Bool) (a_3 : ByteArray) (a_4 : Bool) (a_5 : ByteArray) (a_6 : Bool) (a_7 : ByteArray) (b_0 : Bool) (b_1 : ByteArray) (b_2 : Bool) (b_3 : ByteArray) (b_4 : Bool) (b_5 : ByteArray) (b_6 : Bool) (b_7 : ByteArray) (v_0 : Bool) (v_1 : ByteArray) (v_2 : ByteArray) (v_3 : Bool) (v_4 : ByteArray) (v_5 : ByteArray) (v_6 : Bool) (v_7 : ByteArray) (v_8 : ByteArray) (t_0 : Bool) (t_1 : ByteArray) (t_2 : ByteArray) (w : World) (hT : TabC w) :
    Calls Tryz.prog 4 #[.agg #[.bool a_0, .string a_1, .bool a_2, .string a_3, .bool a_4, .string a_5, .bool a_6, .string a_7], .agg #[.bool b_0, .string b_1, .bool b_2, .string b_3, .bool b_4, .string b_5, .bool b_6, .string b_7], .agg #[.bool v_0, .string v_1, .string v_2, .bool v_3, .string v_4, .string v_5, .bool v_6, .string v_7, .string v_8, .bool t_0, .string t_1, .string t_2]] w fun e w' => e = .returned (.bool true) ∧ Below w.heap.size w w' := by
  by_cases g0 : (a_1.size ≤ 6 ∧ a_3.size ≤ 6 ∧ a_5.size ≤ 6 ∧ a_7.size ≤ 6) ∧ (b_1.size ≤ 6 ∧ b_3.size ≤ 6 ∧ b_5.size ≤ 6 ∧ b_7.size ≤ 6)
  rotate_left
  · exact Moves_g0 a_0 a_1 a_2 a_3 a_4 a_5 a_6 a_7 b_0 b_1 b_2 b_3 b_4 b_5 b_6 b_7 v_0 v_1 v_2 v_3 v_4 v_5 v_6 v_7 v_8 t_0 t_1 t_2 w hT  g0
  obtain ⟨⟨ha_1, ha_3, ha_5, ha_7⟩, ⟨hb_1, hb_3, hb_5, hb_7⟩⟩ := g0
  by_cases g1 : v_1.size ≤ 6 ∧ v_2.size ≤ 6 ∧ v_4.size ≤ 6 ∧ v_5.size ≤ 6 ∧ v_7.size ≤ 6 ∧ v_8.size ≤ 6
  rotate_left
  · exact Moves_g1 a_0 a_1 a_2 a_3 a_4 a_5 a_6 a_7 b_0 b_1 b_2 b_3 b_4 b_5 b_6 b_7 v_0 v_1 v_2 v_3 v_4 v_5 v_6 v_7 v_8 t_0 t_1 t_2 w hT ha_1 ha_3 ha_5 ha_7 hb_1 hb_3 hb_5 hb_7 g1
  obtain ⟨hv_1, hv_2, hv_4, hv_5, hv_7, hv_8⟩ := g1
  by_cases g2 : t_1.size ≤ 6 ∧ t_2.size ≤ 6
  rotate_left
  · exact Moves_g2 a_0 a_1 a_2 a_3 a_4 a_5 a_6 a_7 b_0 b_1 b_2 b_3 b_4 b_5 b_6 b_7 v_0 v_1 v_2 v_3 v_4 v_5 v_6 v_7 v_8 t_0 t_1 t_2 w hT ha_1 ha_3 ha_5 ha_7 hb_1 hb_3 hb_5 hb_7 hv_1 hv_2 hv_4 hv_5 hv_7 hv_8 g2
  obtain ⟨ht_1, ht_2⟩ := g2
  exact Moves_m a_0 a_1 a_2 a_3 a_4 a_5 a_6 a_7 b_0 b_1 b_2 b_3 b_4 b_5 b_6 b_7 v_0 v_1 v_2 v_3 v_4 v_5 v_6 v_7 v_8 t_0 t_1 t_2 w hT ha_1 ha_3 ha_5 ha_7 hb_1 hb_3 hb_5 hb_7 hv_1 hv_2 hv_4 hv_5 hv_7 hv_8 ht_1 ht_2
set_option maxRecDepth 100000 in
theorem RoundTrip_g0 (a_0 : Bool) (a_1 : ByteArray) (a_2 : Bool) (a_3 : ByteArray) (a_4 : Bool) (a_5 : ByteArray) (a_6 : Bool) (a_7 : ByteArray) (b_0 : Bool) (b_1 : ByteArray) (b_2 : Bool) (b_3 : ByteArray) (b_4 : Bool) (b_5 : ByteArray) (b_6 : Bool) (b_7 : ByteArray) (v_0 : Bool) (v_1 : ByteArray) (v_2 : ByteArray) (v_3 : Bool) (v_4 : ByteArray) (v_5 : ByteArray) (v_6 : Bool) (v_7 : ByteArray) (v_8 : ByteArray) (w : World) (hT : TabC w)  (h : ¬ ((a_1.size ≤ 6 ∧ a_3.size ≤ 6 ∧ a_5.size ≤ 6 ∧ a_7.size ≤ 6) ∧ (b_1.size ≤ 6 ∧ b_3.size ≤ 6 ∧ b_5.size ≤ 6 ∧ b_7.size ≤ 6))) :
    Calls Tryz.prog 6 #[.agg #[.bool a_0, .string a_1, .bool a_2, .string a_3, .bool a_4, .string a_5, .bool a_6, .string a_7], .agg #[.bool b_0, .string b_1, .bool b_2, .string b_3, .bool b_4, .string b_5, .bool b_6, .string b_7], .agg #[.bool v_0, .string v_1, .string v_2, .bool v_3, .string v_4, .string v_5, .bool v_6, .string v_7, .string v_8]] w fun e w' => e = .returned (.bool true) ∧ Below w.heap.size w w' := by
  exact SX.run (w := w) (.bool a_0 :: .string a_1 :: .bool a_2 :: .string a_3 :: .bool a_4 :: .string a_5 :: .bool a_6 :: .string a_7 :: .bool b_0 :: .string b_1 :: .bool b_2 :: .string b_3 :: .bool b_4 :: .string b_5 :: .bool b_6 :: .string b_7 :: .bool v_0 :: .string v_1 :: .string v_2 :: .bool v_3 :: .string v_4 :: .string v_5 :: .bool v_6 :: .string v_7 :: .string v_8 :: .bool true :: .bool false :: .bool true :: []) [.b false, .b true] [.ga 0 8, .ga 8 8, .ga 16 9] 25 (.one (.c (.p (.lit (.bool true))))) [.call 10 [] (.one (.ca 25)) [], .op1 .not (.pa 25) 26, .isB 26 false, .call 11 [.c (.p (.slc 3 0 2 2))] (.one (.ca 27)) [(3073, .pa 0), (3074, .pa 1), (3075, .pa 2), (3076, .pa 3), (3077, .pa 4), (3078, .pa 5), (3079, .pa 6), (3080, .pa 7), (3081, .pa 8), (3082, .pa 9), (3083, .pa 10), (3084, .pa 11), (3085, .pa 12), (3086, .pa 13), (3087, .pa 14), (3088, .pa 15)], .isB 27 true] Tryz.func6 (by kernel_rfl) rfl (by kernel_rfl) rfl (by kernel_rfl)
    ⟨fun γ w' bw _ => alive_any w' (hT.later bw),
     congrArg (fun z => some (Value.bool z)) (by decide : (!true) = false),
     rfl,
     fun γ w' _ hm => great2_yes a_0 a_1 a_2 a_3 a_4 a_5 a_6 a_7 b_0 b_1 b_2 b_3 b_4 b_5 b_6 b_7 w' (γ 3) (SX.mem_at (b := 3) (l := [.pa 0, .pa 1, .pa 2, .pa 3, .pa 4, .pa 5, .pa 6, .pa 7, .pa 8, .pa 9, .pa 10, .pa 11, .pa 12, .pa 13, .pa 14, .pa 15]) hm rfl) h,
     rfl⟩
set_option maxRecDepth 100000 in
theorem RoundTrip_g1 (a_0 : Bool) (a_1 : ByteArray) (a_2 : Bool) (a_3 : ByteArray) (a_4 : Bool) (a_5 : ByteArray) (a_6 : Bool) (a_7 : ByteArray) (b_0 : Bool) (b_1 : ByteArray) (b_2 : Bool) (b_3 : ByteArray) (b_4 : Bool) (b_5 : ByteArray) (b_6 : Bool) (b_7 : ByteArray) (v_0 : Bool) (v_1 : ByteArray) (v_2 : ByteArray) (v_3 : Bool) (v_4 : ByteArray) (v_5 : ByteArray) (v_6 : Bool) (v_7 : ByteArray) (v_8 : ByteArray) (w : World) (hT : TabC w) (ha_1 : a_1.size ≤ 6) (ha_3 : a_3.size ≤ 6) (ha_5 : a_5.size ≤ 6) (ha_7 : a_7.size ≤ 6) (hb_1 : b_1.size ≤ 6) (hb_3 : b_3.size ≤ 6) (hb_5 : b_5.size ≤ 6) (hb_7 : b_7.size ≤ 6) (h : ¬ (v_1.size ≤ 6 ∧ v_2.size ≤ 6 ∧ v_4.size ≤ 6 ∧ v_5.size ≤ 6 ∧ v_7.size ≤ 6 ∧ v_8.size ≤ 6)) :
    Calls Tryz.prog 6 #[.agg #[.bool a_0, .string a_1, .bool a_2, .string a_3, .bool a_4, .string a_5, .bool a_6, .string a_7], .agg #[.bool b_0, .string b_1, .bool b_2, .string b_3, .bool b_4, .string b_5, .bool b_6, .string b_7], .agg #[.bool v_0, .string v_1, .string v_2, .bool v_3, .string v_4, .string v_5, .bool v_6, .string v_7, .string v_8]] w fun e w' => e = .returned (.bool true) ∧ Below w.heap.size w w' := by
  exact SX.run (w := w) (.bool a_0 :: .string a_1 :: .bool a_2 :: .string a_3 :: .bool a_4 :: .string a_5 :: .bool a_6 :: .string a_7 :: .bool b_0 :: .string b_1 :: .bool b_2 :: .string b_3 :: .bool b_4 :: .string b_5 :: .bool b_6 :: .string b_7 :: .bool v_0 :: .string v_1 :: .string v_2 :: .bool v_3 :: .string v_4 :: .string v_5 :: .bool v_6 :: .string v_7 :: .string v_8 :: .bool true :: .bool false :: .bool false :: .int .i64 1 :: .bool true :: []) [.b false, .b false, .b true] [.ga 0 8, .ga 8 8, .ga 16 9] 25 (.one (.c (.p (.lit (.bool true))))) [.call 10 [] (.one (.ca 25)) [], .op1 .not (.pa 25) 26, .isB 26 false, .call 11 [.c (.p (.slc 3 0 2 2))] (.one (.ca 27)) [(3073, .pa 0), (3074, .pa 1), (3075, .pa 2), (3076, .pa 3), (3077, .pa 4), (3078, .pa 5), (3079, .pa 6), (3080, .pa 7), (3081, .pa 8), (3082, .pa 9), (3083, .pa 10), (3084, .pa 11), (3085, .pa 12), (3086, .pa 13), (3087, .pa 14), (3088, .pa 15)], .isB 27 false, .call 12 [.ga 16 9] (.one (.ca 28)) [], .op2 false .eql (.pa 28) (.p (.lit (.int .i64 1))) 29, .isB 29 true] Tryz.func6 (by kernel_rfl) rfl (by kernel_rfl) rfl (by kernel_rfl)
    ⟨fun γ w' bw _ => alive_any w' (hT.later bw),
     congrArg (fun z => some (Value.bool z)) (by decide : (!true) = false),
     rfl,
     fun γ w' _ hm => great2_no a_0 a_1 a_2 a_3 a_4 a_5 a_6 a_7 b_0 b_1 b_2 b_3 b_4 b_5 b_6 b_7 w' (γ 3) (SX.mem_at (b := 3) (l := [.pa 0, .pa 1, .pa 2, .pa 3, .pa 4, .pa 5, .pa 6, .pa 7, .pa 8, .pa 9, .pa 10, .pa 11, .pa 12, .pa 13, .pa 14, .pa 15]) hm rfl) ha_1 ha_3 ha_5 ha_7 hb_1 hb_3 hb_5 hb_7,
     rfl,
     fun γ w' _ _ => Wide_yes v_0 v_1 v_2 v_3 v_4 v_5 v_6 v_7 v_8 w' h,
     congrArg (fun z => some (Value.bool z)) (by decide : ((1 : Int) == (1 : Int)) = true),
     rfl⟩
set_option maxRecDepth 100000 in
theorem RoundTrip_m (a_0 : Bool) (a_1 : ByteArray) (a_2 : Bool) (a_3 : ByteArray) (a_4 : Bool) (a_5 : ByteArray) (a_6 : Bool) (a_7 : ByteArray) (b_0 : Bool) (b_1 : ByteArray) (b_2 : Bool) (b_3 : ByteArray) (b_4 : Bool) (b_5 : ByteArray) (b_6 : Bool) (b_7 : ByteArray) (v_0 : Bool) (v_1 : ByteArray) (v_2 : ByteArray) (v_3 : Bool) (v_4 : ByteArray) (v_5 : ByteArray) (v_6 : Bool) (v_7 : ByteArray) (v_8 : ByteArray) (w : World) (hT : TabC w) (ha_1 : a_1.size ≤ 6) (ha_3 : a_3.size ≤ 6) (ha_5 : a_5.size ≤ 6) (ha_7 : a_7.size ≤ 6) (hb_1 : b_1.size ≤ 6) (hb_3 : b_3.size ≤ 6) (hb_5 : b_5.size ≤ 6) (hb_7 : b_7.size ≤ 6) (hv_1 : v_1.size ≤ 6) (hv_2 : v_2.size ≤ 6) (hv_4 : v_4.size ≤ 6) (hv_5 : v_5.size ≤ 6) (hv_7 : v_7.size ≤ 6) (hv_8 : v_8.size ≤ 6)  :
    Calls Tryz.prog 6 #[.agg #[.bool a_0, .string a_1, .bool a_2, .string a_3, .bool a_4, .string a_5, .bool a_6, .string a_7], .agg #[.bool b_0, .string b_1, .bool b_2, .string b_3, .bool b_4, .string b_5, .bool b_6, .string b_7], .agg #[.bool v_0, .string v_1, .string v_2, .bool v_3, .string v_4, .string v_5, .bool v_6, .string v_7, .string v_8]] w fun e w' => e = .returned (.bool true) ∧ Below w.heap.size w w' := by
  obtain ⟨aq, haq⟩ : ∃ q, IsF (.agg #[.bool a_0, .string a_1, .bool a_2, .string a_3, .bool a_4, .string a_5, .bool a_6, .string a_7]) q 6 := ⟨⟨_, _, _, _⟩, _, _, _, _, _, _, _, _, rfl, rfl, ha_1, rfl, ha_3, rfl, ha_5, rfl, ha_7⟩
  have zaq := haq.sz
  obtain ⟨a, ea⟩ : ∃ p, p = pt aq := ⟨_, rfl⟩
  have ha : IsP (.agg #[.bool a_0, .string a_1, .bool a_2, .string a_3, .bool a_4, .string a_5, .bool a_6, .string a_7]) a 6 := by rw [ea]; exact haq.pt
  have za := ha.sz (by decide)
  obtain ⟨bq, hbq⟩ : ∃ q, IsF (.agg #[.bool b_0, .string b_1, .bool b_2, .string b_3, .bool b_4, .string b_5, .bool b_6, .string b_7]) q 6 := ⟨⟨_, _, _, _⟩, _, _, _, _, _, _, _, _, rfl, rfl, hb_1, rfl, hb_3, rfl, hb_5, rfl, hb_7⟩
  have zbq := hbq.sz
  obtain ⟨b, eb⟩ : ∃ p, p = pt bq := ⟨_, rfl⟩
  have hb : IsP (.agg #[.bool b_0, .string b_1, .bool b_2, .string b_3, .bool b_4, .string b_5, .bool b_6, .string b_7]) b 6 := by rw [eb]; exact hbq.pt
  have zb := hb.sz (by decide)
  obtain ⟨v, hv⟩ : ∃ q, IsV (.agg #[.bool v_0, .string v_1, .string v_2, .bool v_3, .string v_4, .string v_5, .bool v_6, .string v_7, .string v_8]) q 6 := ⟨⟨_, _, _⟩, _, _, _, _, _, _, _, _, _, rfl, rfl, hv_1, hv_2, rfl, hv_4, hv_5, rfl, hv_7, hv_8⟩
  have zv := hv.sz (by decide)
  have f1 : Vk a 6 := Vk.up ((Vk.ofP1 za)) (by decide)
  have f2 : Rk (-v.x) 6 := Rk.up (Rk.neg zv.1) (by decide)
  have f3 : Rk a.x 6 := Rk.up (f1.1) (by decide)
  have f4 : Rk (a.x + v.x) 13 := Rk.up (Rk.add f3 zv.1) (by decide)
  have f5 : Rk (-v.y) 6 := Rk.up (Rk.neg zv.2.1) (by decide)
  have f6 : Rk a.y 6 := Rk.up (f1.2.1) (by decide)
  have f7 : Rk (a.y + v.y) 13 := Rk.up (Rk.add f6 zv.2.1) (by decide)
  have f8 : Rk (-v.z) 6 := Rk.up (Rk.neg zv.2.2) (by decide)
  have f9 : Rk a.z 6 := Rk.up (f1.2.2) (by decide)
  have f10 : Rk (a.z + v.z) 13 := Rk.up (Rk.add f9 zv.2.2) (by decide)
  have f11 : Pk (addP a v) 39 := Pk.up ((Pk.add za zv)) (by decide)
  have f12 : Vk b 6 := Vk.up ((Vk.ofP1 zb)) (by decide)
  have f13 : Pk a 18 := Pk.up ((Pk.ofV f1)) (by decide)
  have f14 : Vk (addP a v) 39 := Vk.up ((Vk.ofP1 f11)) (by decide)
  have f15 : Pk (addP (addP a v) (P3.mk (-v.x) (-v.y) (-v.z))) 138 := Pk.up ((Pk.add f11 (Vk.mk f2 f5 f8))) (by decide)
  have f16 : Pk b 6 := Pk.up (zb) (by decide)
  exact SX.run (w := w) (List.flatten [(.bool a_0 :: .string a_1 :: .bool a_2 :: .string a_3 :: .bool a_4 :: .string a_5 :: .bool a_6 :: .string a_7 :: .bool b_0 :: .string b_1 :: .bool b_2 :: .string b_3 :: .bool b_4 :: .string b_5 :: .bool b_6 :: .string b_7 :: .bool v_0 :: .string v_1 :: .string v_2 :: .bool v_3 :: .string v_4 :: .string v_5 :: .bool v_6 :: .string v_7 :: .string v_8 :: .bool true :: .bool false :: .bool false :: .int .i64 0 :: .bool false :: []), vc a, qc (-v.x), qc (a.x + v.x), qc (-v.y), qc (a.y + v.y), qc (-v.z), qc (a.z + v.z), pc (addP a v), vc a, vc b, [.bool (false != decide (a = b))], pc a, pc a, [.bool true], vc (addP a v), [.bool true], pc (addP (addP a v) (P3.mk (-v.x) (-v.y) (-v.z))), pc a, [.bool true], pc a, pc b, [.bool (false != decide (a = b)), .bool true, .int .i64 (cmpP a b), .bool ((cmpP a b) == (0 : Int)), .bool true, .string (textP a), .string (textP b), .bool ((textP a).toList == (textP b).toList), .bool true]]) [.b false, .b false, .b false, .b true, .b true, .b true, .b true, .b true, .b true] [.ga 0 8, .ga 8 8, .ga 16 9] 25 (.one (.ca 152)) (.call 10 [] (.one (.ca 25)) [] :: .op1 .not (.pa 25) 26 :: .isB 26 false :: .call 11 [.c (.p (.slc 3 0 2 2))] (.one (.ca 27)) [(3073, .pa 0), (3074, .pa 1), (3075, .pa 2), (3076, .pa 3), (3077, .pa 4), (3078, .pa 5), (3079, .pa 6), (3080, .pa 7), (3081, .pa 8), (3082, .pa 9), (3083, .pa 10), (3084, .pa 11), (3085, .pa 12), (3086, .pa 13), (3087, .pa 14), (3088, .pa 15)] :: .isB 27 false :: .call 12 [.ga 16 9] (.one (.ca 28)) [] :: .op2 false .eql (.pa 28) (.p (.lit (.int .i64 1))) 29 :: .isB 29 false :: .call 15 [.ga 0 8] (.one (.ga 30 9)) [] :: .call 29 [.ga 16 3] (.one (.ga 39 3)) [] :: .call 30 [.ga 30 3, .ga 16 3] (.one (.ga 42 3)) [] :: .call 29 [.ga 19 3] (.one (.ga 45 3)) [] :: .call 30 [.ga 33 3, .ga 19 3] (.one (.ga 48 3)) [] :: .call 29 [.ga 22 3] (.one (.ga 51 3)) [] :: .call 30 [.ga 36 3, .ga 22 3] (.one (.ga 54 3)) [] :: .call 23 [.ga 0 8, .ga 16 9] (.one (.ga 57 8)) [] :: .call 15 [.ga 0 8] (.one (.ga 65 9)) [] :: .call 15 [.ga 8 8] (.one (.ga 74 9)) [] :: .eqs false [.b, .s, .s, .b, .s, .s, .b, .s, .s] [.pa 65, .pa 66, .pa 67, .pa 68, .pa 69, .pa 70, .pa 71, .pa 72, .pa 73] [.pa 74, .pa 75, .pa 76, .pa 77, .pa 78, .pa 79, .pa 80, .pa 81, .pa 82] 83 :: .call 19 [.ga 30 9] (.one (.ga 84 8)) [] :: .call 13 [.ga 0 8] (.one (.ga 92 8)) [] :: .eqs false [.b, .s, .b, .s, .b, .s, .b, .s] [.pa 84, .pa 85, .pa 86, .pa 87, .pa 88, .pa 89, .pa 90, .pa 91] [.pa 92, .pa 93, .pa 94, .pa 95, .pa 96, .pa 97, .pa 98, .pa 99] 100 :: .isB 100 true :: .call 15 [.ga 57 8] (.one (.ga 101 9)) [] :: .eqs false [.b, .s, .s, .b, .s, .s, .b, .s, .s] [.pa 101, .pa 102, .pa 103, .pa 104, .pa 105, .pa 106, .pa 107, .pa 108, .pa 109] [.pa 42, .pa 43, .pa 44, .pa 48, .pa 49, .pa 50, .pa 54, .pa 55, .pa 56] 110 :: .isB 110 true :: .call 23 [.ga 57 8, .agg [.pa 39, .pa 40, .pa 41, .pa 45, .pa 46, .pa 47, .pa 51, .pa 52, .pa 53]] (.one (.ga 111 8)) [] :: .call 13 [.ga 0 8] (.one (.ga 119 8)) [] :: .eqs false [.b, .s, .b, .s, .b, .s, .b, .s] [.pa 111, .pa 112, .pa 113, .pa 114, .pa 115, .pa 116, .pa 117, .pa 118] [.pa 119, .pa 120, .pa 121, .pa 122, .pa 123, .pa 124, .pa 125, .pa 126] 127 :: .isB 127 true :: .call 13 [.ga 0 8] (.one (.ga 128 8)) [] :: .call 13 [.ga 8 8] (.one (.ga 136 8)) [] :: .eqs false [.b, .s, .b, .s, .b, .s, .b, .s] [.pa 128, .pa 129, .pa 130, .pa 131, .pa 132, .pa 133, .pa 134, .pa 135] [.pa 136, .pa 137, .pa 138, .pa 139, .pa 140, .pa 141, .pa 142, .pa 143] 144 :: .op2 true .eql (.pa 83) (.pa 144) 145 :: .isB 145 true :: .call 21 [.ga 0 8, .ga 8 8] (.one (.ca 146)) [] :: .op2 false .eql (.pa 146) (.p (.lit (.int .i64 0))) 147 :: .op2 true .eql (.pa 83) (.pa 147) 148 :: .isB 148 true :: .call 17 [.ga 0 8] (.one (.ca 149)) [] :: .call 17 [.ga 8 8] (.one (.ca 150)) [] :: .op2 false .eql (.pa 149) (.pa 150) 151 :: .op2 true .eql (.pa 83) (.pa 151) 152 :: []) Tryz.func6 (by kernel_rfl) rfl (by kernel_rfl) rfl (by kernel_rfl)
    ⟨fun γ w' bw _ => alive_any w' (hT.later bw),
     congrArg (fun z => some (Value.bool z)) (by first | rfl | assumption | decide | simp [*] : (!true) = false),
     rfl,
     fun γ w' _ hm => great2_no a_0 a_1 a_2 a_3 a_4 a_5 a_6 a_7 b_0 b_1 b_2 b_3 b_4 b_5 b_6 b_7 w' (γ 3) (SX.mem_at (b := 3) (l := [.pa 0, .pa 1, .pa 2, .pa 3, .pa 4, .pa 5, .pa 6, .pa 7, .pa 8, .pa 9, .pa 10, .pa 11, .pa 12, .pa 13, .pa 14, .pa 15]) hm rfl) ha_1 ha_3 ha_5 ha_7 hb_1 hb_3 hb_5 hb_7,
     rfl,
     fun γ w' _ _ => Wide_no v_0 v_1 v_2 v_3 v_4 v_5 v_6 v_7 v_8 w' hv_1 hv_2 hv_4 hv_5 hv_7 hv_8,
     congrArg (fun z => some (Value.bool z)) (by decide : ((0 : Int) == (1 : Int)) = false),
     rfl,
     fun γ w' bw _ => pCoords ha (by decide) w' (hT.later bw),
     fun γ w' bw _ => qNeg hv.qx (by decide) w' (hT.later bw),
     fun γ w' bw _ => qAdd (IsQ.can f3) (by decide) hv.qx (by decide) w' (hT.later bw),
     fun γ w' bw _ => qNeg hv.qy (by decide) w' (hT.later bw),
     fun γ w' bw _ => qAdd (IsQ.can f6) (by decide) hv.qy (by decide) w' (hT.later bw),
     fun γ w' bw _ => qNeg hv.qz (by decide) w' (hT.later bw),
     fun γ w' bw _ => qAdd (IsQ.can f9) (by decide) hv.qz (by decide) w' (hT.later bw),
     fun γ w' bw _ => pAdd ha (by decide) hv (by decide) w' (hT.later bw),
     fun γ w' bw _ => pCoords ha (by decide) w' (hT.later bw),
     fun γ w' bw _ => pCoords hb (by decide) w' (hT.later bw),
     ⟨rfl, rfl, eqv (eqL_V a b)⟩,
     fun γ w' bw _ => pFromCoords (IsV.can f1) (by decide) w' (hT.later bw),
     fun γ w' bw _ => pNormalize ha (by decide) w' (hT.later bw),
     ⟨rfl, rfl, eqv_yes (eqL_P a a) (rfl) rfl⟩,
     rfl,
     fun γ w' bw _ => pCoords (IsP.can f11) (by decide) w' (hT.later bw),
     ⟨rfl, rfl, eqv_yes (eqL_V (addP a v) (P3.mk (a.x + v.x) (a.y + v.y) (a.z + v.z))) (rfl) rfl⟩,
     rfl,
     fun γ w' bw _ => pAdd (IsP.can f11) (by decide) (IsV.mk (IsQ.can f2) (IsQ.can f5) (IsQ.can f8)) (by decide) w' (hT.later bw),
     fun γ w' bw _ => pNormalize ha (by decide) w' (hT.later bw),
     ⟨rfl, rfl, eqv_yes (eqL_P (addP (addP a v) (P3.mk (-v.x) (-v.y) (-v.z))) a) (addP_neg _ _) rfl⟩,
     rfl,
     fun γ w' bw _ => pNormalize ha (by decide) w' (hT.later bw),
     fun γ w' bw _ => pNormalize hb (by decide) w' (hT.later bw),
     ⟨rfl, rfl, eqv (eqL_P a b)⟩,
     congrArg (fun z => some (Value.bool z)) (beq_self_eq_true _ : ((false != decide (a = b)) == (false != decide (a = b))) = true),
     rfl,
     fun γ w' _ _ => pCmp ha (by decide) hb (by decide) w',
     rfl,
     congrArg (fun z => some (Value.bool z)) (same_cmp _ _ : ((false != decide (a = b)) == ((cmpP a b) == (0 : Int))) = true),
     rfl,
     fun γ w' bw _ => pFormat ha (by decide) w' (hT.later bw),
     fun γ w' bw _ => pFormat hb (by decide) w' (hT.later bw),
     rfl,
     congrArg (fun z => some (Value.bool z)) (same_text _ _ : ((false != decide (a = b)) == ((textP a).toList == (textP b).toList)) = true)⟩
theorem RoundTrip_any (a_0 : Bool) (a_1 : ByteArray) (a_2 : Bool) (a_3 : ByteArray) (a_4 : Bool) (a_5 : ByteArray) (a_6 : Bool) (a_7 : ByteArray) (b_0 : Bool) (b_1 : ByteArray) (b_2 : Bool) (b_3 : ByteArray) (b_4 : Bool) (b_5 : ByteArray) (b_6 : Bool) (b_7 : ByteArray) (v_0 : Bool) (v_1 : ByteArray) (v_2 : ByteArray) (v_3 : Bool) (v_4 : ByteArray) (v_5 : ByteArray) (v_6 : Bool) (v_7 : ByteArray) (v_8 : ByteArray) (w : World) (hT : TabC w) :
    Calls Tryz.prog 6 #[.agg #[.bool a_0, .string a_1, .bool a_2, .string a_3, .bool a_4, .string a_5, .bool a_6, .string a_7], .agg #[.bool b_0, .string b_1, .bool b_2, .string b_3, .bool b_4, .string b_5, .bool b_6, .string b_7], .agg #[.bool v_0, .string v_1, .string v_2, .bool v_3, .string v_4, .string v_5, .bool v_6, .string v_7, .string v_8]] w fun e w' => e = .returned (.bool true) ∧ Below w.heap.size w w' := by
  by_cases g0 : (a_1.size ≤ 6 ∧ a_3.size ≤ 6 ∧ a_5.size ≤ 6 ∧ a_7.size ≤ 6) ∧ (b_1.size ≤ 6 ∧ b_3.size ≤ 6 ∧ b_5.size ≤ 6 ∧ b_7.size ≤ 6)
  rotate_left
  · exact RoundTrip_g0 a_0 a_1 a_2 a_3 a_4 a_5 a_6 a_7 b_0 b_1 b_2 b_3 b_4 b_5 b_6 b_7 v_0 v_1 v_2 v_3 v_4 v_5 v_6 v_7 v_8 w hT  g0
  obtain ⟨⟨ha_1, ha_3, ha_5, ha_7⟩, ⟨hb_1, hb_3, hb_5, hb_7⟩⟩ := g0
  by_cases g1 : v_1.size ≤ 6 ∧ v_2.size ≤ 6 ∧ v_4.size ≤ 6 ∧ v_5.size ≤ 6 ∧ v_7.size ≤ 6 ∧ v_8.size ≤ 6
  rotate_left
  · exact RoundTrip_g1 a_0 a_1 a_2 a_3 a_4 a_5 a_6 a_7 b_0 b_1 b_2 b_3 b_4 b_5 b_6 b_7 v_0 v_1 v_2 v_3 v_4 v_5 v_6 v_7 v_8 w hT ha_1 ha_3 ha_5 ha_7 hb_1 hb_3 hb_5 hb_7 g1
  obtain ⟨hv_1, hv_2, hv_4, hv_5, hv_7, hv_8⟩ := g1
  exact RoundTrip_m a_0 a_1 a_2 a_3 a_4 a_5 a_6 a_7 b_0 b_1 b_2 b_3 b_4 b_5 b_6 b_7 v_0 v_1 v_2 v_3 v_4 v_5 v_6 v_7 v_8 w hT ha_1 ha_3 ha_5 ha_7 hb_1 hb_3 hb_5 hb_7 hv_1 hv_2 hv_4 hv_5 hv_7 hv_8
set_option maxRecDepth 100000 in
theorem Order_g0 (a_0 : Bool) (a_1 : ByteArray) (a_2 : Bool) (a_3 : ByteArray) (a_4 : Bool) (a_5 : ByteArray) (a_6 : Bool) (a_7 : ByteArray) (b_0 : Bool) (b_1 : ByteArray) (b_2 : Bool) (b_3 : ByteArray) (b_4 : Bool) (b_5 : ByteArray) (b_6 : Bool) (b_7 : ByteArray) (c_0 : Bool) (c_1 : ByteArray) (c_2 : Bool) (c_3 : ByteArray) (c_4 : Bool) (c_5 : ByteArray) (c_6 : Bool) (c_7 : ByteArray) (v_0 : Bool) (v_1 : ByteArray) (v_2 : ByteArray) (v_3 : Bool) (v_4 : ByteArray) (v_5 : ByteArray) (v_6 : Bool) (v_7 : ByteArray) (v_8 : ByteArray) (w : World) (hT : TabC w)  (h : ¬ ((a_1.size ≤ 6 ∧ a_3.size ≤ 6 ∧ a_5.size ≤ 6 ∧ a_7.size ≤ 6) ∧ (b_1.size ≤ 6 ∧ b_3.size ≤ 6 ∧ b_5.size ≤ 6 ∧ b_7.size ≤ 6) ∧ (c_1.size ≤ 6 ∧ c_3.size ≤ 6 ∧ c_5.size ≤ 6 ∧ c_7.size ≤ 6))) :
    Calls Tryz.prog 7 #[.agg #[.bool a_0, .string a_1, .bool a_2, .string a_3, .bool a_4, .string a_5, .bool a_6, .string a_7, .bool b_0, .string b_1, .bool b_2, .string b_3, .bool b_4, .string b_5, .bool b_6, .string b_7, .bool c_0, .string c_1, .bool c_2, .string c_3, .bool c_4, .string c_5, .bool c_6, .string c_7], .agg #[.bool v_0, .string v_1, .string v_2, .bool v_3, .string v_4, .string v_5, .bool v_6, .string v_7, .string v_8]] w fun e w' => e = .returned (.bool true) ∧ Below w.heap.size w w' := by
  exact SX.run (w := w) (.bool a_0 :: .string a_1 :: .bool a_2 :: .string a_3 :: .bool a_4 :: .string a_5 :: .bool a_6 :: .string a_7 :: .bool b_0 :: .string b_1 :: .bool b_2 :: .string b_3 :: .bool b_4 :: .string b_5 :: .bool b_6 :: .string b_7 :: .bool c_0 :: .string c_1 :: .bool c_2 :: .string c_3 :: .bool c_4 :: .string c_5 :: .bool c_6 :: .string c_7 :: .bool v_0 :: .string v_1 :: .string v_2 :: .bool v_3 :: .string v_4 :: .string v_5 :: .bool v_6 :: .string v_7 :: .string v_8 :: .bool true :: .bool false :: .bool true :: []) [.b false, .b true] [.ga 0 24, .ga 24 9] 33 (.one (.c (.p (.lit (.bool true))))) [.call 10 [] (.one (.ca 33)) [], .op1 .not (.pa 33) 34, .isB 34 false, .call 11 [.c (.p (.slc 5 0 3 3))] (.one (.ca 35)) [(5121, .pa 0), (5122, .pa 1), (5123, .pa 2), (5124, .pa 3), (5125, .pa 4), (5126, .pa 5), (5127, .pa 6), (5128, .pa 7), (5129, .pa 8), (5130, .pa 9), (5131, .pa 10), (5132, .pa 11), (5133, .pa 12), (5134, .pa 13), (5135, .pa 14), (5136, .pa 15), (5137, .pa 16), (5138, .pa 17), (5139, .pa 18), (5140, .pa 19), (5141, .pa 20), (5142, .pa 21), (5143, .pa 22), (5144, .pa 23)], .isB 35 true] Tryz.func7 (by kernel_rfl) rfl (by kernel_rfl) rfl (by kernel_rfl)
    ⟨fun γ w' bw _ => alive_any w' (hT.later bw),
     congrArg (fun z => some (Value.bool z)) (by decide : (!true) = false),
     rfl,
     fun γ w' _ hm => great3_yes a_0 a_1 a_2 a_3 a_4 a_5 a_6 a_7 b_0 b_1 b_2 b_3 b_4 b_5 b_6 b_7 c_0 c_1 c_2 c_3 c_4 c_5 c_6 c_7 w' (γ 5) (SX.mem_at (b := 5) (l := [.pa 0, .pa 1, .pa 2, .pa 3, .pa 4, .pa 5, .pa 6, .pa 7, .pa 8, .pa 9, .pa 10, .pa 11, .pa 12, .pa 13, .pa 14, .pa 15, .pa 16, .pa 17, .pa 18, .pa 19, .pa 20, .pa 21, .pa 22, .pa 23]) hm rfl) h,
     rfl⟩
set_option maxRecDepth 100000 in
theorem Order_g1 (a_0 : Bool) (a_1 : ByteArray) (a_2 : Bool) (a_3 : ByteArray) (a_4 : Bool) (a_5 : ByteArray) (a_6 : Bool) (a_7 : ByteArray) (b_0 : Bool) (b_1 : ByteArray) (b_2 : Bool) (b_3 : ByteArray) (b_4 : Bool) (b_5 : ByteArray) (b_6 : Bool) (b_7 : ByteArray) (c_0 : Bool) (c_1 : ByteArray) (c_2 : Bool) (c_3 : ByteArray) (c_4 : Bool) (c_5 : ByteArray) (c_6 : Bool) (c_7 : ByteArray) (v_0 : Bool) (v_1 : ByteArray) (v_2 : ByteArray) (v_3 : Bool) (v_4 : ByteArray) (v_5 : ByteArray) (v_6 : Bool) (v_7 : ByteArray) (v_8 : ByteArray) (w : World) (hT : TabC w) (ha_1 : a_1.size ≤ 6) (ha_3 : a_3.size ≤ 6) (ha_5 : a_5.size ≤ 6) (ha_7 : a_7.size ≤ 6) (hb_1 : b_1.size ≤ 6) (hb_3 : b_3.size ≤ 6) (hb_5 : b_5.size ≤ 6) (hb_7 : b_7.size ≤ 6) (hc_1 : c_1.size ≤ 6) (hc_3 : c_3.size ≤ 6) (hc_5 : c_5.size ≤ 6) (hc_7 : c_7.size ≤ 6) (h : ¬ (v_1.size ≤ 6 ∧ v_2.size ≤ 6 ∧ v_4.size ≤ 6 ∧ v_5.size ≤ 6 ∧ v_7.size ≤ 6 ∧ v_8.size ≤ 6)) :
    Calls Tryz.prog 7 #[.agg #[.bool a_0, .string a_1, .bool a_2, .string a_3, .bool a_4, .string a_5, .bool a_6, .string a_7, .bool b_0, .string b_1, .bool b_2, .string b_3, .bool b_4, .string b_5, .bool b_6, .string b_7, .bool c_0, .string c_1, .bool c_2, .string c_3, .bool c_4, .string c_5, .bool c_6, .string c_7], .agg #[.bool v_0, .string v_1, .string v_2, .bool v_3, .string v_4, .string v_5, .bool v_6, .string v_7, .string v_8]] w fun e w' => e = .returned (.bool true) ∧ Below w.heap.size w w' := by
  exact SX.run (w := w) (.bool a_0 :: .string a_1 :: .bool a_2 :: .string a_3 :: .bool a_4 :: .string a_5 :: .bool a_6 :: .string a_7 :: .bool b_0 :: .string b_1 :: .bool b_2 :: .string b_3 :: .bool b_4 :: .string b_5 :: .bool b_6 :: .string b_7 :: .bool c_0 :: .string c_1 :: .bool c_2 :: .string c_3 :: .bool c_4 :: .string c_5 :: .bool c_6 :: .string c_7 :: .bool v_0 :: .string v_1 :: .string v_2 :: .bool v_3 :: .string v_4 :: .string v_5 :: .bool v_6 :: .string v_7 :: .string v_8 :: .bool true :: .bool false :: .bool false :: .int .i64 1 :: .bool true :: []) [.b false, .b false, .b true] [.ga 0 24, .ga 24 9] 33 (.one (.c (.p (.lit (.bool true))))) [.call 10 [] (.one (.ca 33)) [], .op1 .not (.pa 33) 34, .isB 34 false, .call 11 [.c (.p (.slc 5 0 3 3))] (.one (.ca 35)) [(5121, .pa 0), (5122, .pa 1), (5123, .pa 2), (5124, .pa 3), (5125, .pa 4), (5126, .pa 5), (5127, .pa 6), (5128, .pa 7), (5129, .pa 8), (5130, .pa 9), (5131, .pa 10), (5132, .pa 11), (5133, .pa 12), (5134, .pa 13), (5135, .pa 14), (5136, .pa 15), (5137, .pa 16), (5138, .pa 17), (5139, .pa 18), (5140, .pa 19), (5141, .pa 20), (5142, .pa 21), (5143, .pa 22), (5144, .pa 23)], .isB 35 false, .call 12 [.ga 24 9] (.one (.ca 36)) [], .op2 false .eql (.pa 36) (.p (.lit (.int .i64 1))) 37, .isB 37 true] Tryz.func7 (by kernel_rfl) rfl (by kernel_rfl) rfl (by kernel_rfl)
    ⟨fun γ w' bw _ => alive_any w' (hT.later bw),
     congrArg (fun z => some (Value.bool z)) (by decide : (!true) = false),
     rfl,
     fun γ w' _ hm => great3_no a_0 a_1 a_2 a_3 a_4 a_5 a_6 a_7 b_0 b_1 b_2 b_3 b_4 b_5 b_6 b_7 c_0 c_1 c_2 c_3 c_4 c_5 c_6 c_7 w' (γ 5) (SX.mem_at (b := 5) (l := [.pa 0, .pa 1, .pa 2, .pa 3, .pa 4, .pa 5, .pa 6, .pa 7, .pa 8, .pa 9, .pa 10, .pa 11, .pa 12, .pa 13, .pa 14, .pa 15, .pa 16, .pa 17, .pa 18, .pa 19, .pa 20, .pa 21, .pa 22, .pa 23]) hm rfl) ha_1 ha_3 ha_5 ha_7 hb_1 hb_3 hb_5 hb_7 hc_1 hc_3 hc_5 hc_7,
     rfl,
     fun γ w' _ _ => Wide_yes v_0 v_1 v_2 v_3 v_4 v_5 v_6 v_7 v_8 w' h,
     congrArg (fun z => some (Value.bool z)) (by decide : ((1 : Int) == (1 : Int)) = true),
     rfl⟩
set_option maxRecDepth 100000 in
theorem Order_a (a_0 : Bool) (a_1 : ByteArray) (a_2 : Bool) (a_3 : ByteArray) (a_4 : Bool) (a_5 : ByteArray) (a_6 : Bool) (a_7 : ByteArray) (b_0 : Bool) (b_1 : ByteArray) (b_2 : Bool) (b_3 : ByteArray) (b_4 : Bool) (b_5 : ByteArray) (b_6 : Bool) (b_7 : ByteArray) (c_0 : Bool) (c_1 : ByteArray) (c_2 : Bool) (c_3 : ByteArray) (c_4 : Bool) (c_5 : ByteArray) (c_6 : Bool) (c_7 : ByteArray) (v_0 : Bool) (v_1 : ByteArray) (v_2 : ByteArray) (v_3 : Bool) (v_4 : ByteArray) (v_5 : ByteArray) (v_6 : Bool) (v_7 : ByteArray) (v_8 : ByteArray) (w : World) (hT : TabC w) (ha_1 : a_1.size ≤ 6) (ha_3 : a_3.size ≤ 6) (ha_5 : a_5.size ≤ 6) (ha_7 : a_7.size ≤ 6) (hb_1 : b_1.size ≤ 6) (hb_3 : b_3.size ≤ 6) (hb_5 : b_5.size ≤ 6) (hb_7 : b_7.size ≤ 6) (hc_1 : c_1.size ≤ 6) (hc_3 : c_3.size ≤ 6) (hc_5 : c_5.size ≤ 6) (hc_7 : c_7.size ≤ 6) (hv_1 : v_1.size ≤ 6) (hv_2 : v_2.size ≤ 6) (hv_4 : v_4.size ≤ 6) (hv_5 : v_5.size ≤ 6) (hv_7 : v_7.size ≤ 6) (hv_8 : v_8.size ≤ 6) (h1 : 0 < cmpP (pt ⟨iv a_0 a_1, iv a_2 a_3, iv a_4 a_5, iv a_6 a_7⟩) (pt ⟨iv b_0 b_1, iv b_2 b_3, iv b_4 b_5, iv b_6 b_7⟩)) :
    Calls Tryz.prog 7 #[.agg #[.bool a_0, .string a_1, .bool a_2, .string a_3, .bool a_4, .string a_5, .bool a_6, .string a_7, .bool b_0, .string b_1, .bool b_2, .string b_3, .bool b_4, .string b_5, .bool b_6, .string b_7, .bool c_0, .string c_1, .bool c_2, .string c_3, .bool c_4, .string c_5, .bool c_6, .string c_7], .agg #[.bool v_0, .string v_1, .string v_2, .bool v_3, .string v_4, .string v_5, .bool v_6, .string v_7, .string v_8]] w fun e w' => e = .returned (.bool true) ∧ Below w.heap.size w w' := by
  obtain ⟨aq, haq, raq⟩ : ∃ q, IsF (.agg #[.bool a_0, .string a_1, .bool a_2, .string a_3, .bool a_4, .string a_5, .bool a_6, .string a_7]) q 6 ∧ q = ⟨iv a_0 a_1, iv a_2 a_3, iv a_4 a_5, iv a_6 a_7⟩ := ⟨⟨_, _, _, _⟩, ⟨_, _, _, _, _, _, _, _, rfl, rfl, ha_1, rfl, ha_3, rfl, ha_5, rfl, ha_7⟩, rfl⟩
  have zaq := haq.sz
  obtain ⟨a, ea⟩ : ∃ p, p = pt aq := ⟨_, rfl⟩
  have ha : IsP (.agg #[.bool a_0, .string a_1, .bool a_2, .string a_3, .bool a_4, .string a_5, .bool a_6, .string a_7]) a 6 := by rw [ea]; exact haq.pt
  have za := ha.sz (by decide)
  have ra : a = pt ⟨iv a_0 a_1, iv a_2 a_3, iv a_4 a_5, iv a_6 a_7⟩ := by rw [ea, raq]
  obtain ⟨bq, hbq, rbq⟩ : ∃ q, IsF (.agg #[.bool b_0, .string b_1, .bool b_2, .string b_3, .bool b_4, .string b_5, .bool b_6, .string b_7]) q 6 ∧ q = ⟨iv b_0 b_1, iv b_2 b_3, iv b_4 b_5, iv b_6 b_7⟩ := ⟨⟨_, _, _, _⟩, ⟨_, _, _, _, _, _, _, _, rfl, rfl, hb_1, rfl, hb_3, rfl, hb_5, rfl, hb_7⟩, rfl⟩
  have zbq := hbq.sz
  obtain ⟨b, eb⟩ : ∃ p, p = pt bq := ⟨_, rfl⟩
  have hb : IsP (.agg #[.bool b_0, .string b_1, .bool b_2, .string b_3, .bool b_4, .string b_5, .bool b_6, .string b_7]) b 6 := by rw [eb]; exact hbq.pt
  have zb := hb.sz (by decide)
  have rb : b = pt ⟨iv b_0 b_1, iv b_2 b_3, iv b_4 b_5, iv b_6 b_7⟩ := by rw [eb, rbq]
  obtain ⟨cq, hcq, rcq⟩ : ∃ q, IsF (.agg #[.bool c_0, .string c_1, .bool c_2, .string c_3, .bool c_4, .string c_5, .bool c_6, .string c_7]) q 6 ∧ q = ⟨iv c_0 c_1, iv c_2 c_3, iv c_4 c_5, iv c_6 c_7⟩ := ⟨⟨_, _, _, _⟩, ⟨_, _, _, _, _, _, _, _, rfl, rfl, hc_1, rfl, hc_3, rfl, hc_5, rfl, hc_7⟩, rfl⟩
  have zcq := hcq.sz
  obtain ⟨c, ec⟩ : ∃ p, p = pt cq := ⟨_, rfl⟩
  have hc : IsP (.agg #[.bool c_0, .string c_1, .bool c_2, .string c_3, .bool c_4, .string c_5, .bool c_6, .string c_7]) c 6 := by rw [ec]; exact hcq.pt
  have zc := hc.sz (by decide)
  have rc : c = pt ⟨iv c_0 c_1, iv c_2 c_3, iv c_4 c_5, iv c_6 c_7⟩ := by rw [ec, rcq]
  obtain ⟨v, hv⟩ : ∃ q, IsV (.agg #[.bool v_0, .string v_1, .string v_2, .bool v_3, .string v_4, .string v_5, .bool v_6, .string v_7, .string v_8]) q 6 := ⟨⟨_, _, _⟩, _, _, _, _, _, _, _, _, _, rfl, rfl, hv_1, hv_2, rfl, hv_4, hv_5, rfl, hv_7, hv_8⟩
  have zv := hv.sz (by decide)
  rw [← ra, ← rb] at h1
  have f1 : Pk (addP a v) 39 := Pk.up ((Pk.add za zv)) (by decide)
  have f2 : Pk (addP b v) 39 := Pk.up ((Pk.add zb zv)) (by decide)
  exact SX.run (w := w) (List.flatten [(.bool a_0 :: .string a_1 :: .bool a_2 :: .string a_3 :: .bool a_4 :: .string a_5 :: .bool a_6 :: .string a_7 :: .bool b_0 :: .string b_1 :: .bool b_2 :: .string b_3 :: .bool b_4 :: .string b_5 :: .bool b_6 :: .string b_7 :: .bool c_0 :: .string c_1 :: .bool c_2 :: .string c_3 :: .bool c_4 :: .string c_5 :: .bool c_6 :: .string c_7 :: .bool v_0 :: .string v_1 :: .string v_2 :: .bool v_3 :: .string v_4 :: .string v_5 :: .bool v_6 :: .string v_7 :: .string v_8 :: .bool true :: .bool false :: .bool false :: .int .i64 0 :: .bool false :: .int .i64 (cmpP a b) :: .int .i64 (cmpP b a) :: .int .i64 (cmpP a b) :: .bool false :: .int .i64 (cmpP a a) :: .bool false :: []), pc (addP a v), pc (addP b v), [.int .i64 (cmpP (addP a v) (addP b v)), .int .i64 (cmpP a b), .bool false, .int .i64 (cmpP a b), .bool true]]) [.b false, .b false, .b false, .b false, .b false, .b false, .b true] [.ga 0 24, .ga 24 9] 33 (.one (.c (.p (.lit (.bool true))))) [.call 10 [] (.one (.ca 33)) [], .op1 .not (.pa 33) 34, .isB 34 false, .call 11 [.c (.p (.slc 5 0 3 3))] (.one (.ca 35)) [(5121, .pa 0), (5122, .pa 1), (5123, .pa 2), (5124, .pa 3), (5125, .pa 4), (5126, .pa 5), (5127, .pa 6), (5128, .pa 7), (5129, .pa 8), (5130, .pa 9), (5131, .pa 10), (5132, .pa 11), (5133, .pa 12), (5134, .pa 13), (5135, .pa 14), (5136, .pa 15), (5137, .pa 16), (5138, .pa 17), (5139, .pa 18), (5140, .pa 19), (5141, .pa 20), (5142, .pa 21), (5143, .pa 22), (5144, .pa 23)], .isB 35 false, .call 12 [.ga 24 9] (.one (.ca 36)) [], .op2 false .eql (.pa 36) (.p (.lit (.int .i64 1))) 37, .isB 37 false, .call 21 [.ga 0 8, .ga 8 8] (.one (.ca 38)) [], .call 21 [.ga 8 8, .ga 0 8] (.one (.ca 39)) [], .op1 .neg (.pa 39) 40, .op2 false .neq (.pa 38) (.pa 40) 41, .isB 41 false, .call 21 [.ga 0 8, .ga 0 8] (.one (.ca 42)) [], .op2 false .neq (.pa 42) (.p (.lit (.int .i64 0))) 43, .isB 43 false, .call 23 [.ga 0 8, .ga 24 9] (.one (.ga 44 8)) [], .call 23 [.ga 8 8, .ga 24 9] (.one (.ga 52 8)) [], .call 21 [.ga 44 8, .ga 52 8] (.one (.ca 60)) [], .call 21 [.ga 0 8, .ga 8 8] (.one (.ca 61)) [], .op2 false .neq (.pa 60) (.pa 61) 62, .isB 62 false, .call 21 [.ga 0 8, .ga 8 8] (.one (.ca 63)) [], .op2 false .gtr (.pa 63) (.p (.lit (.int .i64 0))) 64, .isB 64 true] Tryz.func7 (by kernel_rfl) rfl (by kernel_rfl) rfl (by kernel_rfl)
    ⟨fun γ w' bw _ => alive_any w' (hT.later bw),
     congrArg (fun z => some (Value.bool z)) (by first | rfl | assumption | decide | simp [*] : (!true) = false),
     rfl,
     fun γ w' _ hm => great3_no a_0 a_1 a_2 a_3 a_4 a_5 a_6 a_7 b_0 b_1 b_2 b_3 b_4 b_5 b_6 b_7 c_0 c_1 c_2 c_3 c_4 c_5 c_6 c_7 w' (γ 5) (SX.mem_at (b := 5) (l := [.pa 0, .pa 1, .pa 2, .pa 3, .pa 4, .pa 5, .pa 6, .pa 7, .pa 8, .pa 9, .pa 10, .pa 11, .pa 12, .pa 13, .pa 14, .pa 15, .pa 16, .pa 17, .pa 18, .pa 19, .pa 20, .pa 21, .pa 22, .pa 23]) hm rfl) ha_1 ha_3 ha_5 ha_7 hb_1 hb_3 hb_5 hb_7 hc_1 hc_3 hc_5 hc_7,
     rfl,
     fun γ w' _ _ => Wide_no v_0 v_1 v_2 v_3 v_4 v_5 v_6 v_7 v_8 w' hv_1 hv_2 hv_4 hv_5 hv_7 hv_8,
     congrArg (fun z => some (Value.bool z)) (by decide : ((0 : Int) == (1 : Int)) = false),
     rfl,
     fun γ w' _ _ => pCmp ha (by decide) hb (by decide) w',
     fun γ w' _ _ => pCmp hb (by decide) ha (by decide) w',
     congrArg (fun z => some (Value.int .i64 z)) (neg_cmpP _ _ : IntKind.wrap .i64 (0 - (cmpP b a)) = (cmpP a b)),
     congrArg (fun z => some (Value.bool z)) (bne_self_eq_false _ : ((cmpP a b) != (cmpP a b)) = false),
     rfl,
     fun γ w' _ _ => pCmp ha (by decide) ha (by decide) w',
     congrArg (fun z => some (Value.bool z)) (by rw [cmpP_self]; rfl : ((cmpP a a) != (0 : Int)) = false),
     rfl,
     fun γ w' bw _ => pAdd ha (by decide) hv (by decide) w' (hT.later bw),
     fun γ w' bw _ => pAdd hb (by decide) hv (by decide) w' (hT.later bw),
     fun γ w' _ _ => pCmp (IsP.can f1) (by decide) (IsP.can f2) (by decide) w',
     fun γ w' _ _ => pCmp ha (by decide) hb (by decide) w',
     congrArg (fun z => some (Value.bool z)) (by rw [cmpP_add]; exact bne_self_eq_false _ : ((cmpP (addP a v) (addP b v)) != (cmpP a b)) = false),
     rfl,
     fun γ w' _ _ => pCmp ha (by decide) hb (by decide) w',
     congrArg (fun z => some (Value.bool z)) (decide_eq_true h1 : decide ((cmpP a b) > (0 : Int)) = true),
     rfl⟩
set_option maxRecDepth 100000 in
theorem Order_b (a_0 : Bool) (a_1 : ByteArray) (a_2 : Bool) (a_3 : ByteArray) (a_4 : Bool) (a_5 : ByteArray) (a_6 : Bool) (a_7 : ByteArray) (b_0 : Bool) (b_1 : ByteArray) (b_2 : Bool) (b_3 : ByteArray) (b_4 : Bool) (b_5 : ByteArray) (b_6 : Bool) (b_7 : ByteArray) (c_0 : Bool) (c_1 : ByteArray) (c_2 : Bool) (c_3 : ByteArray) (c_4 : Bool) (c_5 : ByteArray) (c_6 : Bool) (c_7 : ByteArray) (v_0 : Bool) (v_1 : ByteArray) (v_2 : ByteArray) (v_3 : Bool) (v_4 : ByteArray) (v_5 : ByteArray) (v_6 : Bool) (v_7 : ByteArray) (v_8 : ByteArray) (w : World) (hT : TabC w) (ha_1 : a_1.size ≤ 6) (ha_3 : a_3.size ≤ 6) (ha_5 : a_5.size ≤ 6) (ha_7 : a_7.size ≤ 6) (hb_1 : b_1.size ≤ 6) (hb_3 : b_3.size ≤ 6) (hb_5 : b_5.size ≤ 6) (hb_7 : b_7.size ≤ 6) (hc_1 : c_1.size ≤ 6) (hc_3 : c_3.size ≤ 6) (hc_5 : c_5.size ≤ 6) (hc_7 : c_7.size ≤ 6) (hv_1 : v_1.size ≤ 6) (hv_2 : v_2.size ≤ 6) (hv_4 : v_4.size ≤ 6) (hv_5 : v_5.size ≤ 6) (hv_7 : v_7.size ≤ 6) (hv_8 : v_8.size ≤ 6) (h1 : ¬ 0 < cmpP (pt ⟨iv a_0 a_1, iv a_2 a_3, iv a_4 a_5, iv a_6 a_7⟩) (pt ⟨iv b_0 b_1, iv b_2 b_3, iv b_4 b_5, iv b_6 b_7⟩)) (h2 : 0 < cmpP (pt ⟨iv b_0 b_1, iv b_2 b_3, iv b_4 b_5, iv b_6 b_7⟩) (pt ⟨iv c_0 c_1, iv c_2 c_3, iv c_4 c_5, iv c_6 c_7⟩)) :
    Calls Tryz.prog 7 #[.agg #[.bool a_0, .string a_1, .bool a_2, .string a_3, .bool a_4, .string a_5, .bool a_6, .string a_7, .bool b_0, .string b_1, .bool b_2, .string b_3, .bool b_4, .string b_5, .bool b_6, .string b_7, .bool c_0, .string c_1, .bool c_2, .string c_3, .bool c_4, .string c_5, .bool c_6, .string c_7], .agg #[.bool v_0, .string v_1, .string v_2, .bool v_3, .string v_4, .string v_5, .bool v_6, .string v_7, .string v_8]] w fun e w' => e = .returned (.bool true) ∧ Below w.heap.size w w' := by
  obtain ⟨aq, haq, raq⟩ : ∃ q, IsF (.agg #[.bool a_0, .string a_1, .bool a_2, .string a_3, .bool a_4, .string a_5, .bool a_6, .string a_7]) q 6 ∧ q = ⟨iv a_0 a_1, iv a_2 a_3, iv a_4 a_5, iv a_6 a_7⟩ := ⟨⟨_, _, _, _⟩, ⟨_, _, _, _, _, _, _, _, rfl, rfl, ha_1, rfl, ha_3, rfl, ha_5, rfl, ha_7⟩, rfl⟩
  have zaq := haq.sz
  obtain ⟨a, ea⟩ : ∃ p, p = pt aq := ⟨_, rfl⟩
  have ha : IsP (.agg #[.bool a_0, .string a_1, .bool a_2, .string a_3, .bool a_4, .string a_5, .bool a_6, .string a_7]) a 6 := by rw [ea]; exact haq.pt
  have za := ha.sz (by decide)
  have ra : a = pt ⟨iv a_0 a_1, iv a_2 a_3, iv a_4 a_5, iv a_6 a_7⟩ := by rw [ea, raq]
  obtain ⟨bq, hbq, rbq⟩ : ∃ q, IsF (.agg #[.bool b_0, .string b_1, .bool b_2, .string b_3, .bool b_4, .string b_5, .bool b_6, .string b_7]) q 6 ∧ q = ⟨iv b_0 b_1, iv b_2 b_3, iv b_4 b_5, iv b_6 b_7⟩ := ⟨⟨_, _, _, _⟩, ⟨_, _, _, _, _, _, _, _, rfl, rfl, hb_1, rfl, hb_3, rfl, hb_5, rfl, hb_7⟩, rfl⟩
  have zbq := hbq.sz
  obtain ⟨b, eb⟩ : ∃ p, p = pt bq := ⟨_, rfl⟩
  have hb : IsP (.agg #[.bool b_0, .string b_1, .bool b_2, .string b_3, .bool b_4, .string b_5, .bool b_6, .string b_7]) b 6 := by rw [eb]; exact hbq.pt
  have zb := hb.sz (by decide)
  have rb : b = pt ⟨iv b_0 b_1, iv b_2 b_3, iv b_4 b_5, iv b_6 b_7⟩ := by rw [eb, rbq]
  obtain ⟨cq, hcq, rcq⟩ : ∃ q, IsF (.agg #[.bool c_0, .string c_1, .bool c_2, .string c_3, .bool c_4, .string c_5, .bool c_6, .string c_7]) q 6 ∧ q = ⟨iv c_0 c_1, iv c_2 c_3, iv c_4 c_5, iv c_6 c_7⟩ := ⟨⟨_, _, _, _⟩, ⟨_, _, _, _, _, _, _, _, rfl, rfl, hc_1, rfl, hc_3, rfl, hc_5, rfl, hc_7⟩, rfl⟩
  have zcq := hcq.sz
  obtain ⟨c, ec⟩ : ∃ p, p = pt cq := ⟨_, rfl⟩
  have hc : IsP (.agg #[.bool c_0, .string c_1, .bool c_2, .string c_3, .bool c_4, .string c_5, .bool c_6, .string c_7]) c 6 := by rw [ec]; exact hcq.pt
  have zc := hc.sz (by decide)
  have rc : c = pt ⟨iv c_0 c_1, iv c_2 c_3, iv c_4 c_5, iv c_6 c_7⟩ := by rw [ec, rcq]
  obtain ⟨v, hv⟩ : ∃ q, IsV (.agg #[.bool v_0, .string v_1, .string v_2, .bool v_3, .string v_4, .string v_5, .bool v_6, .string v_7, .string v_8]) q 6 := ⟨⟨_, _, _⟩, _, _, _, _, _, _, _, _, _, rfl, rfl, hv_1, hv_2, rfl, hv_4, hv_5, rfl, hv_7, hv_8⟩
  have zv := hv.sz (by decide)
  rw [← ra, ← rb] at h1
  rw [← rb, ← rc] at h2
  have f1 : Pk (addP a v) 39 := Pk.up ((Pk.add za zv)) (by decide)
  have f2 : Pk (addP b v) 39 := Pk.up ((Pk.add zb zv)) (by decide)
  exact SX.run (w := w) (List.flatten [(.bool a_0 :: .string a_1 :: .bool a_2 :: .string a_3 :: .bool a_4 :: .string a_5 :: .bool a_6 :: .string a_7 :: .bool b_0 :: .string b_1 :: .bool b_2 :: .string b_3 :: .bool b_4 :: .string b_5 :: .bool b_6 :: .string b_7 :: .bool c_0 :: .string c_1 :: .bool c_2 :: .string c_3 :: .bool c_4 :: .string c_5 :: .bool c_6 :: .string c_7 :: .bool v_0 :: .string v_1 :: .string v_2 :: .bool v_3 :: .string v_4 :: .string v_5 :: .bool v_6 :: .string v_7 :: .string v_8 :: .bool true :: .bool false :: .bool false :: .int .i64 0 :: .bool false :: .int .i64 (cmpP a b) :: .int .i64 (cmpP b a) :: .int .i64 (cmpP a b) :: .bool false :: .int .i64 (cmpP a a) :: .bool false :: []), pc (addP a v), pc (addP b v), [.int .i64 (cmpP (addP a v) (addP b v)), .int .i64 (cmpP a b), .bool false, .int .i64 (cmpP a b), .bool false, .int .i64 (cmpP b c), .bool true]]) [.b false, .b false, .b false, .b false, .b false, .b false, .b false, .b true] [.ga 0 24, .ga 24 9] 33 (.one (.c (.p (.lit (.bool true))))) (.call 10 [] (.one (.ca 33)) [] :: .op1 .not (.pa 33) 34 :: .isB 34 false :: .call 11 [.c (.p (.slc 5 0 3 3))] (.one (.ca 35)) [(5121, .pa 0), (5122, .pa 1), (5123, .pa 2), (5124, .pa 3), (5125, .pa 4), (5126, .pa 5), (5127, .pa 6), (5128, .pa 7), (5129, .pa 8), (5130, .pa 9), (5131, .pa 10), (5132, .pa 11), (5133, .pa 12), (5134, .pa 13), (5135, .pa 14), (5136, .pa 15), (5137, .pa 16), (5138, .pa 17), (5139, .pa 18), (5140, .pa 19), (5141, .pa 20), (5142, .pa 21), (5143, .pa 22), (5144, .pa 23)] :: .isB 35 false :: .call 12 [.ga 24 9] (.one (.ca 36)) [] :: .op2 false .eql (.pa 36) (.p (.lit (.int .i64 1))) 37 :: .isB 37 false :: .call 21 [.ga 0 8, .ga 8 8] (.one (.ca 38)) [] :: .call 21 [.ga 8 8, .ga 0 8] (.one (.ca 39)) [] :: .op1 .neg (.pa 39) 40 :: .op2 false .neq (.pa 38) (.pa 40) 41 :: .isB 41 false :: .call 21 [.ga 0 8, .ga 0 8] (.one (.ca 42)) [] :: .op2 false .neq (.pa 42) (.p (.lit (.int .i64 0))) 43 :: .isB 43 false :: .call 23 [.ga 0 8, .ga 24 9] (.one (.ga 44 8)) [] :: .call 23 [.ga 8 8, .ga 24 9] (.one (.ga 52 8)) [] :: .call 21 [.ga 44 8, .ga 52 8] (.one (.ca 60)) [] :: .call 21 [.ga 0 8, .ga 8 8] (.one (.ca 61)) [] :: .op2 false .neq (.pa 60) (.pa 61) 62 :: .isB 62 false :: .call 21 [.ga 0 8, .ga 8 8] (.one (.ca 63)) [] :: .op2 false .gtr (.pa 63) (.p (.lit (.int .i64 0))) 64 :: .isB 64 false :: .call 21 [.ga 8 8, .ga 16 8] (.one (.ca 65)) [] :: .op2 false .gtr (.pa 65) (.p (.lit (.int .i64 0))) 66 :: .isB 66 true :: []) Tryz.func7 (by kernel_rfl) rfl (by kernel_rfl) rfl (by kernel_rfl)
    ⟨fun γ w' bw _ => alive_any w' (hT.later bw),
     congrArg (fun z => some (Value.bool z)) (by first | rfl | assumption | decide | simp [*] : (!true) = false),
     rfl,
     fun γ w' _ hm => great3_no a_0 a_1 a_2 a_3 a_4 a_5 a_6 a_7 b_0 b_1 b_2 b_3 b_4 b_5 b_6 b_7 c_0 c_1 c_2 c_3 c_4 c_5 c_6 c_7 w' (γ 5) (SX.mem_at (b := 5) (l := [.pa 0, .pa 1, .pa 2, .pa 3, .pa 4, .pa 5, .pa 6, .pa 7, .pa 8, .pa 9, .pa 10, .pa 11, .pa 12, .pa 13, .pa 14, .pa 15, .pa 16, .pa 17, .pa 18, .pa 19, .pa 20, .pa 21, .pa 22, .pa 23]) hm rfl) ha_1 ha_3 ha_5 ha_7 hb_1 hb_3 hb_5 hb_7 hc_1 hc_3 hc_5 hc_7,
     rfl,
     fun γ w' _ _ => Wide_no v_0 v_1 v_2 v_3 v_4 v_5 v_6 v_7 v_8 w' hv_1 hv_2 hv_4 hv_5 hv_7 hv_8,
     congrArg (fun z => some (Value.bool z)) (by decide : ((0 : Int) == (1 : Int)) = false),
     rfl,
     fun γ w' _ _ => pCmp ha (by decide) hb (by decide) w',
     fun γ w' _ _ => pCmp hb (by decide) ha (by decide) w',
     congrArg (fun z => some (Value.int .i64 z)) (neg_cmpP _ _ : IntKind.wrap .i64 (0 - (cmpP b a)) = (cmpP a b)),
     congrArg (fun z => some (Value.bool z)) (bne_self_eq_false _ : ((cmpP a b) != (cmpP a b)) = false),
     rfl,
     fun γ w' _ _ => pCmp ha (by decide) ha (by decide) w',
     congrArg (fun z => some (Value.bool z)) (by rw [cmpP_self]; rfl : ((cmpP a a) != (0 : Int)) = false),
     rfl,
     fun γ w' bw _ => pAdd ha (by decide) hv (by decide) w' (hT.later bw),
     fun γ w' bw _ => pAdd hb (by decide) hv (by decide) w' (hT.later bw),
     fun γ w' _ _ => pCmp (IsP.can f1) (by decide) (IsP.can f2) (by decide) w',
     fun γ w' _ _ => pCmp ha (by decide) hb (by decide) w',
     congrArg (fun z => some (Value.bool z)) (by rw [cmpP_add]; exact bne_self_eq_false _ : ((cmpP (addP a v) (addP b v)) != (cmpP a b)) = false),
     rfl,
     fun γ w' _ _ => pCmp ha (by decide) hb (by decide) w',
     congrArg (fun z => some (Value.bool z)) (decide_eq_false h1 : decide ((cmpP a b) > (0 : Int)) = false),
     rfl,
     fun γ w' _ _ => pCmp hb (by decide) hc (by decide) w',
     congrArg (fun z => some (Value.bool z)) (decide_eq_true h2 : decide ((cmpP b c) > (0 : Int)) = true),
     rfl⟩
set_option maxRecDepth 100000 in
theorem Order_c (a_0 : Bool) (a_1 : ByteArray) (a_2 : Bool) (a_3 : ByteArray) (a_4 : Bool) (a_5 : ByteArray) (a_6 : Bool) (a_7 : ByteArray) (b_0 : Bool) (b_1 : ByteArray) (b_2 : Bool) (b_3 : ByteArray) (b_4 : Bool) (b_5 : ByteArray) (b_6 : Bool) (b_7 : ByteArray) (c_0 : Bool) (c_1 : ByteArray) (c_2 : Bool) (c_3 : ByteArray) (c_4 : Bool) (c_5 : ByteArray) (c_6 : Bool) (c_7 : ByteArray) (v_0 : Bool) (v_1 : ByteArray) (v_2 : ByteArray) (v_3 : Bool) (v_4 : ByteArray) (v_5 : ByteArray) (v_6 : Bool) (v_7 : ByteArray) (v_8 : ByteArray) (w : World) (hT : TabC w) (ha_1 : a_1.size ≤ 6) (ha_3 : a_3.size ≤ 6) (ha_5 : a_5.size ≤ 6) (ha_7 : a_7.size ≤ 6) (hb_1 : b_1.size ≤ 6) (hb_3 : b_3.size ≤ 6) (hb_5 : b_5.size ≤ 6) (hb_7 : b_7.size ≤ 6) (hc_1 : c_1.size ≤ 6) (hc_3 : c_3.size ≤ 6) (hc_5 : c_5.size ≤ 6) (hc_7 : c_7.size ≤ 6) (hv_1 : v_1.size ≤ 6) (hv_2 : v_2.size ≤ 6) (hv_4 : v_4.size ≤ 6) (hv_5 : v_5.size ≤ 6) (hv_7 : v_7.size ≤ 6) (hv_8 : v_8.size ≤ 6) (h1 : ¬ 0 < cmpP (pt ⟨iv a_0 a_1, iv a_2 a_3, iv a_4 a_5, iv a_6 a_7⟩) (pt ⟨iv b_0 b_1, iv b_2 b_3, iv b_4 b_5, iv b_6 b_7⟩)) (h2 : ¬ 0 < cmpP (pt ⟨iv b_0 b_1, iv b_2 b_3, iv b_4 b_5, iv b_6 b_7⟩) (pt ⟨iv c_0 c_1, iv c_2 c_3, iv c_4 c_5, iv c_6 c_7⟩)) :
    Calls Tryz.prog 7 #[.agg #[.bool a_0, .string a_1, .bool a_2, .string a_3, .bool a_4, .string a_5, .bool a_6, .string a_7, .bool b_0, .string b_1, .bool b_2, .string b_3, .bool b_4, .string b_5, .bool b_6, .string b_7, .bool c_0, .string c_1, .bool c_2, .string c_3, .bool c_4, .string c_5, .bool c_6, .string c_7], .agg #[.bool v_0, .string v_1, .string v_2, .bool v_3, .string v_4, .string v_5, .bool v_6, .string v_7, .string v_8]] w fun e w' => e = .returned (.bool true) ∧ Below w.heap.size w w' := by
  obtain ⟨aq, haq, raq⟩ : ∃ q, IsF (.agg #[.bool a_0, .string a_1, .bool a_2, .string a_3, .bool a_4, .string a_5, .bool a_6, .string a_7]) q 6 ∧ q = ⟨iv a_0 a_1, iv a_2 a_3, iv a_4 a_5, iv a_6 a_7⟩ := ⟨⟨_, _, _, _⟩, ⟨_, _, _, _, _, _, _, _, rfl, rfl, ha_1, rfl, ha_3, rfl, ha_5, rfl, ha_7⟩, rfl⟩
  have zaq := haq.sz
  obtain ⟨a, ea⟩ : ∃ p, p = pt aq := ⟨_, rfl⟩
  have ha : IsP (.agg #[.bool a_0, .string a_1, .bool a_2, .string a_3, .bool a_4, .string a_5, .bool a_6, .string a_7]) a 6 := by rw [ea]; exact haq.pt
  have za := ha.sz (by decide)
  have ra : a = pt ⟨iv a_0 a_1, iv a_2 a_3, iv a_4 a_5, iv a_6 a_7⟩ := by rw [ea, raq]
  obtain ⟨bq, hbq, rbq⟩ : ∃ q, IsF (.agg #[.bool b_0, .string b_1, .bool b_2, .string b_3, .bool b_4, .string b_5, .bool b_6, .string b_7]) q 6 ∧ q = ⟨iv b_0 b_1, iv b_2 b_3, iv b_4 b_5, iv b_6 b_7⟩ := ⟨⟨_, _, _, _⟩, ⟨_, _, _, _, _, _, _, _, rfl, rfl, hb_1, rfl, hb_3, rfl, hb_5, rfl, hb_7⟩, rfl⟩
  have zbq := hbq.sz
  obtain ⟨b, eb⟩ : ∃ p, p = pt bq := ⟨_, rfl⟩
  have hb : IsP (.agg #[.bool b_0, .string b_1, .bool b_2, .string b_3, .bool b_4, .string b_5, .bool b_6, .string b_7]) b 6 := by rw [eb]; exact hbq.pt
  have zb := hb.sz (by decide)
  have rb : b = pt ⟨iv b_0 b_1, iv b_2 b_3, iv b_4 b_5, iv b_6 b_7⟩ := by rw [eb, rbq]
  obtain ⟨cq, hcq, rcq⟩ : ∃ q, IsF (.agg #[.bool c_0, .string c_1, .bool c_2, .string c_3, .bool c_4, .string c_5, .bool c_6, .string c_7]) q 6 ∧ q = ⟨iv c_0 c_1, iv c_2 c_3, iv c_4 c_5, iv c_6 c_7⟩ := ⟨⟨_, _, _, _⟩, ⟨_, _, _, _, _, _, _, _, rfl, rfl, hc_1, rfl, hc_3, rfl, hc_5, rfl, hc_7⟩, rfl⟩
  have zcq := hcq.sz
  obtain ⟨c, ec⟩ : ∃ p, p = pt cq := ⟨_, rfl⟩
  have hc : IsP (.agg #[.bool c_0, .string c_1, .bool c_2, .string c_3, .bool c_4, .string c_5, .bool c_6, .string c_7]) c 6 := by rw [ec]; exact hcq.pt
  have zc := hc.sz (by decide)
  have rc : c = pt ⟨iv c_0 c_1, iv c_2 c_3, iv c_4 c_5, iv c_6 c_7⟩ := by rw [ec, rcq]
  obtain ⟨v, hv⟩ : ∃ q, IsV (.agg #[.bool v_0, .string v_1, .string v_2, .bool v_3, .string v_4, .string v_5, .bool v_6, .string v_7, .string v_8]) q 6 := ⟨⟨_, _, _⟩, _, _, _, _, _, _, _, _, _, rfl, rfl, hv_1, hv_2, rfl, hv_4, hv_5, rfl, hv_7, hv_8⟩
  have zv := hv.sz (by decide)
  rw [← ra, ← rb] at h1
  rw [← rb, ← rc] at h2
  have f1 : Pk (addP a v) 39 := Pk.up ((Pk.add za zv)) (by decide)
  have f2 : Pk (addP b v) 39 := Pk.up ((Pk.add zb zv)) (by decide)
  exact SX.run (w := w) (List.flatten [(.bool a_0 :: .string a_1 :: .bool a_2 :: .string a_3 :: .bool a_4 :: .string a_5 :: .bool a_6 :: .string a_7 :: .bool b_0 :: .string b_1 :: .bool b_2 :: .string b_3 :: .bool b_4 :: .string b_5 :: .bool b_6 :: .string b_7 :: .bool c_0 :: .string c_1 :: .bool c_2 :: .string c_3 :: .bool c_4 :: .string c_5 :: .bool c_6 :: .string c_7 :: .bool v_0 :: .string v_1 :: .string v_2 :: .bool v_3 :: .string v_4 :: .string v_5 :: .bool v_6 :: .string v_7 :: .string v_8 :: .bool true :: .bool false :: .bool false :: .int .i64 0 :: .bool false :: .int .i64 (cmpP a b) :: .int .i64 (cmpP b a) :: .int .i64 (cmpP a b) :: .bool false :: .int .i64 (cmpP a a) :: .bool false :: []), pc (addP a v), pc (addP b v), [.int .i64 (cmpP (addP a v) (addP b v)), .int .i64 (cmpP a b), .bool false, .int .i64 (cmpP a b), .bool false, .int .i64 (cmpP b c), .bool false, .int .i64 (cmpP a c), .bool true]]) [.b false, .b false, .b false, .b false, .b false, .b false, .b false, .b false, .b true] [.ga 0 24, .ga 24 9] 33 (.one (.ca 68)) (.call 10 [] (.one (.ca 33)) [] :: .op1 .not (.pa 33) 34 :: .isB 34 false :: .call 11 [.c (.p (.slc 5 0 3 3))] (.one (.ca 35)) [(5121, .pa 0), (5122, .pa 1), (5123, .pa 2), (5124, .pa 3), (5125, .pa 4), (5126, .pa 5), (5127, .pa 6), (5128, .pa 7), (5129, .pa 8), (5130, .pa 9), (5131, .pa 10), (5132, .pa 11), (5133, .pa 12), (5134, .pa 13), (5135, .pa 14), (5136, .pa 15), (5137, .pa 16), (5138, .pa 17), (5139, .pa 18), (5140, .pa 19), (5141, .pa 20), (5142, .pa 21), (5143, .pa 22), (5144, .pa 23)] :: .isB 35 false :: .call 12 [.ga 24 9] (.one (.ca 36)) [] :: .op2 false .eql (.pa 36) (.p (.lit (.int .i64 1))) 37 :: .isB 37 false :: .call 21 [.ga 0 8, .ga 8 8] (.one (.ca 38)) [] :: .call 21 [.ga 8 8, .ga 0 8] (.one (.ca 39)) [] :: .op1 .neg (.pa 39) 40 :: .op2 false .neq (.pa 38) (.pa 40) 41 :: .isB 41 false :: .call 21 [.ga 0 8, .ga 0 8] (.one (.ca 42)) [] :: .op2 false .neq (.pa 42) (.p (.lit (.int .i64 0))) 43 :: .isB 43 false :: .call 23 [.ga 0 8, .ga 24 9] (.one (.ga 44 8)) [] :: .call 23 [.ga 8 8, .ga 24 9] (.one (.ga 52 8)) [] :: .call 21 [.ga 44 8, .ga 52 8] (.one (.ca 60)) [] :: .call 21 [.ga 0 8, .ga 8 8] (.one (.ca 61)) [] :: .op2 false .neq (.pa 60) (.pa 61) 62 :: .isB 62 false :: .call 21 [.ga 0 8, .ga 8 8] (.one (.ca 63)) [] :: .op2 false .gtr (.pa 63) (.p (.lit (.int .i64 0))) 64 :: .isB 64 false :: .call 21 [.ga 8 8, .ga 16 8] (.one (.ca 65)) [] :: .op2 false .gtr (.pa 65) (.p (.lit (.int .i64 0))) 66 :: .isB 66 false :: .call 21 [.ga 0 8, .ga 16 8] (.one (.ca 67)) [] :: .op2 false .leq (.pa 67) (.p (.lit (.int .i64 0))) 68 :: []) Tryz.func7 (by kernel_rfl) rfl (by kernel_rfl) rfl (by kernel_rfl)
    ⟨fun γ w' bw _ => alive_any w' (hT.later bw),
     congrArg (fun z => some (Value.bool z)) (by first | rfl | assumption | decide | simp [*] : (!true) = false),
     rfl,
     fun γ w' _ hm => great3_no a_0 a_1 a_2 a_3 a_4 a_5 a_6 a_7 b_0 b_1 b_2 b_3 b_4 b_5 b_6 b_7 c_0 c_1 c_2 c_3 c_4 c_5 c_6 c_7 w' (γ 5) (SX.mem_at (b := 5) (l := [.pa 0, .pa 1, .pa 2, .pa 3, .pa 4, .pa 5, .pa 6, .pa 7, .pa 8, .pa 9, .pa 10, .pa 11, .pa 12, .pa 13, .pa 14, .pa 15, .pa 16, .pa 17, .pa 18, .pa 19, .pa 20, .pa 21, .pa 22, .pa 23]) hm rfl) ha_1 ha_3 ha_5 ha_7 hb_1 hb_3 hb_5 hb_7 hc_1 hc_3 hc_5 hc_7,
     rfl,
     fun γ w' _ _ => Wide_no v_0 v_1 v_2 v_3 v_4 v_5 v_6 v_7 v_8 w' hv_1 hv_2 hv_4 hv_5 hv_7 hv_8,
     congrArg (fun z => some (Value.bool z)) (by decide : ((0 : Int) == (1 : Int)) = false),
     rfl,
     fun γ w' _ _ => pCmp ha (by decide) hb (by decide) w',
     fun γ w' _ _ => pCmp hb (by decide) ha (by decide) w',
     congrArg (fun z => some (Value.int .i64 z)) (neg_cmpP _ _ : IntKind.wrap .i64 (0 - (cmpP b a)) = (cmpP a b)),
     congrArg (fun z => some (Value.bool z)) (bne_self_eq_false _ : ((cmpP a b) != (cmpP a b)) = false),
     rfl,
     fun γ w' _ _ => pCmp ha (by decide) ha (by decide) w',
     congrArg (fun z => some (Value.bool z)) (by rw [cmpP_self]; rfl : ((cmpP a a) != (0 : Int)) = false),
     rfl,
     fun γ w' bw _ => pAdd ha (by decide) hv (by decide) w' (hT.later bw),
     fun γ w' bw _ => pAdd hb (by decide) hv (by decide) w' (hT.later bw),
     fun γ w' _ _ => pCmp (IsP.can f1) (by decide) (IsP.can f2) (by decide) w',
     fun γ w' _ _ => pCmp ha (by decide) hb (by decide) w',
     congrArg (fun z => some (Value.bool z)) (by rw [cmpP_add]; exact bne_self_eq_false _ : ((cmpP (addP a v) (addP b v)) != (cmpP a b)) = false),
     rfl,
     fun γ w' _ _ => pCmp ha (by decide) hb (by decide) w',
     congrArg (fun z => some (Value.bool z)) (decide_eq_false h1 : decide ((cmpP a b) > (0 : Int)) = false),
     rfl,
     fun γ w' _ _ => pCmp hb (by decide) hc (by decide) w',
     congrArg (fun z => some (Value.bool z)) (decide_eq_false h2 : decide ((cmpP b c) > (0 : Int)) = false),
     rfl,
     fun γ w' _ _ => pCmp ha (by decide) hc (by decide) w',
     congrArg (fun z => some (Value.bool z)) (decide_eq_true (cmpP_trans (Int.not_lt.1 h1) (Int.not_lt.1 h2)) : decide ((cmpP a c) ≤ (0 : Int)) = true)⟩
theorem Order_any (a_0 : Bool) (a_1 : ByteArray) (a_2 : Bool) (a_3 : ByteArray) (a_4 : Bool) (a_5 : ByteArray) (a_6 : Bool) (a_7 : ByteArray) (b_0 : Bool) (b_1 : ByteArray) (b_2 : Bool) (b_3 : ByteArray) (b_4 : Bool) (b_5 : ByteArray) (b_6 : Bool) (b_7 : ByteArray) (c_0 : Bool) (c_1 : ByteArray) (c_2 : Bool) (c_3 : ByteArray) (c_4 : Bool) (c_5 : ByteArray) (c_6 : Bool) (c_7 : ByteArray) (v_0 : Bool) (v_1 : ByteArray) (v_2 : ByteArray) (v_3 : Bool) (v_4 : ByteArray) (v_5 : ByteArray) (v_6 : Bool) (v_7 : ByteArray) (v_8 : ByteArray) (w : World) (hT : TabC w) :
    Calls Tryz.prog 7 #[.agg #[.bool a_0, .string a_1, .bool a_2, .string a_3, .bool a_4, .string a_5, .bool a_6, .string a_7, .bool b_0, .string b_1, .bool b_2, .string b_3, .bool b_4, .string b_5, .bool b_6, .string b_7, .bool c_0, .string c_1, .bool c_2, .string c_3, .bool c_4, .string c_5, .bool c_6, .string c_7], .agg #[.bool v_0, .string v_1, .string v_2, .bool v_3, .string v_4, .string v_5, .bool v_6, .string v_7, .string v_8]] w fun e w' => e = .returned (.bool true) ∧ Below w.heap.size w w' := by
  by_cases g0 : (a_1.size ≤ 6 ∧ a_3.size ≤ 6 ∧ a_5.size ≤ 6 ∧ a_7.size ≤ 6) ∧ (b_1.size ≤ 6 ∧ b_3.size ≤ 6 ∧ b_5.size ≤ 6 ∧ b_7.size ≤ 6) ∧ (c_1.size ≤ 6 ∧ c_3.size ≤ 6 ∧ c_5.size ≤ 6 ∧ c_7.size ≤ 6)
  rotate_left
  · exact Order_g0 a_0 a_1 a_2 a_3 a_4 a_5 a_6 a_7 b_0 b_1 b_2 b_3 b_4 b_5 b_6 b_7 c_0 c_1 c_2 c_3 c_4 c_5 c_6 c_7 v_0 v_1 v_2 v_3 v_4 v_5 v_6 v_7 v_8 w hT  g0
  obtain ⟨⟨ha_1, ha_3, ha_5, ha_7⟩, ⟨hb_1, hb_3, hb_5, hb_7⟩, ⟨hc_1, hc_3, hc_5, hc_7⟩⟩ := g0
  by_cases g1 : v_1.size ≤ 6 ∧ v_2.size ≤ 6 ∧ v_4.size ≤ 6 ∧ v_5.size ≤ 6 ∧ v_7.size ≤ 6 ∧ v_8.size ≤ 6
  rotate_left
  · exact Order_g1 a_0 a_1 a_2 a_3 a_4 a_5 a_6 a_7 b_0 b_1 b_2 b_3 b_4 b_5 b_6 b_7 c_0 c_1 c_2 c_3 c_4 c_5 c_6 c_7 v_0 v_1 v_2 v_3 v_4 v_5 v_6 v_7 v_8 w hT ha_1 ha_3 ha_5 ha_7 hb_1 hb_3 hb_5 hb_7 hc_1 hc_3 hc_5 hc_7 g1
  obtain ⟨hv_1, hv_2, hv_4, hv_5, hv_7, hv_8⟩ := g1
  by_cases h1 : 0 < cmpP (pt ⟨iv a_0 a_1, iv a_2 a_3, iv a_4 a_5, iv a_6 a_7⟩) (pt ⟨iv b_0 b_1, iv b_2 b_3, iv b_4 b_5, iv b_6 b_7⟩)
  · exact Order_a a_0 a_1 a_2 a_3 a_4 a_5 a_6 a_7 b_0 b_1 b_2 b_3 b_4 b_5 b_6 b_7 c_0 c_1 c_2 c_3 c_4 c_5 c_6 c_7 v_0 v_1 v_2 v_3 v_4 v_5 v_6 v_7 v_8 w hT ha_1 ha_3 ha_5 ha_7 hb_1 hb_3 hb_5 hb_7 hc_1 hc_3 hc_5 hc_7 hv_1 hv_2 hv_4 hv_5 hv_7 hv_8 h1
  · by_cases h2 : 0 < cmpP (pt ⟨iv b_0 b_1, iv b_2 b_3, iv b_4 b_5, iv b_6 b_7⟩) (pt ⟨iv c_0 c_1, iv c_2 c_3, iv c_4 c_5, iv c_6 c_7⟩)
    · exact Order_b a_0 a_1 a_2 a_3 a_4 a_5 a_6 a_7 b_0 b_1 b_2 b_3 b_4 b_5 b_6 b_7 c_0 c_1 c_2 c_3 c_4 c_5 c_6 c_7 v_0 v_1 v_2 v_3 v_4 v_5 v_6 v_7 v_8 w hT ha_1 ha_3 ha_5 ha_7 hb_1 hb_3 hb_5 hb_7 hc_1 hc_3 hc_5 hc_7 hv_1 hv_2 hv_4 hv_5 hv_7 hv_8 h1 h2
    · exact Order_c a_0 a_1 a_2 a_3 a_4 a_5 a_6 a_7 b_0 b_1 b_2 b_3 b_4 b_5 b_6 b_7 c_0 c_1 c_2 c_3 c_4 c_5 c_6 c_7 v_0 v_1 v_2 v_3 v_4 v_5 v_6 v_7 v_8 w hT ha_1 ha_3 ha_5 ha_7 hb_1 hb_3 hb_5 hb_7 hc_1 hc_3 hc_5 hc_7 hv_1 hv_2 hv_4 hv_5 hv_7 hv_8 h1 h2
set_option maxRecDepth 100000 in
theorem Lerp_g0 (a_0 : Bool) (a_1 : ByteArray) (a_2 : Bool) (a_3 : ByteArray) (a_4 : Bool) (a_5 : ByteArray) (a_6 : Bool) (a_7 : ByteArray) (b_0 : Bool) (b_1 : ByteArray) (b_2 : Bool) (b_3 : ByteArray) (b_4 : Bool) (b_5 : ByteArray) (b_6 : Bool) (b_7 : ByteArray) (t_0 : Bool) (t_1 : ByteArray) (t_2 : ByteArray) (w : World) (hT : TabC w)  (h : ¬ ((a_1.size ≤ 6 ∧ a_3.size ≤ 6 ∧ a_5.size ≤ 6 ∧ a_7.size ≤ 6) ∧ (b_1.size ≤ 6 ∧ b_3.size ≤ 6 ∧ b_5.size ≤ 6 ∧ b_7.size ≤ 6))) :
    Calls Tryz.prog 8 #[.agg #[.bool a_0, .string a_1, .bool a_2, .string a_3, .bool a_4, .string a_5, .bool a_6, .string a_7], .agg #[.bool b_0, .string b_1, .bool b_2, .string b_3, .bool b_4, .string b_5, .bool b_6, .string b_7], .agg #[.bool t_0, .string t_1, .string t_2]] w fun e w' => e = .returned (.bool true) ∧ Below w.heap.size w w' := by
  exact SX.run (w := w) [.bool a_0, .string a_1, .bool a_2, .string a_3, .bool a_4, .string a_5, .bool a_6, .string a_7, .bool b_0, .string b_1, .bool b_2, .string b_3, .bool b_4, .string b_5, .bool b_6, .string b_7, .bool t_0, .string t_1, .string t_2, .bool true, .bool false, .bool true] [.b false, .b true] [.ga 0 8, .ga 8 8, .ga 16 3] 19 (.one (.c (.p (.lit (.bool true))))) [.call 10 [] (.one (.ca 19)) [], .op1 .not (.pa 19) 20, .isB 20 false, .call 11 [.c (.p (.slc 3 0 2 2))] (.one (.ca 21)) [(3073, .pa 0), (3074, .pa 1), (3075, .pa 2), (3076, .pa 3), (3077, .pa 4), (3078, .pa 5), (3079, .pa 6), (3080, .pa 7), (3081, .pa 8), (3082, .pa 9), (3083, .pa 10), (3084, .pa 11), (3085, .pa 12), (3086, .pa 13), (3087, .pa 14), (3088, .pa 15)], .isB 21 true] Tryz.func8 (by kernel_rfl) rfl (by kernel_rfl) rfl (by kernel_rfl)
    ⟨fun γ w' bw _ => alive_any w' (hT.later bw),
     congrArg (fun z => some (Value.bool z)) (by decide : (!true) = false),
     rfl,
     fun γ w' _ hm => great2_yes a_0 a_1 a_2 a_3 a_4 a_5 a_6 a_7 b_0 b_1 b_2 b_3 b_4 b_5 b_6 b_7 w' (γ 3) (SX.mem_at (b := 3) (l := [.pa 0, .pa 1, .pa 2, .pa 3, .pa 4, .pa 5, .pa 6, .pa 7, .pa 8, .pa 9, .pa 10, .pa 11, .pa 12, .pa 13, .pa 14, .pa 15]) hm rfl) h,
     rfl⟩
set_option maxRecDepth 100000 in
theorem Lerp_g1 (a_0 : Bool) (a_1 : ByteArray) (a_2 : Bool) (a_3 : ByteArray) (a_4 : Bool) (a_5 : ByteArray) (a_6 : Bool) (a_7 : ByteArray) (b_0 : Bool) (b_1 : ByteArray) (b_2 : Bool) (b_3 : ByteArray) (b_4 : Bool) (b_5 : ByteArray) (b_6 : Bool) (b_7 : ByteArray) (t_0 : Bool) (t_1 : ByteArray) (t_2 : ByteArray) (w : World) (hT : TabC w) (ha_1 : a_1.size ≤ 6) (ha_3 : a_3.size ≤ 6) (ha_5 : a_5.size ≤ 6) (ha_7 : a_7.size ≤ 6) (hb_1 : b_1.size ≤ 6) (hb_3 : b_3.size ≤ 6) (hb_5 : b_5.size ≤ 6) (hb_7 : b_7.size ≤ 6) (h : ¬ (t_1.size ≤ 6 ∧ t_2.size ≤ 6)) :
    Calls Tryz.prog 8 #[.agg #[.bool a_0, .string a_1, .bool a_2, .string a_3, .bool a_4, .string a_5, .bool a_6, .string a_7], .agg #[.bool b_0, .string b_1, .bool b_2, .string b_3, .bool b_4, .string b_5, .bool b_6, .string b_7], .agg #[.bool t_0, .string t_1, .string t_2]] w fun e w' => e = .returned (.bool true) ∧ Below w.heap.size w w' := by
  exact SX.run (w := w) [.bool a_0, .string a_1, .bool a_2, .string a_3, .bool a_4, .string a_5, .bool a_6, .string a_7, .bool b_0, .string b_1, .bool b_2, .string b_3, .bool b_4, .string b_5, .bool b_6, .string b_7, .bool t_0, .string t_1, .string t_2, .bool true, .bool false, .bool false, .int .i64 1, .bool true] [.b false, .b false, .b true] [.ga 0 8, .ga 8 8, .ga 16 3] 19 (.one (.c (.p (.lit (.bool true))))) [.call 10 [] (.one (.ca 19)) [], .op1 .not (.pa 19) 20, .isB 20 false, .call 11 [.c (.p (.slc 3 0 2 2))] (.one (.ca 21)) [(3073, .pa 0), (3074, .pa 1), (3075, .pa 2), (3076, .pa 3), (3077, .pa 4), (3078, .pa 5), (3079, .pa 6), (3080, .pa 7), (3081, .pa 8), (3082, .pa 9), (3083, .pa 10), (3084, .pa 11), (3085, .pa 12), (3086, .pa 13), (3087, .pa 14), (3088, .pa 15)], .isB 21 false, .call 12 [.agg [.pa 16, .pa 17, .pa 18, .p (.lit (.bool false)), .p (.lit (.string ⟨#[]⟩)), .p (.lit (.string ⟨#[]⟩)), .p (.lit (.bool false)), .p (.lit (.string ⟨#[]⟩)), .p (.lit (.string ⟨#[]⟩))]] (.one (.ca 22)) [], .op2 false .eql (.pa 22) (.p (.lit (.int .i64 1))) 23, .isB 23 true] Tryz.func8 (by kernel_rfl) rfl (by kernel_rfl) rfl (by kernel_rfl)
    ⟨fun γ w' bw _ => alive_any w' (hT.later bw),
     congrArg (fun z => some (Value.bool z)) (by decide : (!true) = false),
     rfl,
     fun γ w' _ hm => great2_no a_0 a_1 a_2 a_3 a_4 a_5 a_6 a_7 b_0 b_1 b_2 b_3 b_4 b_5 b_6 b_7 w' (γ 3) (SX.mem_at (b := 3) (l := [.pa 0, .pa 1, .pa 2, .pa 3, .pa 4, .pa 5, .pa 6, .pa 7, .pa 8, .pa 9, .pa 10, .pa 11, .pa 12, .pa 13, .pa 14, .pa 15]) hm rfl) ha_1 ha_3 ha_5 ha_7 hb_1 hb_3 hb_5 hb_7,
     rfl,
     fun γ w' _ _ => Wide_yes t_0 t_1 t_2 false ⟨#[]⟩ ⟨#[]⟩ false ⟨#[]⟩ ⟨#[]⟩ w' (fun k => h ⟨k.1, k.2.1⟩),
     congrArg (fun z => some (Value.bool z)) (by decide : ((1 : Int) == (1 : Int)) = true),
     rfl⟩
set_option maxRecDepth 100000 in
theorem Lerp_a (a_0 : Bool) (a_1 : ByteArray) (a_2 : Bool) (a_3 : ByteArray) (a_4 : Bool) (a_5 : ByteArray) (a_6 : Bool) (a_7 : ByteArray) (b_0 : Bool) (b_1 : ByteArray) (b_2 : Bool) (b_3 : ByteArray) (b_4 : Bool) (b_5 : ByteArray) (b_6 : Bool) (b_7 : ByteArray) (t_0 : Bool) (t_1 : ByteArray) (t_2 : ByteArray) (w : World) (hT : TabC w) (ha_1 : a_1.size ≤ 6) (ha_3 : a_3.size ≤ 6) (ha_5 : a_5.size ≤ 6) (ha_7 : a_7.size ≤ 6) (hb_1 : b_1.size ≤ 6) (hb_3 : b_3.size ≤ 6) (hb_5 : b_5.size ≤ 6) (hb_7 : b_7.size ≤ 6) (ht_1 : t_1.size ≤ 6) (ht_2 : t_2.size ≤ 6) (h1 : sgQ (rq t_0 t_1 t_2) < 0) :
    Calls Tryz.prog 8 #[.agg #[.bool a_0, .string a_1, .bool a_2, .string a_3, .bool a_4, .string a_5, .bool a_6, .string a_7], .agg #[.bool b_0, .string b_1, .bool b_2, .string b_3, .bool b_4, .string b_5, .bool b_6, .string b_7], .agg #[.bool t_0, .string t_1, .string t_2]] w fun e w' => e = .returned (.bool true) ∧ Below w.heap.size w w' := by
  obtain ⟨aq, haq, raq⟩ : ∃ q, IsF (.agg #[.bool a_0, .string a_1, .bool a_2, .string a_3, .bool a_4, .string a_5, .bool a_6, .string a_7]) q 6 ∧ q = ⟨iv a_0 a_1, iv a_2 a_3, iv a_4 a_5, iv a_6 a_7⟩ := ⟨⟨_, _, _, _⟩, ⟨_, _, _, _, _, _, _, _, rfl, rfl, ha_1, rfl, ha_3, rfl, ha_5, rfl, ha_7⟩, rfl⟩
  have zaq := haq.sz
  obtain ⟨a, ea⟩ : ∃ p, p = pt aq := ⟨_, rfl⟩
  have ha : IsP (.agg #[.bool a_0, .string a_1, .bool a_2, .string a_3, .bool a_4, .string a_5, .bool a_6, .string a_7]) a 6 := by rw [ea]; exact haq.pt
  have za := ha.sz (by decide)
  have ra : a = pt ⟨iv a_0 a_1, iv a_2 a_3, iv a_4 a_5, iv a_6 a_7⟩ := by rw [ea, raq]
  obtain ⟨bq, hbq, rbq⟩ : ∃ q, IsF (.agg #[.bool b_0, .string b_1, .bool b_2, .string b_3, .bool b_4, .string b_5, .bool b_6, .string b_7]) q 6 ∧ q = ⟨iv b_0 b_1, iv b_2 b_3, iv b_4 b_5, iv b_6 b_7⟩ := ⟨⟨_, _, _, _⟩, ⟨_, _, _, _, _, _, _, _, rfl, rfl, hb_1, rfl, hb_3, rfl, hb_5, rfl, hb_7⟩, rfl⟩
  have zbq := hbq.sz
  obtain ⟨b, eb⟩ : ∃ p, p = pt bq := ⟨_, rfl⟩
  have hb : IsP (.agg #[.bool b_0, .string b_1, .bool b_2, .string b_3, .bool b_4, .string b_5, .bool b_6, .string b_7]) b 6 := by rw [eb]; exact hbq.pt
  have zb := hb.sz (by decide)
  have rb : b = pt ⟨iv b_0 b_1, iv b_2 b_3, iv b_4 b_5, iv b_6 b_7⟩ := by rw [eb, rbq]
  obtain ⟨t, ht, rt⟩ : ∃ q, IsQ (.agg #[.bool t_0, .string t_1, .string t_2]) q 6 ∧ q = rq t_0 t_1 t_2 := ⟨_, ⟨_, _, _, rfl, rfl, ht_1, ht_2⟩, rfl⟩
  have zt := ht.sz (by decide)
  rw [← rt] at h1
  have f1 : Rk (1 : Rat) 8 := ⟨by decide +kernel, by decide +kernel⟩
  have f2 : Pk (lerp a b t) 78 := Pk.up ((Pk.lerp za zb zt)) (by decide)
  have f3 : Pk (lerp a b (0 : Rat)) 63 := Pk.up ((Pk.lerp za zb Rk.zero)) (by decide)
  have f4 : Pk a 6 := Pk.up (za) (by decide)
  have f5 : Pk (lerp a b (1 : Rat)) 84 := Pk.up ((Pk.lerp za zb f1)) (by decide)
  have f6 : Pk b 6 := Pk.up (zb) (by decide)
  have f7 : Rk ((1 : Rat) - t) 15 := Rk.up (Rk.sub f1 zt) (by decide)
  have f8 : Pk (lerp b a ((1 : Rat) - t)) 105 := Pk.up ((Pk.lerp zb za f7)) (by decide)
  have f9 : Rk (Rat.divInt (1 : Int) (2 : Int)) 8 := Rk.up ((⟨by decide +kernel, by decide +kernel⟩ : Rk (Rat.divInt (1 : Int) (2 : Int)) 8)) (by decide)
  have f10 : Rk (Rat.divInt (1 : Int) (4 : Int)) 8 := Rk.up ((⟨by decide +kernel, by decide +kernel⟩ : Rk (Rat.divInt (1 : Int) (4 : Int)) 8)) (by decide)
  have f11 : Pk (lerp a b (Rat.divInt (1 : Int) (2 : Int))) 84 := Pk.up ((Pk.lerp za zb f9)) (by decide)
  have f12 : Pk (lerp a (lerp a b (Rat.divInt (1 : Int) (2 : Int))) (Rat.divInt (1 : Int) (2 : Int))) 318 := Pk.up ((Pk.lerp za f11 f9)) (by decide)
  have f13 : Pk (lerp a b (Rat.divInt (1 : Int) (4 : Int))) 84 := Pk.up ((Pk.lerp za zb f10)) (by decide)
  exact SX.run (w := w) (List.flatten [[.bool a_0, .string a_1, .bool a_2, .string a_3, .bool a_4, .string a_5, .bool a_6, .string a_7, .bool b_0, .string b_1, .bool b_2, .string b_3, .bool b_4, .string b_5, .bool b_6, .string b_7, .bool t_0, .string t_1, .string t_2, .bool true, .bool false, .bool false, .int .i64 0, .bool false], qc (1 : Rat), pc (lerp a b t), pc (lerp a b (0 : Rat)), pc a, [.bool false], pc (lerp a b (1 : Rat)), pc b, [.bool false], qc ((1 : Rat) - t), pc (lerp b a ((1 : Rat) - t)), [.bool false], qc (Rat.divInt (1 : Int) (2 : Int)), qc (Rat.divInt (1 : Int) (4 : Int)), pc (lerp a b (Rat.divInt (1 : Int) (2 : Int))), pc (lerp a (lerp a b (Rat.divInt (1 : Int) (2 : Int))) (Rat.divInt (1 : Int) (2 : Int))), pc (lerp a b (Rat.divInt (1 : Int) (4 : Int))), [.bool false, .int .i64 (sgQ t), .bool true]]) [.b false, .b false, .b false, .b false, .b false, .b false, .b false, .b true] [.ga 0 8, .ga 8 8, .ga 16 3] 19 (.one (.c (.p (.lit (.bool true))))) (.call 10 [] (.one (.ca 19)) [] :: .op1 .not (.pa 19) 20 :: .isB 20 false :: .call 11 [.c (.p (.slc 3 0 2 2))] (.one (.ca 21)) [(3073, .pa 0), (3074, .pa 1), (3075, .pa 2), (3076, .pa 3), (3077, .pa 4), (3078, .pa 5), (3079, .pa 6), (3080, .pa 7), (3081, .pa 8), (3082, .pa 9), (3083, .pa 10), (3084, .pa 11), (3085, .pa 12), (3086, .pa 13), (3087, .pa 14), (3088, .pa 15)] :: .isB 21 false :: .call 12 [.agg [.pa 16, .pa 17, .pa 18, .p (.lit (.bool false)), .p (.lit (.string ⟨#[]⟩)), .p (.lit (.string ⟨#[]⟩)), .p (.lit (.bool false)), .p (.lit (.string ⟨#[]⟩)), .p (.lit (.string ⟨#[]⟩))]] (.one (.ca 22)) [] :: .op2 false .eql (.pa 22) (.p (.lit (.int .i64 1))) 23 :: .isB 23 false :: .call 31 [.c (.p (.lit (.int .i64 1)))] (.one (.ga 24 3)) [] :: .call 25 [.ga 0 8, .ga 8 8, .ga 16 3] (.one (.ga 27 8)) [] :: .call 25 [.ga 0 8, .ga 8 8, .agg [.p (.lit (.bool false)), .p (.lit (.string ⟨#[]⟩)), .p (.lit (.string ⟨#[]⟩))]] (.one (.ga 35 8)) [] :: .call 13 [.ga 0 8] (.one (.ga 43 8)) [] :: .eqs true [.b, .s, .b, .s, .b, .s, .b, .s] [.pa 35, .pa 36, .pa 37, .pa 38, .pa 39, .pa 40, .pa 41, .pa 42] [.pa 43, .pa 44, .pa 45, .pa 46, .pa 47, .pa 48, .pa 49, .pa 50] 51 :: .isB 51 false :: .call 25 [.ga 0 8, .ga 8 8, .ga 24 3] (.one (.ga 52 8)) [] :: .call 13 [.ga 8 8] (.one (.ga 60 8)) [] :: .eqs true [.b, .s, .b, .s, .b, .s, .b, .s] [.pa 52, .pa 53, .pa 54, .pa 55, .pa 56, .pa 57, .pa 58, .pa 59] [.pa 60, .pa 61, .pa 62, .pa 63, .pa 64, .pa 65, .pa 66, .pa 67] 68 :: .isB 68 false :: .call 32 [.ga 24 3, .ga 16 3] (.one (.ga 69 3)) [] :: .call 25 [.ga 8 8, .ga 0 8, .ga 69 3] (.one (.ga 72 8)) [] :: .eqs true [.b, .s, .b, .s, .b, .s, .b, .s] [.pa 72, .pa 73, .pa 74, .pa 75, .pa 76, .pa 77, .pa 78, .pa 79] [.pa 27, .pa 28, .pa 29, .pa 30, .pa 31, .pa 32, .pa 33, .pa 34] 80 :: .isB 80 false :: .call 33 [.c (.p (.lit (.int .i64 1))), .c (.p (.lit (.int .i64 2)))] (.one (.ga 81 3)) [] :: .call 33 [.c (.p (.lit (.int .i64 1))), .c (.p (.lit (.int .i64 4)))] (.one (.ga 84 3)) [] :: .call 25 [.ga 0 8, .ga 8 8, .ga 81 3] (.one (.ga 87 8)) [] :: .call 25 [.ga 0 8, .ga 87 8, .ga 81 3] (.one (.ga 95 8)) [] :: .call 25 [.ga 0 8, .ga 8 8, .ga 84 3] (.one (.ga 103 8)) [] :: .eqs true [.b, .s, .b, .s, .b, .s, .b, .s] [.pa 95, .pa 96, .pa 97, .pa 98, .pa 99, .pa 100, .pa 101, .pa 102] [.pa 103, .pa 104, .pa 105, .pa 106, .pa 107, .pa 108, .pa 109, .pa 110] 111 :: .isB 111 false :: .call 34 [.ga 16 3] (.one (.ca 112)) [] :: .op2 false .lss (.pa 112) (.p (.lit (.int .i64 0))) 113 :: .isB 113 true :: []) Tryz.func8 (by kernel_rfl) rfl (by kernel_rfl) rfl (by kernel_rfl)
    ⟨fun γ w' bw _ => alive_any w' (hT.later bw),
     congrArg (fun z => some (Value.bool z)) (by first | rfl | assumption | decide | simp [*] : (!true) = false),
     rfl,
     fun γ w' _ hm => great2_no a_0 a_1 a_2 a_3 a_4 a_5 a_6 a_7 b_0 b_1 b_2 b_3 b_4 b_5 b_6 b_7 w' (γ 3) (SX.mem_at (b := 3) (l := [.pa 0, .pa 1, .pa 2, .pa 3, .pa 4, .pa 5, .pa 6, .pa 7, .pa 8, .pa 9, .pa 10, .pa 11, .pa 12, .pa 13, .pa 14, .pa 15]) hm rfl) ha_1 ha_3 ha_5 ha_7 hb_1 hb_3 hb_5 hb_7,
     rfl,
     fun γ w' _ _ => Wide_no t_0 t_1 t_2 false ⟨#[]⟩ ⟨#[]⟩ false ⟨#[]⟩ ⟨#[]⟩ w' ht_1 ht_2 (by decide) (by decide) (by decide) (by decide),
     congrArg (fun z => some (Value.bool z)) (by decide : ((0 : Int) == (1 : Int)) = false),
     rfl,
     fun γ w' _ _ => FromQ_any 1 w' (by first | decide | omega) (by first | decide | omega),
     fun γ w' bw _ => pLerp ha (by decide) hb (by decide) ht (by decide) w' (hT.later bw),
     fun γ w' bw _ => pLerp ha (by decide) hb (by decide) IsQ.zero (by decide) w' (hT.later bw),
     fun γ w' bw _ => pNormalize ha (by decide) w' (hT.later bw),
     ⟨rfl, rfl, eqv_yes (eqL_P (lerp a b (0 : Rat)) a) (lerp_zero _ _) rfl⟩,
     rfl,
     fun γ w' bw _ => pLerp ha (by decide) hb (by decide) (IsQ.can f1) (by decide) w' (hT.later bw),
     fun γ w' bw _ => pNormalize hb (by decide) w' (hT.later bw),
     ⟨rfl, rfl, eqv_yes (eqL_P (lerp a b (1 : Rat)) b) (lerp_one _ _) rfl⟩,
     rfl,
     fun γ w' bw _ => qSub (IsQ.can f1) (by decide) ht (by decide) w' (hT.later bw),
     fun γ w' bw _ => pLerp hb (by decide) ha (by decide) (IsQ.can f7) (by decide) w' (hT.later bw),
     ⟨rfl, rfl, eqv_yes (eqL_P (lerp b a ((1 : Rat) - t)) (lerp a b t)) (lerp_swap _ _ _) rfl⟩,
     rfl,
     fun γ w' _ _ => lrat 1 2 w' (by decide) (by decide) (by decide) (by decide),
     fun γ w' _ _ => lrat 1 4 w' (by decide) (by decide) (by decide) (by decide),
     fun γ w' bw _ => pLerp ha (by decide) hb (by decide) (IsQ.can f9) (by decide) w' (hT.later bw),
     fun γ w' bw _ => pLerp ha (by decide) (IsP.can f11) (by decide) (IsQ.can f9) (by decide) w' (hT.later bw),
     fun γ w' bw _ => pLerp ha (by decide) hb (by decide) (IsQ.can f10) (by decide) w' (hT.later bw),
     ⟨rfl, rfl, eqv_yes (eqL_P (lerp a (lerp a b (Rat.divInt (1 : Int) (2 : Int))) (Rat.divInt (1 : Int) (2 : Int))) (lerp a b (Rat.divInt (1 : Int) (4 : Int)))) (by rw [lerp_lerp, show (Rat.divInt (1 : Int) (2 : Int) * Rat.divInt (1 : Int) (2 : Int)) = Rat.divInt (1 : Int) (4 : Int) by decide +kernel]) rfl⟩,
     rfl,
     fun γ w' _ _ => qSign ht (by decide) w',
     congrArg (fun z => some (Value.bool z)) (decide_eq_true h1 : decide ((sgQ t) < (0 : Int)) = true),
     rfl⟩
set_option maxRecDepth 100000 in
theorem Lerp_b (a_0 : Bool) (a_1 : ByteArray) (a_2 : Bool) (a_3 : ByteArray) (a_4 : Bool) (a_5 : ByteArray) (a_6 : Bool) (a_7 : ByteArray) (b_0 : Bool) (b_1 : ByteArray) (b_2 : Bool) (b_3 : ByteArray) (b_4 : Bool) (b_5 : ByteArray) (b_6 : Bool) (b_7 : ByteArray) (t_0 : Bool) (t_1 : ByteArray) (t_2 : ByteArray) (w : World) (hT : TabC w) (ha_1 : a_1.size ≤ 6) (ha_3 : a_3.size ≤ 6) (ha_5 : a_5.size ≤ 6) (ha_7 : a_7.size ≤ 6) (hb_1 : b_1.size ≤ 6) (hb_3 : b_3.size ≤ 6) (hb_5 : b_5.size ≤ 6) (hb_7 : b_7.size ≤ 6) (ht_1 : t_1.size ≤ 6) (ht_2 : t_2.size ≤ 6) (h1 : ¬ sgQ (rq t_0 t_1 t_2) < 0) (h2 : 0 < cmpQ (rq t_0 t_1 t_2) 1) :
    Calls Tryz.prog 8 #[.agg #[.bool a_0, .string a_1, .bool a_2, .string a_3, .bool a_4, .string a_5, .bool a_6, .string a_7], .agg #[.bool b_0, .string b_1, .bool b_2, .string b_3, .bool b_4, .string b_5, .bool b_6, .string b_7], .agg #[.bool t_0, .string t_1, .string t_2]] w fun e w' => e = .returned (.bool true) ∧ Below w.heap.size w w' := by
  obtain ⟨aq, haq, raq⟩ : ∃ q, IsF (.agg #[.bool a_0, .string a_1, .bool a_2, .string a_3, .bool a_4, .string a_5, .bool a_6, .string a_7]) q 6 ∧ q = ⟨iv a_0 a_1, iv a_2 a_3, iv a_4 a_5, iv a_6 a_7⟩ := ⟨⟨_, _, _, _⟩, ⟨_, _, _, _, _, _, _, _, rfl, rfl, ha_1, rfl, ha_3, rfl, ha_5, rfl, ha_7⟩, rfl⟩
  have zaq := haq.sz
  obtain ⟨a, ea⟩ : ∃ p, p = pt aq := ⟨_, rfl⟩
  have ha : IsP (.agg #[.bool a_0, .string a_1, .bool a_2, .string a_3, .bool a_4, .string a_5, .bool a_6, .string a_7]) a 6 := by rw [ea]; exact haq.pt
  have za := ha.sz (by decide)
  have ra : a = pt ⟨iv a_0 a_1, iv a_2 a_3, iv a_4 a_5, iv a_6 a_7⟩ := by rw [ea, raq]
  obtain ⟨bq, hbq, rbq⟩ : ∃ q, IsF (.agg #[.bool b_0, .string b_1, .bool b_2, .string b_3, .bool b_4, .string b_5, .bool b_6, .string b_7]) q 6 ∧ q = ⟨iv b_0 b_1, iv b_2 b_3, iv b_4 b_5, iv b_6 b_7⟩ := ⟨⟨_, _, _, _⟩, ⟨_, _, _, _, _, _, _, _, rfl, rfl, hb_1, rfl, hb_3, rfl, hb_5, rfl, hb_7⟩, rfl⟩
  have zbq := hbq.sz
  obtain ⟨b, eb⟩ : ∃ p, p = pt bq := ⟨_, rfl⟩
  have hb : IsP (.agg #[.bool b_0, .string b_1, .bool b_2, .string b_3, .bool b_4, .string b_5, .bool b_6, .string b_7]) b 6 := by rw [eb]; exact hbq.pt
  have zb := hb.sz (by decide)
  have rb : b = pt ⟨iv b_0 b_1, iv b_2 b_3, iv b_4 b_5, iv b_6 b_7⟩ := by rw [eb, rbq]
  obtain ⟨t, ht, rt⟩ : ∃ q, IsQ (.agg #[.bool t_0, .string t_1, .string t_2]) q 6 ∧ q = rq t_0 t_1 t_2 := ⟨_, ⟨_, _, _, rfl, rfl, ht_1, ht_2⟩, rfl⟩
  have zt := ht.sz (by decide)
  rw [← rt] at h1 h2
  have f1 : Rk (1 : Rat) 8 := ⟨by decide +kernel, by decide +kernel⟩
  have f2 : Pk (lerp a b t) 78 := Pk.up ((Pk.lerp za zb zt)) (by decide)
  have f3 : Pk (lerp a b (0 : Rat)) 63 := Pk.up ((Pk.lerp za zb Rk.zero)) (by decide)
  have f4 : Pk a 6 := Pk.up (za) (by decide)
  have f5 : Pk (lerp a b (1 : Rat)) 84 := Pk.up ((Pk.lerp za zb f1)) (by decide)
  have f6 : Pk b 6 := Pk.up (zb) (by decide)
  have f7 : Rk ((1 : Rat) - t) 15 := Rk.up (Rk.sub f1 zt) (by decide)
  have f8 : Pk (lerp b a ((1 : Rat) - t)) 105 := Pk.up ((Pk.lerp zb za f7)) (by decide)
  have f9 : Rk (Rat.divInt (1 : Int) (2 : Int)) 8 := Rk.up ((⟨by decide +kernel, by decide +kernel⟩ : Rk (Rat.divInt (1 : Int) (2 : Int)) 8)) (by decide)
  have f10 : Rk (Rat.divInt (1 : Int) (4 : Int)) 8 := Rk.up ((⟨by decide +kernel, by decide +kernel⟩ : Rk (Rat.divInt (1 : Int) (4 : Int)) 8)) (by decide)
  have f11 : Pk (lerp a b (Rat.divInt (1 : Int) (2 : Int))) 84 := Pk.up ((Pk.lerp za zb f9)) (by decide)
  have f12 : Pk (lerp a (lerp a b (Rat.divInt (1 : Int) (2 : Int))) (Rat.divInt (1 : Int) (2 : Int))) 318 := Pk.up ((Pk.lerp za f11 f9)) (by decide)
  have f13 : Pk (lerp a b (Rat.divInt (1 : Int) (4 : Int))) 84 := Pk.up ((Pk.lerp za zb f10)) (by decide)
  exact SX.run (w := w) (List.flatten [[.bool a_0, .string a_1, .bool a_2, .string a_3, .bool a_4, .string a_5, .bool a_6, .string a_7, .bool b_0, .string b_1, .bool b_2, .string b_3, .bool b_4, .string b_5, .bool b_6, .string b_7, .bool t_0, .string t_1, .string t_2, .bool true, .bool false, .bool false, .int .i64 0, .bool false], qc (1 : Rat), pc (lerp a b t), pc (lerp a b (0 : Rat)), pc a, [.bool false], pc (lerp a b (1 : Rat)), pc b, [.bool false], qc ((1 : Rat) - t), pc (lerp b a ((1 : Rat) - t)), [.bool false], qc (Rat.divInt (1 : Int) (2 : Int)), qc (Rat.divInt (1 : Int) (4 : Int)), pc (lerp a b (Rat.divInt (1 : Int) (2 : Int))), pc (lerp a (lerp a b (Rat.divInt (1 : Int) (2 : Int))) (Rat.divInt (1 : Int) (2 : Int))), pc (lerp a b (Rat.divInt (1 : Int) (4 : Int))), [.bool false, .int .i64 (sgQ t), .bool false, .int .i64 (cmpQ t (1 : Rat)), .bool true]]) [.b false, .b false, .b false, .b false, .b false, .b false, .b false, .b false, .b true] [.ga 0 8, .ga 8 8, .ga 16 3] 19 (.one (.c (.p (.lit (.bool true))))) (.call 10 [] (.one (.ca 19)) [] :: .op1 .not (.pa 19) 20 :: .isB 20 false :: .call 11 [.c (.p (.slc 3 0 2 2))] (.one (.ca 21)) [(3073, .pa 0), (3074, .pa 1), (3075, .pa 2), (3076, .pa 3), (3077, .pa 4), (3078, .pa 5), (3079, .pa 6), (3080, .pa 7), (3081, .pa 8), (3082, .pa 9), (3083, .pa 10), (3084, .pa 11), (3085, .pa 12), (3086, .pa 13), (3087, .pa 14), (3088, .pa 15)] :: .isB 21 false :: .call 12 [.agg [.pa 16, .pa 17, .pa 18, .p (.lit (.bool false)), .p (.lit (.string ⟨#[]⟩)), .p (.lit (.string ⟨#[]⟩)), .p (.lit (.bool false)), .p (.lit (.string ⟨#[]⟩)), .p (.lit (.string ⟨#[]⟩))]] (.one (.ca 22)) [] :: .op2 false .eql (.pa 22) (.p (.lit (.int .i64 1))) 23 :: .isB 23 false :: .call 31 [.c (.p (.lit (.int .i64 1)))] (.one (.ga 24 3)) [] :: .call 25 [.ga 0 8, .ga 8 8, .ga 16 3] (.one (.ga 27 8)) [] :: .call 25 [.ga 0 8, .ga 8 8, .agg [.p (.lit (.bool false)), .p (.lit (.string ⟨#[]⟩)), .p (.lit (.string ⟨#[]⟩))]] (.one (.ga 35 8)) [] :: .call 13 [.ga 0 8] (.one (.ga 43 8)) [] :: .eqs true [.b, .s, .b, .s, .b, .s, .b, .s] [.pa 35, .pa 36, .pa 37, .pa 38, .pa 39, .pa 40, .pa 41, .pa 42] [.pa 43, .pa 44, .pa 45, .pa 46, .pa 47, .pa 48, .pa 49, .pa 50] 51 :: .isB 51 false :: .call 25 [.ga 0 8, .ga 8 8, .ga 24 3] (.one (.ga 52 8)) [] :: .call 13 [.ga 8 8] (.one (.ga 60 8)) [] :: .eqs true [.b, .s, .b, .s, .b, .s, .b, .s] [.pa 52, .pa 53, .pa 54, .pa 55, .pa 56, .pa 57, .pa 58, .pa 59] [.pa 60, .pa 61, .pa 62, .pa 63, .pa 64, .pa 65, .pa 66, .pa 67] 68 :: .isB 68 false :: .call 32 [.ga 24 3, .ga 16 3] (.one (.ga 69 3)) [] :: .call 25 [.ga 8 8, .ga 0 8, .ga 69 3] (.one (.ga 72 8)) [] :: .eqs true [.b, .s, .b, .s, .b, .s, .b, .s] [.pa 72, .pa 73, .pa 74, .pa 75, .pa 76, .pa 77, .pa 78, .pa 79] [.pa 27, .pa 28, .pa 29, .pa 30, .pa 31, .pa 32, .pa 33, .pa 34] 80 :: .isB 80 false :: .call 33 [.c (.p (.lit (.int .i64 1))), .c (.p (.lit (.int .i64 2)))] (.one (.ga 81 3)) [] :: .call 33 [.c (.p (.lit (.int .i64 1))), .c (.p (.lit (.int .i64 4)))] (.one (.ga 84 3)) [] :: .call 25 [.ga 0 8, .ga 8 8, .ga 81 3] (.one (.ga 87 8)) [] :: .call 25 [.ga 0 8, .ga 87 8, .ga 81 3] (.one (.ga 95 8)) [] :: .call 25 [.ga 0 8, .ga 8 8, .ga 84 3] (.one (.ga 103 8)) [] :: .eqs true [.b, .s, .b, .s, .b, .s, .b, .s] [.pa 95, .pa 96, .pa 97, .pa 98, .pa 99, .pa 100, .pa 101, .pa 102] [.pa 103, .pa 104, .pa 105, .pa 106, .pa 107, .pa 108, .pa 109, .pa 110] 111 :: .isB 111 false :: .call 34 [.ga 16 3] (.one (.ca 112)) [] :: .op2 false .lss (.pa 112) (.p (.lit (.int .i64 0))) 113 :: .isB 113 false :: .call 35 [.ga 16 3, .ga 24 3] (.one (.ca 114)) [] :: .op2 false .gtr (.pa 114) (.p (.lit (.int .i64 0))) 115 :: .isB 115 true :: []) Tryz.func8 (by kernel_rfl) rfl (by kernel_rfl) rfl (by kernel_rfl)
    ⟨fun γ w' bw _ => alive_any w' (hT.later bw),
     congrArg (fun z => some (Value.bool z)) (by first | rfl | assumption | decide | simp [*] : (!true) = false),
     rfl,
     fun γ w' _ hm => great2_no a_0 a_1 a_2 a_3 a_4 a_5 a_6 a_7 b_0 b_1 b_2 b_3 b_4 b_5 b_6 b_7 w' (γ 3) (SX.mem_at (b := 3) (l := [.pa 0, .pa 1, .pa 2, .pa 3, .pa 4, .pa 5, .pa 6, .pa 7, .pa 8, .pa 9, .pa 10, .pa 11, .pa 12, .pa 13, .pa 14, .pa 15]) hm rfl) ha_1 ha_3 ha_5 ha_7 hb_1 hb_3 hb_5 hb_7,
     rfl,
     fun γ w' _ _ => Wide_no t_0 t_1 t_2 false ⟨#[]⟩ ⟨#[]⟩ false ⟨#[]⟩ ⟨#[]⟩ w' ht_1 ht_2 (by decide) (by decide) (by decide) (by decide),
     congrArg (fun z => some (Value.bool z)) (by decide : ((0 : Int) == (1 : Int)) = false),
     rfl,
     fun γ w' _ _ => FromQ_any 1 w' (by first | decide | omega) (by first | decide | omega),
     fun γ w' bw _ => pLerp ha (by decide) hb (by decide) ht (by decide) w' (hT.later bw),
     fun γ w' bw _ => pLerp ha (by decide) hb (by decide) IsQ.zero (by decide) w' (hT.later bw),
     fun γ w' bw _ => pNormalize ha (by decide) w' (hT.later bw),
     ⟨rfl, rfl, eqv_yes (eqL_P (lerp a b (0 : Rat)) a) (lerp_zero _ _) rfl⟩,
     rfl,
     fun γ w' bw _ => pLerp ha (by decide) hb (by decide) (IsQ.can f1) (by decide) w' (hT.later bw),
     fun γ w' bw _ => pNormalize hb (by decide) w' (hT.later bw),
     ⟨rfl, rfl, eqv_yes (eqL_P (lerp a b (1 : Rat)) b) (lerp_one _ _) rfl⟩,
     rfl,
     fun γ w' bw _ => qSub (IsQ.can f1) (by decide) ht (by decide) w' (hT.later bw),
     fun γ w' bw _ => pLerp hb (by decide) ha (by decide) (IsQ.can f7) (by decide) w' (hT.later bw),
     ⟨rfl, rfl, eqv_yes (eqL_P (lerp b a ((1 : Rat) - t)) (lerp a b t)) (lerp_swap _ _ _) rfl⟩,
     rfl,
     fun γ w' _ _ => lrat 1 2 w' (by decide) (by decide) (by decide) (by decide),
     fun γ w' _ _ => lrat 1 4 w' (by decide) (by decide) (by decide) (by decide),
     fun γ w' bw _ => pLerp ha (by decide) hb (by decide) (IsQ.can f9) (by decide) w' (hT.later bw),
     fun γ w' bw _ => pLerp ha (by decide) (IsP.can f11) (by decide) (IsQ.can f9) (by decide) w' (hT.later bw),
     fun γ w' bw _ => pLerp ha (by decide) hb (by decide) (IsQ.can f10) (by decide) w' (hT.later bw),
     ⟨rfl, rfl, eqv_yes (eqL_P (lerp a (lerp a b (Rat.divInt (1 : Int) (2 : Int))) (Rat.divInt (1 : Int) (2 : Int))) (lerp a b (Rat.divInt (1 : Int) (4 : Int)))) (by rw [lerp_lerp, show (Rat.divInt (1 : Int) (2 : Int) * Rat.divInt (1 : Int) (2 : Int)) = Rat.divInt (1 : Int) (4 : Int) by decide +kernel]) rfl⟩,
     rfl,
     fun γ w' _ _ => qSign ht (by decide) w',
     congrArg (fun z => some (Value.bool z)) (decide_eq_false h1 : decide ((sgQ t) < (0 : Int)) = false),
     rfl,
     fun γ w' _ _ => qCmp ht (by decide) (IsQ.can f1) (by decide) w',
     congrArg (fun z => some (Value.bool z)) (decide_eq_true h2 : decide ((cmpQ t (1 : Rat)) > (0 : Int)) = true),
     rfl⟩
set_option maxRecDepth 100000 in
theorem Lerp_c (a_0 : Bool) (a_1 : ByteArray) (a_2 : Bool) (a_3 : ByteArray) (a_4 : Bool) (a_5 : ByteArray) (a_6 : Bool) (a_7 : ByteArray) (b_0 : Bool) (b_1 : ByteArray) (b_2 : Bool) (b_3 : ByteArray) (b_4 : Bool) (b_5 : ByteArray) (b_6 : Bool) (b_7 : ByteArray) (t_0 : Bool) (t_1 : ByteArray) (t_2 : ByteArray) (w : World) (hT : TabC w) (ha_1 : a_1.size ≤ 6) (ha_3 : a_3.size ≤ 6) (ha_5 : a_5.size ≤ 6) (ha_7 : a_7.size ≤ 6) (hb_1 : b_1.size ≤ 6) (hb_3 : b_3.size ≤ 6) (hb_5 : b_5.size ≤ 6) (hb_7 : b_7.size ≤ 6) (ht_1 : t_1.size ≤ 6) (ht_2 : t_2.size ≤ 6) (h1 : ¬ sgQ (rq t_0 t_1 t_2) < 0) (h2 : ¬ 0 < cmpQ (rq t_0 t_1 t_2) 1) (h3 : 0 < cmpP (pt ⟨iv a_0 a_1, iv a_2 a_3, iv a_4 a_5, iv a_6 a_7⟩) (pt ⟨iv b_0 b_1, iv b_2 b_3, iv b_4 b_5, iv b_6 b_7⟩)) :
    Calls Tryz.prog 8 #[.agg #[.bool a_0, .string a_1, .bool a_2, .string a_3, .bool a_4, .string a_5, .bool a_6, .string a_7], .agg #[.bool b_0, .string b_1, .bool b_2, .string b_3, .bool b_4, .string b_5, .bool b_6, .string b_7], .agg #[.bool t_0, .string t_1, .string t_2]] w fun e w' => e = .returned (.bool true) ∧ Below w.heap.size w w' := by
  obtain ⟨aq, haq, raq⟩ : ∃ q, IsF (.agg #[.bool a_0, .string a_1, .bool a_2, .string a_3, .bool a_4, .string a_5, .bool a_6, .string a_7]) q 6 ∧ q = ⟨iv a_0 a_1, iv a_2 a_3, iv a_4 a_5, iv a_6 a_7⟩ := ⟨⟨_, _, _, _⟩, ⟨_, _, _, _, _, _, _, _, rfl, rfl, ha_1, rfl, ha_3, rfl, ha_5, rfl, ha_7⟩, rfl⟩
  have zaq := haq.sz
  obtain ⟨a, ea⟩ : ∃ p, p = pt aq := ⟨_, rfl⟩
  have ha : IsP (.agg #[.bool a_0, .string a_1, .bool a_2, .string a_3, .bool a_4, .string a_5, .bool a_6, .string a_7]) a 6 := by rw [ea]; exact haq.pt
  have za := ha.sz (by decide)
  have ra : a = pt ⟨iv a_0 a_1, iv a_2 a_3, iv a_4 a_5, iv a_6 a_7⟩ := by rw [ea, raq]
  obtain ⟨bq, hbq, rbq⟩ : ∃ q, IsF (.agg #[.bool b_0, .string b_1, .bool b_2, .string b_3, .bool b_4, .string b_5, .bool b_6, .string b_7]) q 6 ∧ q = ⟨iv b_0 b_1, iv b_2 b_3, iv b_4 b_5, iv b_6 b_7⟩ := ⟨⟨_, _, _, _⟩, ⟨_, _, _, _, _, _, _, _, rfl, rfl, hb_1, rfl, hb_3, rfl, hb_5, rfl, hb_7⟩, rfl⟩
  have zbq := hbq.sz
  obtain ⟨b, eb⟩ : ∃ p, p = pt bq := ⟨_, rfl⟩
  have hb : IsP (.agg #[.bool b_0, .string b_1, .bool b_2, .string b_3, .bool b_4, .string b_5, .bool b_6, .string b_7]) b 6 := by rw [eb]; exact hbq.pt
  have zb := hb.sz (by decide)
  have rb : b = pt ⟨iv b_0 b_1, iv b_2 b_3, iv b_4 b_5, iv b_6 b_7⟩ := by rw [eb, rbq]
  obtain ⟨t, ht, rt⟩ : ∃ q, IsQ (.agg #[.bool t_0, .string t_1, .string t_2]) q 6 ∧ q = rq t_0 t_1 t_2 := ⟨_, ⟨_, _, _, rfl, rfl, ht_1, ht_2⟩, rfl⟩
  have zt := ht.sz (by decide)
  rw [← rt] at h1 h2
  rw [← ra, ← rb] at h3
  have f1 : Rk (1 : Rat) 8 := ⟨by decide +kernel, by decide +kernel⟩
  have f2 : Pk (lerp a b t) 78 := Pk.up ((Pk.lerp za zb zt)) (by decide)
  have f3 : Pk (lerp a b (0 : Rat)) 63 := Pk.up ((Pk.lerp za zb Rk.zero)) (by decide)
  have f4 : Pk a 6 := Pk.up (za) (by decide)
  have f5 : Pk (lerp a b (1 : Rat)) 84 := Pk.up ((Pk.lerp za zb f1)) (by decide)
  have f6 : Pk b 6 := Pk.up (zb) (by decide)
  have f7 : Rk ((1 : Rat) - t) 15 := Rk.up (Rk.sub f1 zt) (by decide)
  have f8 : Pk (lerp b a ((1 : Rat) - t)) 105 := Pk.up ((Pk.lerp zb za f7)) (by decide)
  have f9 : Rk (Rat.divInt (1 : Int) (2 : Int)) 8 := Rk.up ((⟨by decide +kernel, by decide +kernel⟩ : Rk (Rat.divInt (1 : Int) (2 : Int)) 8)) (by decide)
  have f10 : Rk (Rat.divInt (1 : Int) (4 : Int)) 8 := Rk.up ((⟨by decide +kernel, by decide +kernel⟩ : Rk (Rat.divInt (1 : Int) (4 : Int)) 8)) (by decide)
  have f11 : Pk (lerp a b (Rat.divInt (1 : Int) (2 : Int))) 84 := Pk.up ((Pk.lerp za zb f9)) (by decide)
  have f12 : Pk (lerp a (lerp a b (Rat.divInt (1 : Int) (2 : Int))) (Rat.divInt (1 : Int) (2 : Int))) 318 := Pk.up ((Pk.lerp za f11 f9)) (by decide)
  have f13 : Pk (lerp a b (Rat.divInt (1 : Int) (4 : Int))) 84 := Pk.up ((Pk.lerp za zb f10)) (by decide)
  exact SX.run (w := w) (List.flatten [[.bool a_0, .string a_1, .bool a_2, .string a_3, .bool a_4, .string a_5, .bool a_6, .string a_7, .bool b_0, .string b_1, .bool b_2, .string b_3, .bool b_4, .string b_5, .bool b_6, .string b_7, .bool t_0, .string t_1, .string t_2, .bool true, .bool false, .bool false, .int .i64 0, .bool false], qc (1 : Rat), pc (lerp a b t), pc (lerp a b (0 : Rat)), pc a, [.bool false], pc (lerp a b (1 : Rat)), pc b, [.bool false], qc ((1 : Rat) - t), pc (lerp b a ((1 : Rat) - t)), [.bool false], qc (Rat.divInt (1 : Int) (2 : Int)), qc (Rat.divInt (1 : Int) (4 : Int)), pc (lerp a b (Rat.divInt (1 : Int) (2 : Int))), pc (lerp a (lerp a b (Rat.divInt (1 : Int) (2 : Int))) (Rat.divInt (1 : Int) (2 : Int))), pc (lerp a b (Rat.divInt (1 : Int) (4 : Int))), [.bool false, .int .i64 (sgQ t), .bool false, .int .i64 (cmpQ t (1 : Rat)), .bool false, .int .i64 (cmpP a b), .bool true]]) [.b false, .b false, .b false, .b false, .b false, .b false, .b false, .b false, .b false, .b true] [.ga 0 8, .ga 8 8, .ga 16 3] 19 (.one (.c (.p (.lit (.bool true))))) (.call 10 [] (.one (.ca 19)) [] :: .op1 .not (.pa 19) 20 :: .isB 20 false :: .call 11 [.c (.p (.slc 3 0 2 2))] (.one (.ca 21)) [(3073, .pa 0), (3074, .pa 1), (3075, .pa 2), (3076, .pa 3), (3077, .pa 4), (3078, .pa 5), (3079, .pa 6), (3080, .pa 7), (3081, .pa 8), (3082, .pa 9), (3083, .pa 10), (3084, .pa 11), (3085, .pa 12), (3086, .pa 13), (3087, .pa 14), (3088, .pa 15)] :: .isB 21 false :: .call 12 [.agg [.pa 16, .pa 17, .pa 18, .p (.lit (.bool false)), .p (.lit (.string ⟨#[]⟩)), .p (.lit (.string ⟨#[]⟩)), .p (.lit (.bool false)), .p (.lit (.string ⟨#[]⟩)), .p (.lit (.string ⟨#[]⟩))]] (.one (.ca 22)) [] :: .op2 false .eql (.pa 22) (.p (.lit (.int .i64 1))) 23 :: .isB 23 false :: .call 31 [.c (.p (.lit (.int .i64 1)))] (.one (.ga 24 3)) [] :: .call 25 [.ga 0 8, .ga 8 8, .ga 16 3] (.one (.ga 27 8)) [] :: .call 25 [.ga 0 8, .ga 8 8, .agg [.p (.lit (.bool false)), .p (.lit (.string ⟨#[]⟩)), .p (.lit (.string ⟨#[]⟩))]] (.one (.ga 35 8)) [] :: .call 13 [.ga 0 8] (.one (.ga 43 8)) [] :: .eqs true [.b, .s, .b, .s, .b, .s, .b, .s] [.pa 35, .pa 36, .pa 37, .pa 38, .pa 39, .pa 40, .pa 41, .pa 42] [.pa 43, .pa 44, .pa 45, .pa 46, .pa 47, .pa 48, .pa 49, .pa 50] 51 :: .isB 51 false :: .call 25 [.ga 0 8, .ga 8 8, .ga 24 3] (.one (.ga 52 8)) [] :: .call 13 [.ga 8 8] (.one (.ga 60 8)) [] :: .eqs true [.b, .s, .b, .s, .b, .s, .b, .s] [.pa 52, .pa 53, .pa 54, .pa 55, .pa 56, .pa 57, .pa 58, .pa 59] [.pa 60, .pa 61, .pa 62, .pa 63, .pa 64, .pa 65, .pa 66, .pa 67] 68 :: .isB 68 false :: .call 32 [.ga 24 3, .ga 16 3] (.one (.ga 69 3)) [] :: .call 25 [.ga 8 8, .ga 0 8, .ga 69 3] (.one (.ga 72 8)) [] :: .eqs true [.b, .s, .b, .s, .b, .s, .b, .s] [.pa 72, .pa 73, .pa 74, .pa 75, .pa 76, .pa 77, .pa 78, .pa 79] [.pa 27, .pa 28, .pa 29, .pa 30, .pa 31, .pa 32, .pa 33, .pa 34] 80 :: .isB 80 false :: .call 33 [.c (.p (.lit (.int .i64 1))), .c (.p (.lit (.int .i64 2)))] (.one (.ga 81 3)) [] :: .call 33 [.c (.p (.lit (.int .i64 1))), .c (.p (.lit (.int .i64 4)))] (.one (.ga 84 3)) [] :: .call 25 [.ga 0 8, .ga 8 8, .ga 81 3] (.one (.ga 87 8)) [] :: .call 25 [.ga 0 8, .ga 87 8, .ga 81 3] (.one (.ga 95 8)) [] :: .call 25 [.ga 0 8, .ga 8 8, .ga 84 3] (.one (.ga 103 8)) [] :: .eqs true [.b, .s, .b, .s, .b, .s, .b, .s] [.pa 95, .pa 96, .pa 97, .pa 98, .pa 99, .pa 100, .pa 101, .pa 102] [.pa 103, .pa 104, .pa 105, .pa 106, .pa 107, .pa 108, .pa 109, .pa 110] 111 :: .isB 111 false :: .call 34 [.ga 16 3] (.one (.ca 112)) [] :: .op2 false .lss (.pa 112) (.p (.lit (.int .i64 0))) 113 :: .isB 113 false :: .call 35 [.ga 16 3, .ga 24 3] (.one (.ca 114)) [] :: .op2 false .gtr (.pa 114) (.p (.lit (.int .i64 0))) 115 :: .isB 115 false :: .call 21 [.ga 0 8, .ga 8 8] (.one (.ca 116)) [] :: .op2 false .gtr (.pa 116) (.p (.lit (.int .i64 0))) 117 :: .isB 117 true :: []) Tryz.func8 (by kernel_rfl) rfl (by kernel_rfl) rfl (by kernel_rfl)
    ⟨fun γ w' bw _ => alive_any w' (hT.later bw),
     congrArg (fun z => some (Value.bool z)) (by first | rfl | assumption | decide | simp [*] : (!true) = false),
     rfl,
     fun γ w' _ hm => great2_no a_0 a_1 a_2 a_3 a_4 a_5 a_6 a_7 b_0 b_1 b_2 b_3 b_4 b_5 b_6 b_7 w' (γ 3) (SX.mem_at (b := 3) (l := [.pa 0, .pa 1, .pa 2, .pa 3, .pa 4, .pa 5, .pa 6, .pa 7, .pa 8, .pa 9, .pa 10, .pa 11, .pa 12, .pa 13, .pa 14, .pa 15]) hm rfl) ha_1 ha_3 ha_5 ha_7 hb_1 hb_3 hb_5 hb_7,
     rfl,
     fun γ w' _ _ => Wide_no t_0 t_1 t_2 false ⟨#[]⟩ ⟨#[]⟩ false ⟨#[]⟩ ⟨#[]⟩ w' ht_1 ht_2 (by decide) (by decide) (by decide) (by decide),
     congrArg (fun z => some (Value.bool z)) (by decide : ((0 : Int) == (1 : Int)) = false),
     rfl,
     fun γ w' _ _ => FromQ_any 1 w' (by first | decide | omega) (by first | decide | omega),
     fun γ w' bw _ => pLerp ha (by decide) hb (by decide) ht (by decide) w' (hT.later bw),
     fun γ w' bw _ => pLerp ha (by decide) hb (by decide) IsQ.zero (by decide) w' (hT.later bw),
     fun γ w' bw _ => pNormalize ha (by decide) w' (hT.later bw),
     ⟨rfl, rfl, eqv_yes (eqL_P (lerp a b (0 : Rat)) a) (lerp_zero _ _) rfl⟩,
     rfl,
     fun γ w' bw _ => pLerp ha (by decide) hb (by decide) (IsQ.can f1) (by decide) w' (hT.later bw),
     fun γ w' bw _ => pNormalize hb (by decide) w' (hT.later bw),
     ⟨rfl, rfl, eqv_yes (eqL_P (lerp a b (1 : Rat)) b) (lerp_one _ _) rfl⟩,
     rfl,
     fun γ w' bw _ => qSub (IsQ.can f1) (by decide) ht (by decide) w' (hT.later bw),
     fun γ w' bw _ => pLerp hb (by decide) ha (by decide) (IsQ.can f7) (by decide) w' (hT.later bw),
     ⟨rfl, rfl, eqv_yes (eqL_P (lerp b a ((1 : Rat) - t)) (lerp a b t)) (lerp_swap _ _ _) rfl⟩,
     rfl,
     fun γ w' _ _ => lrat 1 2 w' (by decide) (by decide) (by decide) (by decide),
     fun γ w' _ _ => lrat 1 4 w' (by decide) (by decide) (by decide) (by decide),
     fun γ w' bw _ => pLerp ha (by decide) hb (by decide) (IsQ.can f9) (by decide) w' (hT.later bw),
     fun γ w' bw _ => pLerp ha (by decide) (IsP.can f11) (by decide) (IsQ.can f9) (by decide) w' (hT.later bw),
     fun γ w' bw _ => pLerp ha (by decide) hb (by decide) (IsQ.can f10) (by decide) w' (hT.later bw),
     ⟨rfl, rfl, eqv_yes (eqL_P (lerp a (lerp a b (Rat.divInt (1 : Int) (2 : Int))) (Rat.divInt (1 : Int) (2 : Int))) (lerp a b (Rat.divInt (1 : Int) (4 : Int)))) (by rw [lerp_lerp, show (Rat.divInt (1 : Int) (2 : Int) * Rat.divInt (1 : Int) (2 : Int)) = Rat.divInt (1 : Int) (4 : Int) by decide +kernel]) rfl⟩,
     rfl,
     fun γ w' _ _ => qSign ht (by decide) w',
     congrArg (fun z => some (Value.bool z)) (decide_eq_false h1 : decide ((sgQ t) < (0 : Int)) = false),
     rfl,
     fun γ w' _ _ => qCmp ht (by decide) (IsQ.can f1) (by decide) w',
     congrArg (fun z => some (Value.bool z)) (decide_eq_false h2 : decide ((cmpQ t (1 : Rat)) > (0 : Int)) = false),
     rfl,
     fun γ w' _ _ => pCmp ha (by decide) hb (by decide) w',
     congrArg (fun z => some (Value.bool z)) (decide_eq_true h3 : decide ((cmpP a b) > (0 : Int)) = true),
     rfl⟩
set_option maxRecDepth 100000 in
theorem Lerp_d (a_0 : Bool) (a_1 : ByteArray) (a_2 : Bool) (a_3 : ByteArray) (a_4 : Bool) (a_5 : ByteArray) (a_6 : Bool) (a_7 : ByteArray) (b_0 : Bool) (b_1 : ByteArray) (b_2 : Bool) (b_3 : ByteArray) (b_4 : Bool) (b_5 : ByteArray) (b_6 : Bool) (b_7 : ByteArray) (t_0 : Bool) (t_1 : ByteArray) (t_2 : ByteArray) (w : World) (hT : TabC w) (ha_1 : a_1.size ≤ 6) (ha_3 : a_3.size ≤ 6) (ha_5 : a_5.size ≤ 6) (ha_7 : a_7.size ≤ 6) (hb_1 : b_1.size ≤ 6) (hb_3 : b_3.size ≤ 6) (hb_5 : b_5.size ≤ 6) (hb_7 : b_7.size ≤ 6) (ht_1 : t_1.size ≤ 6) (ht_2 : t_2.size ≤ 6) (h1 : ¬ sgQ (rq t_0 t_1 t_2) < 0) (h2 : ¬ 0 < cmpQ (rq t_0 t_1 t_2) 1) (h3 : ¬ 0 < cmpP (pt ⟨iv a_0 a_1, iv a_2 a_3, iv a_4 a_5, iv a_6 a_7⟩) (pt ⟨iv b_0 b_1, iv b_2 b_3, iv b_4 b_5, iv b_6 b_7⟩)) :
    Calls Tryz.prog 8 #[.agg #[.bool a_0, .string a_1, .bool a_2, .string a_3, .bool a_4, .string a_5, .bool a_6, .string a_7], .agg #[.bool b_0, .string b_1, .bool b_2, .string b_3, .bool b_4, .string b_5, .bool b_6, .string b_7], .agg #[.bool t_0, .string t_1, .string t_2]] w fun e w' => e = .returned (.bool true) ∧ Below w.heap.size w w' := by
  obtain ⟨aq, haq, raq⟩ : ∃ q, IsF (.agg #[.bool a_0, .string a_1, .bool a_2, .string a_3, .bool a_4, .string a_5, .bool a_6, .string a_7]) q 6 ∧ q = ⟨iv a_0 a_1, iv a_2 a_3, iv a_4 a_5, iv a_6 a_7⟩ := ⟨⟨_, _, _, _⟩, ⟨_, _, _, _, _, _, _, _, rfl, rfl, ha_1, rfl, ha_3, rfl, ha_5, rfl, ha_7⟩, rfl⟩
  have zaq := haq.sz
  obtain ⟨a, ea⟩ : ∃ p, p = pt aq := ⟨_, rfl⟩
  have ha : IsP (.agg #[.bool a_0, .string a_1, .bool a_2, .string a_3, .bool a_4, .string a_5, .bool a_6, .string a_7]) a 6 := by rw [ea]; exact haq.pt
  have za := ha.sz (by decide)
  have ra : a = pt ⟨iv a_0 a_1, iv a_2 a_3, iv a_4 a_5, iv a_6 a_7⟩ := by rw [ea, raq]
  obtain ⟨bq, hbq, rbq⟩ : ∃ q, IsF (.agg #[.bool b_0, .string b_1, .bool b_2, .string b_3, .bool b_4, .string b_5, .bool b_6, .string b_7]) q 6 ∧ q = ⟨iv b_0 b_1, iv b_2 b_3, iv b_4 b_5, iv b_6 b_7⟩ := ⟨⟨_, _, _, _⟩, ⟨_, _, _, _, _, _, _, _, rfl, rfl, hb_1, rfl, hb_3, rfl, hb_5, rfl, hb_7⟩, rfl⟩
  have zbq := hbq.sz
  obtain ⟨b, eb⟩ : ∃ p, p = pt bq := ⟨_, rfl⟩
  have hb : IsP (.agg #[.bool b_0, .string b_1, .bool b_2, .string b_3, .bool b_4, .string b_5, .bool b_6, .string b_7]) b 6 := by rw [eb]; exact hbq.pt
  have zb := hb.sz (by decide)
  have rb : b = pt ⟨iv b_0 b_1, iv b_2 b_3, iv b_4 b_5, iv b_6 b_7⟩ := by rw [eb, rbq]
  obtain ⟨t, ht, rt⟩ : ∃ q, IsQ (.agg #[.bool t_0, .string t_1, .string t_2]) q 6 ∧ q = rq t_0 t_1 t_2 := ⟨_, ⟨_, _, _, rfl, rfl, ht_1, ht_2⟩, rfl⟩
  have zt := ht.sz (by decide)
  rw [← rt] at h1 h2
  rw [← ra, ← rb] at h3
  have hbt := lerp_between (sgQ_nn h1) (cmpQ_le.1 (Int.not_lt.1 h2)) (Int.not_lt.1 h3)
  have f1 : Rk (1 : Rat) 8 := ⟨by decide +kernel, by decide +kernel⟩
  have f2 : Pk (lerp a b t) 78 := Pk.up ((Pk.lerp za zb zt)) (by decide)
  have f3 : Pk (lerp a b (0 : Rat)) 63 := Pk.up ((Pk.lerp za zb Rk.zero)) (by decide)
  have f4 : Pk a 6 := Pk.up (za) (by decide)
  have f5 : Pk (lerp a b (1 : Rat)) 84 := Pk.up ((Pk.lerp za zb f1)) (by decide)
  have f6 : Pk b 6 := Pk.up (zb) (by decide)
  have f7 : Rk ((1 : Rat) - t) 15 := Rk.up (Rk.sub f1 zt) (by decide)
  have f8 : Pk (lerp b a ((1 : Rat) - t)) 105 := Pk.up ((Pk.lerp zb za f7)) (by decide)
  have f9 : Rk (Rat.divInt (1 : Int) (2 : Int)) 8 := Rk.up ((⟨by decide +kernel, by decide +kernel⟩ : Rk (Rat.divInt (1 : Int) (2 : Int)) 8)) (by decide)
  have f10 : Rk (Rat.divInt (1 : Int) (4 : Int)) 8 := Rk.up ((⟨by decide +kernel, by decide +kernel⟩ : Rk (Rat.divInt (1 : Int) (4 : Int)) 8)) (by decide)
  have f11 : Pk (lerp a b (Rat.divInt (1 : Int) (2 : Int))) 84 := Pk.up ((Pk.lerp za zb f9)) (by decide)
  have f12 : Pk (lerp a (lerp a b (Rat.divInt (1 : Int) (2 : Int))) (Rat.divInt (1 : Int) (2 : Int))) 318 := Pk.up ((Pk.lerp za f11 f9)) (by decide)
  have f13 : Pk (lerp a b (Rat.divInt (1 : Int) (4 : Int))) 84 := Pk.up ((Pk.lerp za zb f10)) (by decide)
  exact SX.run (w := w) (List.flatten [[.bool a_0, .string a_1, .bool a_2, .string a_3, .bool a_4, .string a_5, .bool a_6, .string a_7, .bool b_0, .string b_1, .bool b_2, .string b_3, .bool b_4, .string b_5, .bool b_6, .string b_7, .bool t_0, .string t_1, .string t_2, .bool true, .bool false, .bool false, .int .i64 0, .bool false], qc (1 : Rat), pc (lerp a b t), pc (lerp a b (0 : Rat)), pc a, [.bool false], pc (lerp a b (1 : Rat)), pc b, [.bool false], qc ((1 : Rat) - t), pc (lerp b a ((1 : Rat) - t)), [.bool false], qc (Rat.divInt (1 : Int) (2 : Int)), qc (Rat.divInt (1 : Int) (4 : Int)), pc (lerp a b (Rat.divInt (1 : Int) (2 : Int))), pc (lerp a (lerp a b (Rat.divInt (1 : Int) (2 : Int))) (Rat.divInt (1 : Int) (2 : Int))), pc (lerp a b (Rat.divInt (1 : Int) (4 : Int))), [.bool false, .int .i64 (sgQ t), .bool false, .int .i64 (cmpQ t (1 : Rat)), .bool false, .int .i64 (cmpP a b), .bool false, .int .i64 (cmpP a (lerp a b t)), .bool true, .int .i64 (cmpP (lerp a b t) b), .bool true]]) [.b false, .b false, .b false, .b false, .b false, .b false, .b false, .b false, .b false, .b false, .b true] [.ga 0 8, .ga 8 8, .ga 16 3] 19 (.one (.ca 121)) (.call 10 [] (.one (.ca 19)) [] :: .op1 .not (.pa 19) 20 :: .isB 20 false :: .call 11 [.c (.p (.slc 3 0 2 2))] (.one (.ca 21)) [(3073, .pa 0), (3074, .pa 1), (3075, .pa 2), (3076, .pa 3), (3077, .pa 4), (3078, .pa 5), (3079, .pa 6), (3080, .pa 7), (3081, .pa 8), (3082, .pa 9), (3083, .pa 10), (3084, .pa 11), (3085, .pa 12), (3086, .pa 13), (3087, .pa 14), (3088, .pa 15)] :: .isB 21 false :: .call 12 [.agg [.pa 16, .pa 17, .pa 18, .p (.lit (.bool false)), .p (.lit (.string ⟨#[]⟩)), .p (.lit (.string ⟨#[]⟩)), .p (.lit (.bool false)), .p (.lit (.string ⟨#[]⟩)), .p (.lit (.string ⟨#[]⟩))]] (.one (.ca 22)) [] :: .op2 false .eql (.pa 22) (.p (.lit (.int .i64 1))) 23 :: .isB 23 false :: .call 31 [.c (.p (.lit (.int .i64 1)))] (.one (.ga 24 3)) [] :: .call 25 [.ga 0 8, .ga 8 8, .ga 16 3] (.one (.ga 27 8)) [] :: .call 25 [.ga 0 8, .ga 8 8, .agg [.p (.lit (.bool false)), .p (.lit (.string ⟨#[]⟩)), .p (.lit (.string ⟨#[]⟩))]] (.one (.ga 35 8)) [] :: .call 13 [.ga 0 8] (.one (.ga 43 8)) [] :: .eqs true [.b, .s, .b, .s, .b, .s, .b, .s] [.pa 35, .pa 36, .pa 37, .pa 38, .pa 39, .pa 40, .pa 41, .pa 42] [.pa 43, .pa 44, .pa 45, .pa 46, .pa 47, .pa 48, .pa 49, .pa 50] 51 :: .isB 51 false :: .call 25 [.ga 0 8, .ga 8 8, .ga 24 3] (.one (.ga 52 8)) [] :: .call 13 [.ga 8 8] (.one (.ga 60 8)) [] :: .eqs true [.b, .s, .b, .s, .b, .s, .b, .s] [.pa 52, .pa 53, .pa 54, .pa 55, .pa 56, .pa 57, .pa 58, .pa 59] [.pa 60, .pa 61, .pa 62, .pa 63, .pa 64, .pa 65, .pa 66, .pa 67] 68 :: .isB 68 false :: .call 32 [.ga 24 3, .ga 16 3] (.one (.ga 69 3)) [] :: .call 25 [.ga 8 8, .ga 0 8, .ga 69 3] (.one (.ga 72 8)) [] :: .eqs true [.b, .s, .b, .s, .b, .s, .b, .s] [.pa 72, .pa 73, .pa 74, .pa 75, .pa 76, .pa 77, .pa 78, .pa 79] [.pa 27, .pa 28, .pa 29, .pa 30, .pa 31, .pa 32, .pa 33, .pa 34] 80 :: .isB 80 false :: .call 33 [.c (.p (.lit (.int .i64 1))), .c (.p (.lit (.int .i64 2)))] (.one (.ga 81 3)) [] :: .call 33 [.c (.p (.lit (.int .i64 1))), .c (.p (.lit (.int .i64 4)))] (.one (.ga 84 3)) [] :: .call 25 [.ga 0 8, .ga 8 8, .ga 81 3] (.one (.ga 87 8)) [] :: .call 25 [.ga 0 8, .ga 87 8, .ga 81 3] (.one (.ga 95 8)) [] :: .call 25 [.ga 0 8, .ga 8 8, .ga 84 3] (.one (.ga 103 8)) [] :: .eqs true [.b, .s, .b, .s, .b, .s, .b, .s] [.pa 95, .pa 96, .pa 97, .pa 98, .pa 99, .pa 100, .pa 101, .pa 102] [.pa 103, .pa 104, .pa 105, .pa 106, .pa 107, .pa 108, .pa 109, .pa 110] 111 :: .isB 111 false :: .call 34 [.ga 16 3] (.one (.ca 112)) [] :: .op2 false .lss (.pa 112) (.p (.lit (.int .i64 0))) 113 :: .isB 113 false :: .call 35 [.ga 16 3, .ga 24 3] (.one (.ca 114)) [] :: .op2 false .gtr (.pa 114) (.p (.lit (.int .i64 0))) 115 :: .isB 115 false :: .call 21 [.ga 0 8, .ga 8 8] (.one (.ca 116)) [] :: .op2 false .gtr (.pa 116) (.p (.lit (.int .i64 0))) 117 :: .isB 117 false :: .call 21 [.ga 0 8, .ga 27 8] (.one (.ca 118)) [] :: .op2 false .leq (.pa 118) (.p (.lit (.int .i64 0))) 119 :: .isB 119 true :: .call 21 [.ga 27 8, .ga 8 8] (.one (.ca 120)) [] :: .op2 false .leq (.pa 120) (.p (.lit (.int .i64 0))) 121 :: []) Tryz.func8 (by kernel_rfl) rfl (by kernel_rfl) rfl (by kernel_rfl)
    ⟨fun γ w' bw _ => alive_any w' (hT.later bw),
     congrArg (fun z => some (Value.bool z)) (by first | rfl | assumption | decide | simp [*] : (!true) = false),
     rfl,
     fun γ w' _ hm => great2_no a_0 a_1 a_2 a_3 a_4 a_5 a_6 a_7 b_0 b_1 b_2 b_3 b_4 b_5 b_6 b_7 w' (γ 3) (SX.mem_at (b := 3) (l := [.pa 0, .pa 1, .pa 2, .pa 3, .pa 4, .pa 5, .pa 6, .pa 7, .pa 8, .pa 9, .pa 10, .pa 11, .pa 12, .pa 13, .pa 14, .pa 15]) hm rfl) ha_1 ha_3 ha_5 ha_7 hb_1 hb_3 hb_5 hb_7,
     rfl,
     fun γ w' _ _ => Wide_no t_0 t_1 t_2 false ⟨#[]⟩ ⟨#[]⟩ false ⟨#[]⟩ ⟨#[]⟩ w' ht_1 ht_2 (by decide) (by decide) (by decide) (by decide),
     congrArg (fun z => some (Value.bool z)) (by decide : ((0 : Int) == (1 : Int)) = false),
     rfl,
     fun γ w' _ _ => FromQ_any 1 w' (by first | decide | omega) (by first | decide | omega),
     fun γ w' bw _ => pLerp ha (by decide) hb (by decide) ht (by decide) w' (hT.later bw),
     fun γ w' bw _ => pLerp ha (by decide) hb (by decide) IsQ.zero (by decide) w' (hT.later bw),
     fun γ w' bw _ => pNormalize ha (by decide) w' (hT.later bw),
     ⟨rfl, rfl, eqv_yes (eqL_P (lerp a b (0 : Rat)) a) (lerp_zero _ _) rfl⟩,
     rfl,
     fun γ w' bw _ => pLerp ha (by decide) hb (by decide) (IsQ.can f1) (by decide) w' (hT.later bw),
     fun γ w' bw _ => pNormalize hb (by decide) w' (hT.later bw),
     ⟨rfl, rfl, eqv_yes (eqL_P (lerp a b (1 : Rat)) b) (lerp_one _ _) rfl⟩,
     rfl,
     fun γ w' bw _ => qSub (IsQ.can f1) (by decide) ht (by decide) w' (hT.later bw),
     fun γ w' bw _ => pLerp hb (by decide) ha (by decide) (IsQ.can f7) (by decide) w' (hT.later bw),
     ⟨rfl, rfl, eqv_yes (eqL_P (lerp b a ((1 : Rat) - t)) (lerp a b t)) (lerp_swap _ _ _) rfl⟩,
     rfl,
     fun γ w' _ _ => lrat 1 2 w' (by decide) (by decide) (by decide) (by decide),
     fun γ w' _ _ => lrat 1 4 w' (by decide) (by decide) (by decide) (by decide),
     fun γ w' bw _ => pLerp ha (by decide) hb (by decide) (IsQ.can f9) (by decide) w' (hT.later bw),
     fun γ w' bw _ => pLerp ha (by decide) (IsP.can f11) (by decide) (IsQ.can f9) (by decide) w' (hT.later bw),
     fun γ w' bw _ => pLerp ha (by decide) hb (by decide) (IsQ.can f10) (by decide) w' (hT.later bw),
     ⟨rfl, rfl, eqv_yes (eqL_P (lerp a (lerp a b (Rat.divInt (1 : Int) (2 : Int))) (Rat.divInt (1 : Int) (2 : Int))) (lerp a b (Rat.divInt (1 : Int) (4 : Int)))) (by rw [lerp_lerp, show (Rat.divInt (1 : Int) (2 : Int) * Rat.divInt (1 : Int) (2 : Int)) = Rat.divInt (1 : Int) (4 : Int) by decide +kernel]) rfl⟩,
     rfl,
     fun γ w' _ _ => qSign ht (by decide) w',
     congrArg (fun z => some (Value.bool z)) (decide_eq_false h1 : decide ((sgQ t) < (0 : Int)) = false),
     rfl,
     fun γ w' _ _ => qCmp ht (by decide) (IsQ.can f1) (by decide) w',
     congrArg (fun z => some (Value.bool z)) (decide_eq_false h2 : decide ((cmpQ t (1 : Rat)) > (0 : Int)) = false),
     rfl,
     fun γ w' _ _ => pCmp ha (by decide) hb (by decide) w',
     congrArg (fun z => some (Value.bool z)) (decide_eq_false h3 : decide ((cmpP a b) > (0 : Int)) = false),
     rfl,
     fun γ w' _ _ => pCmp ha (by decide) (IsP.can f2) (by decide) w',
     congrArg (fun z => some (Value.bool z)) (decide_eq_true hbt.1 : decide ((cmpP a (lerp a b t)) ≤ (0 : Int)) = true),
     rfl,
     fun γ w' _ _ => pCmp (IsP.can f2) (by decide) hb (by decide) w',
     congrArg (fun z => some (Value.bool z)) (decide_eq_true hbt.2 : decide ((cmpP (lerp a b t) b) ≤ (0 : Int)) = true)⟩
theorem Lerp_any (a_0 : Bool) (a_1 : ByteArray) (a_2 : Bool) (a_3 : ByteArray) (a_4 : Bool) (a_5 : ByteArray) (a_6 : Bool) (a_7 : ByteArray) (b_0 : Bool) (b_1 : ByteArray) (b_2 : Bool) (b_3 : ByteArray) (b_4 : Bool) (b_5 : ByteArray) (b_6 : Bool) (b_7 : ByteArray) (t_0 : Bool) (t_1 : ByteArray) (t_2 : ByteArray) (w : World) (hT : TabC w) :
    Calls Tryz.prog 8 #[.agg #[.bool a_0, .string a_1, .bool a_2, .string a_3, .bool a_4, .string a_5, .bool a_6, .string a_7], .agg #[.bool b_0, .string b_1, .bool b_2, .string b_3, .bool b_4, .string b_5, .bool b_6, .string b_7], .agg #[.bool t_0, .string t_1, .string t_2]] w fun e w' => e = .returned (.bool true) ∧ Below w.heap.size w w' := by
  by_cases g0 : (a_1.size ≤ 6 ∧ a_3.size ≤ 6 ∧ a_5.size ≤ 6 ∧ a_7.size ≤ 6) ∧ (b_1.size ≤ 6 ∧ b_3.size ≤ 6 ∧ b_5.size ≤ 6 ∧ b_7.size ≤ 6)
  rotate_left
  · exact Lerp_g0 a_0 a_1 a_2 a_3 a_4 a_5 a_6 a_7 b_0 b_1 b_2 b_3 b_4 b_5 b_6 b_7 t_0 t_1 t_2 w hT  g0
  obtain ⟨⟨ha_1, ha_3, ha_5, ha_7⟩, ⟨hb_1, hb_3, hb_5, hb_7⟩⟩ := g0
  by_cases g1 : t_1.size ≤ 6 ∧ t_2.size ≤ 6
  rotate_left
  · exact Lerp_g1 a_0 a_1 a_2 a_3 a_4 a_5 a_6 a_7 b_0 b_1 b_2 b_3 b_4 b_5 b_6 b_7 t_0 t_1 t_2 w hT ha_1 ha_3 ha_5 ha_7 hb_1 hb_3 hb_5 hb_7 g1
  obtain ⟨ht_1, ht_2⟩ := g1
  by_cases h1 : sgQ (rq t_0 t_1 t_2) < 0
  · exact Lerp_a a_0 a_1 a_2 a_3 a_4 a_5 a_6 a_7 b_0 b_1 b_2 b_3 b_4 b_5 b_6 b_7 t_0 t_1 t_2 w hT ha_1 ha_3 ha_5 ha_7 hb_1 hb_3 hb_5 hb_7 ht_1 ht_2 h1
  · by_cases h2 : 0 < cmpQ (rq t_0 t_1 t_2) 1
    · exact Lerp_b a_0 a_1 a_2 a_3 a_4 a_5 a_6 a_7 b_0 b_1 b_2 b_3 b_4 b_5 b_6 b_7 t_0 t_1 t_2 w hT ha_1 ha_3 ha_5 ha_7 hb_1 hb_3 hb_5 hb_7 ht_1 ht_2 h1 h2
    · by_cases h3 : 0 < cmpP (pt ⟨iv a_0 a_1, iv a_2 a_3, iv a_4 a_5, iv a_6 a_7⟩) (pt ⟨iv b_0 b_1, iv b_2 b_3, iv b_4 b_5, iv b_6 b_7⟩)
      · exact Lerp_c a_0 a_1 a_2 a_3 a_4 a_5 a_6 a_7 b_0 b_1 b_2 b_3 b_4 b_5 b_6 b_7 t_0 t_1 t_2 w hT ha_1 ha_3 ha_5 ha_7 hb_1 hb_3 hb_5 hb_7 ht_1 ht_2 h1 h2 h3
      · exact Lerp_d a_0 a_1 a_2 a_3 a_4 a_5 a_6 a_7 b_0 b_1 b_2 b_3 b_4 b_5 b_6 b_7 t_0 t_1 t_2 w hT ha_1 ha_3 ha_5 ha_7 hb_1 hb_3 hb_5 hb_7 ht_1 ht_2 h1 h2 h3
set_option maxRecDepth 100000 in
theorem Scaling_g0 (a_0 : Bool) (a_1 : ByteArray) (a_2 : Bool) (a_3 : ByteArray) (a_4 : Bool) (a_5 : ByteArray) (a_6 : Bool) (a_7 : ByteArray) (k_0 : Bool) (k_1 : ByteArray) (w : World) (hT : TabC w)  (h : ¬ ((a_1.size ≤ 6 ∧ a_3.size ≤ 6 ∧ a_5.size ≤ 6 ∧ a_7.size ≤ 6))) :
    Calls Tryz.prog 9 #[.agg #[.bool a_0, .string a_1, .bool a_2, .string a_3, .bool a_4, .string a_5, .bool a_6, .string a_7], .agg #[.bool k_0, .string k_1]] w fun e w' => e = .returned (.bool true) ∧ Below w.heap.size w w' := by
  exact SX.run (w := w) [.bool a_0, .string a_1, .bool a_2, .string a_3, .bool a_4, .string a_5, .bool a_6, .string a_7, .bool k_0, .string k_1, .bool true, .bool false, .bool true] [.b false, .b true] [.ga 0 8, .ga 8 2] 10 (.one (.c (.p (.lit (.bool true))))) [.call 10 [] (.one (.ca 10)) [], .op1 .not (.pa 10) 11, .isB 11 false, .call 11 [.c (.p (.slc 2 0 1 1))] (.one (.ca 12)) [(2049, .pa 0), (2050, .pa 1), (2051, .pa 2), (2052, .pa 3), (2053, .pa 4), (2054, .pa 5), (2055, .pa 6), (2056, .pa 7)], .isB 12 true] Tryz.func9 (by kernel_rfl) rfl (by kernel_rfl) rfl (by kernel_rfl)
    ⟨fun γ w' bw _ => alive_any w' (hT.later bw),
     congrArg (fun z => some (Value.bool z)) (by decide : (!true) = false),
     rfl,
     fun γ w' _ hm => great1_yes a_0 a_1 a_2 a_3 a_4 a_5 a_6 a_7 w' (γ 2) (SX.mem_at (b := 2) (l := [.pa 0, .pa 1, .pa 2, .pa 3, .pa 4, .pa 5, .pa 6, .pa 7]) hm rfl) h,
     rfl⟩
set_option maxRecDepth 100000 in
theorem Scaling_g1 (a_0 : Bool) (a_1 : ByteArray) (a_2 : Bool) (a_3 : ByteArray) (a_4 : Bool) (a_5 : ByteArray) (a_6 : Bool) (a_7 : ByteArray) (k_0 : Bool) (k_1 : ByteArray) (w : World) (hT : TabC w) (ha_1 : a_1.size ≤ 6) (ha_3 : a_3.size ≤ 6) (ha_5 : a_5.size ≤ 6) (ha_7 : a_7.size ≤ 6) (h1 : ¬ k_1.size ≤ 4) :
    Calls Tryz.prog 9 #[.agg #[.bool a_0, .string a_1, .bool a_2, .string a_3, .bool a_4, .string a_5, .bool a_6, .string a_7], .agg #[.bool k_0, .string k_1]] w fun e w' => e = .returned (.bool true) ∧ Below w.heap.size w w' := by
  exact SX.run (w := w) [.bool a_0, .string a_1, .bool a_2, .string a_3, .bool a_4, .string a_5, .bool a_6, .string a_7, .bool k_0, .string k_1, .bool true, .bool false, .bool false, .int .i64 (k_1.size : Int), .bool true] [.b false, .b false, .b true] [.ga 0 8, .ga 8 2] 10 (.one (.c (.p (.lit (.bool true))))) [.call 10 [] (.one (.ca 10)) [], .op1 .not (.pa 10) 11, .isB 11 false, .call 11 [.c (.p (.slc 2 0 1 1))] (.one (.ca 12)) [(2049, .pa 0), (2050, .pa 1), (2051, .pa 2), (2052, .pa 3), (2053, .pa 4), (2054, .pa 5), (2055, .pa 6), (2056, .pa 7)], .isB 12 false, .len (.pa 9) 13, .op2 false .gtr (.pa 13) (.p (.lit (.int .i64 4))) 14, .isB 14 true] Tryz.func9 (by kernel_rfl) rfl (by kernel_rfl) rfl (by kernel_rfl)
    ⟨fun γ w' bw _ => alive_any w' (hT.later bw),
     congrArg (fun z => some (Value.bool z)) (by first | rfl | assumption | decide | simp [*] : (!true) = false),
     rfl,
     fun γ w' _ hm => great1_no a_0 a_1 a_2 a_3 a_4 a_5 a_6 a_7 w' (γ 2) (SX.mem_at (b := 2) (l := [.pa 0, .pa 1, .pa 2, .pa 3, .pa 4, .pa 5, .pa 6, .pa 7]) hm rfl) ha_1 ha_3 ha_5 ha_7,
     rfl,
     ⟨_, rfl, rfl⟩,
     congrArg (fun z => some (Value.bool z)) (decide_eq_true (by omega) : decide ((k_1.size : Int) > (4 : Int)) = true),
     rfl⟩
set_option maxRecDepth 100000 in
theorem Scaling_g2 (a_0 : Bool) (a_1 : ByteArray) (a_2 : Bool) (a_3 : ByteArray) (a_4 : Bool) (a_5 : ByteArray) (a_6 : Bool) (a_7 : ByteArray) (k_0 : Bool) (k_1 : ByteArray) (w : World) (hT : TabC w) (ha_1 : a_1.size ≤ 6) (ha_3 : a_3.size ≤ 6) (ha_5 : a_5.size ≤ 6) (ha_7 : a_7.size ≤ 6) (hk_1 : k_1.size ≤ 4) (h1 : iv k_0 k_1 = 0) :
    Calls Tryz.prog 9 #[.agg #[.bool a_0, .string a_1, .bool a_2, .string a_3, .bool a_4, .string a_5, .bool a_6, .string a_7], .agg #[.bool k_0, .string k_1]] w fun e w' => e = .returned (.bool true) ∧ Below w.heap.size w w' := by
  obtain ⟨aq, haq, raq⟩ : ∃ q, IsF (.agg #[.bool a_0, .string a_1, .bool a_2, .string a_3, .bool a_4, .string a_5, .bool a_6, .string a_7]) q 6 ∧ q = ⟨iv a_0 a_1, iv a_2 a_3, iv a_4 a_5, iv a_6 a_7⟩ := ⟨⟨_, _, _, _⟩, ⟨_, _, _, _, _, _, _, _, rfl, rfl, ha_1, rfl, ha_3, rfl, ha_5, rfl, ha_7⟩, rfl⟩
  have zaq := haq.sz
  obtain ⟨a, ea⟩ : ∃ p, p = pt aq := ⟨_, rfl⟩
  have ha : IsP (.agg #[.bool a_0, .string a_1, .bool a_2, .string a_3, .bool a_4, .string a_5, .bool a_6, .string a_7]) a 6 := by rw [ea]; exact haq.pt
  have za := ha.sz (by decide)
  have ra : a = pt ⟨iv a_0 a_1, iv a_2 a_3, iv a_4 a_5, iv a_6 a_7⟩ := by rw [ea, raq]
  obtain ⟨k, hk, rk⟩ : ∃ q, IsZ (.agg #[.bool k_0, .string k_1]) q 4 ∧ q = iv k_0 k_1 := ⟨_, ⟨_, _, rfl, rfl, hk_1⟩, rfl⟩
  have zk := hk.sz
  rw [← rk] at h1
  exact SX.run (w := w) [.bool a_0, .string a_1, .bool a_2, .string a_3, .bool a_4, .string a_5, .bool a_6, .string a_7, .bool k_0, .string k_1, .bool true, .bool false, .bool false, .int .i64 (k_1.size : Int), .bool false, .int .i64 (cmpZ k 0), .bool true] [.b false, .b false, .b false, .b true] [.ga 0 8, .ga 8 2] 10 (.one (.c (.p (.lit (.bool true))))) [.call 10 [] (.one (.ca 10)) [], .op1 .not (.pa 10) 11, .isB 11 false, .call 11 [.c (.p (.slc 2 0 1 1))] (.one (.ca 12)) [(2049, .pa 0), (2050, .pa 1), (2051, .pa 2), (2052, .pa 3), (2053, .pa 4), (2054, .pa 5), (2055, .pa 6), (2056, .pa 7)], .isB 12 false, .len (.pa 9) 13, .op2 false .gtr (.pa 13) (.p (.lit (.int .i64 4))) 14, .isB 14 false, .call 36 [.ga 8 2] (.one (.ca 15)) [], .op2 false .eql (.pa 15) (.p (.lit (.int .i64 0))) 16, .isB 16 true] Tryz.func9 (by kernel_rfl) rfl (by kernel_rfl) rfl (by kernel_rfl)
    ⟨fun γ w' bw _ => alive_any w' (hT.later bw),
     congrArg (fun z => some (Value.bool z)) (by first | rfl | assumption | decide | simp [*] : (!true) = false),
     rfl,
     fun γ w' _ hm => great1_no a_0 a_1 a_2 a_3 a_4 a_5 a_6 a_7 w' (γ 2) (SX.mem_at (b := 2) (l := [.pa 0, .pa 1, .pa 2, .pa 3, .pa 4, .pa 5, .pa 6, .pa 7]) hm rfl) ha_1 ha_3 ha_5 ha_7,
     rfl,
     ⟨_, rfl, rfl⟩,
     congrArg (fun z => some (Value.bool z)) (decide_eq_false (by omega) : decide ((k_1.size : Int) > (4 : Int)) = false),
     rfl,
     fun γ w' _ _ => jSign hk (by decide) w',
     congrArg (fun z => some (Value.bool z)) (by rw [cmpZ_eq0]; exact decide_eq_true h1 : ((cmpZ k 0) == (0 : Int)) = true),
     rfl⟩
set_option maxRecDepth 100000 in
theorem Scaling_g3 (a_0 : Bool) (a_1 : ByteArray) (a_2 : Bool) (a_3 : ByteArray) (a_4 : Bool) (a_5 : ByteArray) (a_6 : Bool) (a_7 : ByteArray) (k_0 : Bool) (k_1 : ByteArray) (w : World) (hT : TabC w) (ha_1 : a_1.size ≤ 6) (ha_3 : a_3.size ≤ 6) (ha_5 : a_5.size ≤ 6) (ha_7 : a_7.size ≤ 6) (hk_1 : k_1.size ≤ 4) (h1 : iv k_0 k_1 ≠ 0) (h2 : iv a_6 a_7 = 0) :
    Calls Tryz.prog 9 #[.agg #[.bool a_0, .string a_1, .bool a_2, .string a_3, .bool a_4, .string a_5, .bool a_6, .string a_7], .agg #[.bool k_0, .string k_1]] w fun e w' => e = .returned (.bool true) ∧ Below w.heap.size w w' := by
  obtain ⟨aq, haq, raq⟩ : ∃ q, IsF (.agg #[.bool a_0, .string a_1, .bool a_2, .string a_3, .bool a_4, .string a_5, .bool a_6, .string a_7]) q 6 ∧ q = ⟨iv a_0 a_1, iv a_2 a_3, iv a_4 a_5, iv a_6 a_7⟩ := ⟨⟨_, _, _, _⟩, ⟨_, _, _, _, _, _, _, _, rfl, rfl, ha_1, rfl, ha_3, rfl, ha_5, rfl, ha_7⟩, rfl⟩
  have zaq := haq.sz
  obtain ⟨a, ea⟩ : ∃ p, p = pt aq := ⟨_, rfl⟩
  have ha : IsP (.agg #[.bool a_0, .string a_1, .bool a_2, .string a_3, .bool a_4, .string a_5, .bool a_6, .string a_7]) a 6 := by rw [ea]; exact haq.pt
  have za := ha.sz (by decide)
  have ra : a = pt ⟨iv a_0 a_1, iv a_2 a_3, iv a_4 a_5, iv a_6 a_7⟩ := by rw [ea, raq]
  obtain ⟨k, hk, rk⟩ : ∃ q, IsZ (.agg #[.bool k_0, .string k_1]) q 4 ∧ q = iv k_0 k_1 := ⟨_, ⟨_, _, rfl, rfl, hk_1⟩, rfl⟩
  have zk := hk.sz
  rw [← rk] at h1
  rw [haq.in.2.2.2.1] at h2
  exact SX.run (w := w) [.bool a_0, .string a_1, .bool a_2, .string a_3, .bool a_4, .string a_5, .bool a_6, .string a_7, .bool k_0, .string k_1, .bool true, .bool false, .bool false, .int .i64 (k_1.size : Int), .bool false, .int .i64 (cmpZ k 0), .bool false, .int .i64 (cmpZ aq.d 0), .bool true] [.b false, .b false, .b false, .b false, .b true] [.ga 0 8, .ga 8 2] 10 (.one (.c (.p (.lit (.bool true))))) [.call 10 [] (.one (.ca 10)) [], .op1 .not (.pa 10) 11, .isB 11 false, .call 11 [.c (.p (.slc 2 0 1 1))] (.one (.ca 12)) [(2049, .pa 0), (2050, .pa 1), (2051, .pa 2), (2052, .pa 3), (2053, .pa 4), (2054, .pa 5), (2055, .pa 6), (2056, .pa 7)], .isB 12 false, .len (.pa 9) 13, .op2 false .gtr (.pa 13) (.p (.lit (.int .i64 4))) 14, .isB 14 false, .call 36 [.ga 8 2] (.one (.ca 15)) [], .op2 false .eql (.pa 15) (.p (.lit (.int .i64 0))) 16, .isB 16 false, .call 36 [.ga 6 2] (.one (.ca 17)) [], .op2 false .eql (.pa 17) (.p (.lit (.int .i64 0))) 18, .isB 18 true] Tryz.func9 (by kernel_rfl) rfl (by kernel_rfl) rfl (by kernel_rfl)
    ⟨fun γ w' bw _ => alive_any w' (hT.later bw),
     congrArg (fun z => some (Value.bool z)) (by first | rfl | assumption | decide | simp [*] : (!true) = false),
     rfl,
     fun γ w' _ hm => great1_no a_0 a_1 a_2 a_3 a_4 a_5 a_6 a_7 w' (γ 2) (SX.mem_at (b := 2) (l := [.pa 0, .pa 1, .pa 2, .pa 3, .pa 4, .pa 5, .pa 6, .pa 7]) hm rfl) ha_1 ha_3 ha_5 ha_7,
     rfl,
     ⟨_, rfl, rfl⟩,
     congrArg (fun z => some (Value.bool z)) (decide_eq_false (by omega) : decide ((k_1.size : Int) > (4 : Int)) = false),
     rfl,
     fun γ w' _ _ => jSign hk (by decide) w',
     congrArg (fun z => some (Value.bool z)) (by rw [cmpZ_eq0]; exact decide_eq_false h1 : ((cmpZ k 0) == (0 : Int)) = false),
     rfl,
     fun γ w' _ _ => jSign haq.zd (by decide) w',
     congrArg (fun z => some (Value.bool z)) (by rw [cmpZ_eq0]; exact decide_eq_true h2 : ((cmpZ aq.d 0) == (0 : Int)) = true),
     rfl⟩
set_option maxRecDepth 100000 in
theorem Scaling_m (a_0 : Bool) (a_1 : ByteArray) (a_2 : Bool) (a_3 : ByteArray) (a_4 : Bool) (a_5 : ByteArray) (a_6 : Bool) (a_7 : ByteArray) (k_0 : Bool) (k_1 : ByteArray) (w : World) (hT : TabC w) (ha_1 : a_1.size ≤ 6) (ha_3 : a_3.size ≤ 6) (ha_5 : a_5.size ≤ 6) (ha_7 : a_7.size ≤ 6) (hk_1 : k_1.size ≤ 4) (h1 : iv k_0 k_1 ≠ 0) (h2 : iv a_6 a_7 ≠ 0) :
    Calls Tryz.prog 9 #[.agg #[.bool a_0, .string a_1, .bool a_2, .string a_3, .bool a_4, .string a_5, .bool a_6, .string a_7], .agg #[.bool k_0, .string k_1]] w fun e w' => e = .returned (.bool true) ∧ Below w.heap.size w w' := by
  obtain ⟨aq, haq, raq⟩ : ∃ q, IsF (.agg #[.bool a_0, .string a_1, .bool a_2, .string a_3, .bool a_4, .string a_5, .bool a_6, .string a_7]) q 6 ∧ q = ⟨iv a_0 a_1, iv a_2 a_3, iv a_4 a_5, iv a_6 a_7⟩ := ⟨⟨_, _, _, _⟩, ⟨_, _, _, _, _, _, _, _, rfl, rfl, ha_1, rfl, ha_3, rfl, ha_5, rfl, ha_7⟩, rfl⟩
  have zaq := haq.sz
  obtain ⟨a, ea⟩ : ∃ p, p = pt aq := ⟨_, rfl⟩
  have ha : IsP (.agg #[.bool a_0, .string a_1, .bool a_2, .string a_3, .bool a_4, .string a_5, .bool a_6, .string a_7]) a 6 := by rw [ea]; exact haq.pt
  have za := ha.sz (by decide)
  have ra : a = pt ⟨iv a_0 a_1, iv a_2 a_3, iv a_4 a_5, iv a_6 a_7⟩ := by rw [ea, raq]
  obtain ⟨k, hk, rk⟩ : ∃ q, IsZ (.agg #[.bool k_0, .string k_1]) q 4 ∧ q = iv k_0 k_1 := ⟨_, ⟨_, _, rfl, rfl, hk_1⟩, rfl⟩
  have zk := hk.sz
  rw [← rk] at h1
  rw [haq.in.2.2.2.1] at h2
  have es : (pt (Z4.mk (aq.a * k) (aq.b * k) (aq.c * k) (aq.d * k))) = a := by rw [ea]; exact pt_scal h1 h2
  have f1 : Zk (aq.a * k) 10 := Zk.up (mg_mul_size zaq.1 zk) (by decide)
  have f2 : Zk (aq.b * k) 10 := Zk.up (mg_mul_size zaq.2.1 zk) (by decide)
  have f3 : Zk (aq.c * k) 10 := Zk.up (mg_mul_size zaq.2.2.1 zk) (by decide)
  have f4 : Zk (aq.d * k) 10 := Zk.up (mg_mul_size zaq.2.2.2 zk) (by decide)
  have f5 : Pk a 6 := Pk.up (za) (by decide)
  have f6 : Pk (pt (Z4.mk (aq.a * k) (aq.b * k) (aq.c * k) (aq.d * k))) 10 := Pk.up ((Pk.pt (Fk.mk f1 f2 f3 f4) (by decide))) (by decide)
  have f7 : Vk (pt (Z4.mk (aq.a * k) (aq.b * k) (aq.c * k) (aq.d * k))) 10 := Vk.up ((Vk.ofP1 (Pk.pt (Fk.mk f1 f2 f3 f4) (by decide)))) (by decide)
  have f8 : Vk a 6 := Vk.up ((Vk.ofP1 za)) (by decide)
  exact SX.run (w := w) (List.flatten [[.bool a_0, .string a_1, .bool a_2, .string a_3, .bool a_4, .string a_5, .bool a_6, .string a_7, .bool k_0, .string k_1, .bool true, .bool false, .bool false, .int .i64 (k_1.size : Int), .bool false, .int .i64 (cmpZ k 0), .bool false, .int .i64 (cmpZ aq.d 0), .bool false], zc (aq.a * k), zc (aq.b * k), zc (aq.c * k), zc (aq.d * k), pc a, pc (pt (Z4.mk (aq.a * k) (aq.b * k) (aq.c * k) (aq.d * k))), [.bool true], pc a, [.bool true, .int .i64 (cmpP a (pt (Z4.mk (aq.a * k) (aq.b * k) (aq.c * k) (aq.d * k)))), .bool true], vc (pt (Z4.mk (aq.a * k) (aq.b * k) (aq.c * k) (aq.d * k))), vc a, [.bool true]]) [.b false, .b false, .b false, .b false, .b false, .b true, .b true, .b true] [.ga 0 8, .ga 8 2] 10 (.one (.ca 73)) (.call 10 [] (.one (.ca 10)) [] :: .op1 .not (.pa 10) 11 :: .isB 11 false :: .call 11 [.c (.p (.slc 2 0 1 1))] (.one (.ca 12)) [(2049, .pa 0), (2050, .pa 1), (2051, .pa 2), (2052, .pa 3), (2053, .pa 4), (2054, .pa 5), (2055, .pa 6), (2056, .pa 7)] :: .isB 12 false :: .len (.pa 9) 13 :: .op2 false .gtr (.pa 13) (.p (.lit (.int .i64 4))) 14 :: .isB 14 false :: .call 36 [.ga 8 2] (.one (.ca 15)) [] :: .op2 false .eql (.pa 15) (.p (.lit (.int .i64 0))) 16 :: .isB 16 false :: .call 36 [.ga 6 2] (.one (.ca 17)) [] :: .op2 false .eql (.pa 17) (.p (.lit (.int .i64 0))) 18 :: .isB 18 false :: .call 37 [.ga 0 2, .ga 8 2] (.one (.ga 19 2)) [] :: .call 37 [.ga 2 2, .ga 8 2] (.one (.ga 21 2)) [] :: .call 37 [.ga 4 2, .ga 8 2] (.one (.ga 23 2)) [] :: .call 37 [.ga 6 2, .ga 8 2] (.one (.ga 25 2)) [] :: .call 13 [.ga 0 8] (.one (.ga 27 8)) [] :: .call 13 [.ga 19 8] (.one (.ga 35 8)) [] :: .eqs false [.b, .s, .b, .s, .b, .s, .b, .s] [.pa 35, .pa 36, .pa 37, .pa 38, .pa 39, .pa 40, .pa 41, .pa 42] [.pa 27, .pa 28, .pa 29, .pa 30, .pa 31, .pa 32, .pa 33, .pa 34] 43 :: .isB 43 true :: .call 13 [.ga 27 8] (.one (.ga 44 8)) [] :: .eqs false [.b, .s, .b, .s, .b, .s, .b, .s] [.pa 44, .pa 45, .pa 46, .pa 47, .pa 48, .pa 49, .pa 50, .pa 51] [.pa 27, .pa 28, .pa 29, .pa 30, .pa 31, .pa 32, .pa 33, .pa 34] 52 :: .isB 52 true :: .call 21 [.ga 0 8, .ga 19 8] (.one (.ca 53)) [] :: .op2 false .eql (.pa 53) (.p (.lit (.int .i64 0))) 54 :: .isB 54 true :: .call 15 [.ga 19 8] (.one (.ga 55 9)) [] :: .call 15 [.ga 0 8] (.one (.ga 64 9)) [] :: .eqs false [.b, .s, .s, .b, .s, .s, .b, .s, .s] [.pa 55, .pa 56, .pa 57, .pa 58, .pa 59, .pa 60, .pa 61, .pa 62, .pa 63] [.pa 64, .pa 65, .pa 66, .pa 67, .pa 68, .pa 69, .pa 70, .pa 71, .pa 72] 73 :: []) Tryz.func9 (by kernel_rfl) rfl (by kernel_rfl) rfl (by kernel_rfl)
    ⟨fun γ w' bw _ => alive_any w' (hT.later bw),
     congrArg (fun z => some (Value.bool z)) (by first | rfl | assumption | decide | simp [*] : (!true) = false),
     rfl,
     fun γ w' _ hm => great1_no a_0 a_1 a_2 a_3 a_4 a_5 a_6 a_7 w' (γ 2) (SX.mem_at (b := 2) (l := [.pa 0, .pa 1, .pa 2, .pa 3, .pa 4, .pa 5, .pa 6, .pa 7]) hm rfl) ha_1 ha_3 ha_5 ha_7,
     rfl,
     ⟨_, rfl, rfl⟩,
     congrArg (fun z => some (Value.bool z)) (decide_eq_false (by omega) : decide ((k_1.size : Int) > (4 : Int)) = false),
     rfl,
     fun γ w' _ _ => jSign hk (by decide) w',
     congrArg (fun z => some (Value.bool z)) (by rw [cmpZ_eq0]; exact decide_eq_false h1 : ((cmpZ k 0) == (0 : Int)) = false),
     rfl,
     fun γ w' _ _ => jSign haq.zd (by decide) w',
     congrArg (fun z => some (Value.bool z)) (by rw [cmpZ_eq0]; exact decide_eq_false h2 : ((cmpZ aq.d 0) == (0 : Int)) = false),
     rfl,
     fun γ w' _ _ => jMul haq.za (by decide) hk (by decide) w',
     fun γ w' _ _ => jMul haq.zb (by decide) hk (by decide) w',
     fun γ w' _ _ => jMul haq.zc (by decide) hk (by decide) w',
     fun γ w' _ _ => jMul haq.zd (by decide) hk (by decide) w',
     fun γ w' bw _ => pNormalize ha (by decide) w' (hT.later bw),
     fun γ w' bw _ => pNormalize (IsF.pt (IsF.mk (IsZ.can f1) (IsZ.can f2) (IsZ.can f3) (IsZ.can f4))) (by decide) w' (hT.later bw),
     ⟨rfl, rfl, eqv_yes (eqL_P (pt (Z4.mk (aq.a * k) (aq.b * k) (aq.c * k) (aq.d * k))) a) (es) rfl⟩,
     rfl,
     fun γ w' bw _ => pNormalize (IsP.can f5) (by decide) w' (hT.later bw),
     ⟨rfl, rfl, eqv_yes (eqL_P a a) (rfl) rfl⟩,
     rfl,
     fun γ w' _ _ => pCmp ha (by decide) (IsF.pt (IsF.mk (IsZ.can f1) (IsZ.can f2) (IsZ.can f3) (IsZ.can f4))) (by decide) w',
     congrArg (fun z => some (Value.bool z)) (by rw [es, cmpP_self]; rfl : ((cmpP a (pt (Z4.mk (aq.a * k) (aq.b * k) (aq.c * k) (aq.d * k)))) == (0 : Int)) = true),
     rfl,
     fun γ w' bw _ => pCoords (IsF.pt (IsF.mk (IsZ.can f1) (IsZ.can f2) (IsZ.can f3) (IsZ.can f4))) (by decide) w' (hT.later bw),
     fun γ w' bw _ => pCoords ha (by decide) w' (hT.later bw),
     ⟨rfl, rfl, eqv_yes (eqL_V (pt (Z4.mk (aq.a * k) (aq.b * k) (aq.c * k) (aq.d * k))) a) (es) rfl⟩⟩
theorem Scaling_any (a_0 : Bool) (a_1 : ByteArray) (a_2 : Bool) (a_3 : ByteArray) (a_4 : Bool) (a_5 : ByteArray) (a_6 : Bool) (a_7 : ByteArray) (k_0 : Bool) (k_1 : ByteArray) (w : World) (hT : TabC w) :
    Calls Tryz.prog 9 #[.agg #[.bool a_0, .string a_1, .bool a_2, .string a_3, .bool a_4, .string a_5, .bool a_6, .string a_7], .agg #[.bool k_0, .string k_1]] w fun e w' => e = .returned (.bool true) ∧ Below w.heap.size w w' := by
  by_cases g0 : (a_1.size ≤ 6 ∧ a_3.size ≤ 6 ∧ a_5.size ≤ 6 ∧ a_7.size ≤ 6)
  rotate_left
  · exact Scaling_g0 a_0 a_1 a_2 a_3 a_4 a_5 a_6 a_7 k_0 k_1 w hT  g0
  obtain ⟨ha_1, ha_3, ha_5, ha_7⟩ := g0
  by_cases hk_1 : k_1.size ≤ 4
  · by_cases h1 : iv k_0 k_1 = 0
    · exact Scaling_g2 a_0 a_1 a_2 a_3 a_4 a_5 a_6 a_7 k_0 k_1 w hT ha_1 ha_3 ha_5 ha_7 hk_1 h1
    · by_cases h2 : iv a_6 a_7 = 0
      · exact Scaling_g3 a_0 a_1 a_2 a_3 a_4 a_5 a_6 a_7 k_0 k_1 w hT ha_1 ha_3 ha_5 ha_7 hk_1 h1 h2
      · exact Scaling_m a_0 a_1 a_2 a_3 a_4 a_5 a_6 a_7 k_0 k_1 w hT ha_1 ha_3 ha_5 ha_7 hk_1 h1 h2
  · exact Scaling_g1 a_0 a_1 a_2 a_3 a_4 a_5 a_6 a_7 k_0 k_1 w hT ha_1 ha_3 ha_5 ha_7 hk_1
end Go.Proofs.YtdgppfccolhaeaaGreatDoor
