/- The laws of layer 4 but PointStrings. -/
import Derived.Test.YtdgppfccolhaeaaGreatDoorPg
import Derived.Test.YtdgppfccolhaeaaGreatDoorPf
import Derived.Test.YtdgppfccolhaeaaGreatDoorPv
set_option linter.unusedVariables false
set_option linter.unusedSimpArgs false
namespace Go.Proofs.YtdgppfccolhaeaaGreatDoor
open Go.RowKit NM SX
theorem lrat (x0 : Int) (x1 : Int) (w : World) (l0 : -9223372036854775808 ≤ x0) (u0 : x0 ≤ 9223372036854775807) (l1 : -9223372036854775808 ≤ x1) (u1 : x1 ≤ 9223372036854775807) :
    Calls Tryz.prog 33 #[.int .i64 x0, .int .i64 x1] w fun e w' => e = .returned (QV (Rat.divInt x0 x1)) ∧ Below w.heap.size w w' := by
  have f1 : Zk (x0 : Int) 8 := mg_size_le (k := 8) (by first | decide | omega)
  have f2 : Zk (x1 : Int) 8 := mg_size_le (k := 8) (by first | decide | omega)
  have f3 : Rk (Rat.divInt (x0 : Int) (x1 : Int)) 8 := Rk.up (Is.divInt f1 f2) (by decide)
  exact SX.run (w := w) (List.flatten [[.int .i64 x0, .int .i64 x1], zc (x0 : Int), zc (x1 : Int), qc (Rat.divInt (x0 : Int) (x1 : Int)), [.bool (decide ((x1 : Int) ≠ 0))]]) [] [.ca 0, .ca 1] 2 (.one (.ga 6 3)) [.call 38 [.ca 0] (.one (.ga 2 2)) [], .call 38 [.ca 1] (.one (.ga 4 2)) [], .call 47 [.ga 2 2, .ga 4 2] (.tup [.ga 6 3, .ca 9]) []] Tryz.func33 (by kernel_rfl) rfl (by kernel_rfl) rfl (by kernel_rfl)
    ⟨fun γ w' _ _ => From_any x0 w' (by first | decide | omega) (by first | decide | omega),
     fun γ w' _ _ => From_any x1 w' (by first | decide | omega) (by first | decide | omega),
     fun γ w' _ _ => rMake (IsZ.can f1) (by decide) (IsZ.can f2) (by decide) w'⟩
theorem alive_any (w : World) (hT : TabC w) :
    Calls Tryz.prog 10 #[] w fun e w' => e = .returned (.bool true) ∧ Below w.heap.size w w' := by
  have f1 : Rk (Rat.divInt (1 : Int) (2 : Int)) 8 := Rk.up ((⟨by decide +kernel, by decide +kernel⟩ : Rk (Rat.divInt (1 : Int) (2 : Int)) 8)) (by decide)
  have f2 : Rk (Rat.divInt (1 : Int) (3 : Int)) 8 := Rk.up ((⟨by decide +kernel, by decide +kernel⟩ : Rk (Rat.divInt (1 : Int) (3 : Int)) 8)) (by decide)
  have f3 : Pk (P3.mk (Rat.divInt (1 : Int) (2 : Int)) (Rat.divInt (1 : Int) (3 : Int)) (0 : Rat)) 24 := Pk.up ((Pk.ofV (Vk.mk f1 f2 Rk.zero))) (by decide)
  have f4 : Pk (P3.mk (0 : Rat) (0 : Rat) (0 : Rat)) 3 := Pk.up ((Pk.ofV (Vk.mk Rk.zero Rk.zero Rk.zero))) (by decide)
  have f5 : Rk (Rat.divInt (1 : Int) (1 : Int)) 8 := Rk.up ((⟨by decide +kernel, by decide +kernel⟩ : Rk (Rat.divInt (1 : Int) (1 : Int)) 8)) (by decide)
  have f6 : Rk (Rat.divInt (2 : Int) (1 : Int)) 8 := Rk.up ((⟨by decide +kernel, by decide +kernel⟩ : Rk (Rat.divInt (2 : Int) (1 : Int)) 8)) (by decide)
  have f7 : Rk (Rat.divInt (3 : Int) (1 : Int)) 8 := Rk.up ((⟨by decide +kernel, by decide +kernel⟩ : Rk (Rat.divInt (3 : Int) (1 : Int)) 8)) (by decide)
  have f8 : Pk (P3.mk (Rat.divInt (1 : Int) (1 : Int)) (Rat.divInt (2 : Int) (1 : Int)) (Rat.divInt (3 : Int) (1 : Int))) 24 := Pk.up ((Pk.ofV (Vk.mk f5 f6 f7))) (by decide)
  have f9 : Pk (lerp (P3.mk (0 : Rat) (0 : Rat) (0 : Rat)) (P3.mk (Rat.divInt (1 : Int) (1 : Int)) (Rat.divInt (2 : Int) (1 : Int)) (Rat.divInt (3 : Int) (1 : Int))) (Rat.divInt (1 : Int) (2 : Int))) 120 := Pk.up ((Pk.lerp f4 f8 f1)) (by decide)
  have f10 : Zk (3 : Int) 8 := mg_size_le (k := 8) (by first | decide | omega)
  have f11 : Zk (2 : Int) 8 := mg_size_le (k := 8) (by first | decide | omega)
  have f12 : Zk (6 : Int) 8 := mg_size_le (k := 8) (by first | decide | omega)
  have f13 : Fk (can4 (P3.mk (Rat.divInt (1 : Int) (2 : Int)) (Rat.divInt (1 : Int) (3 : Int)) (0 : Rat))) 24 := Fk.up (f3) (by decide)
  exact SX.run (w := w) (List.flatten [qc (Rat.divInt (1 : Int) (2 : Int)), qc (Rat.divInt (1 : Int) (3 : Int)), pc (P3.mk (Rat.divInt (1 : Int) (2 : Int)) (Rat.divInt (1 : Int) (3 : Int)) (0 : Rat)), pc (P3.mk (0 : Rat) (0 : Rat) (0 : Rat)), qc (Rat.divInt (1 : Int) (1 : Int)), qc (Rat.divInt (2 : Int) (1 : Int)), qc (Rat.divInt (3 : Int) (1 : Int)), pc (P3.mk (Rat.divInt (1 : Int) (1 : Int)) (Rat.divInt (2 : Int) (1 : Int)) (Rat.divInt (3 : Int) (1 : Int))), qc (Rat.divInt (1 : Int) (2 : Int)), pc (lerp (P3.mk (0 : Rat) (0 : Rat) (0 : Rat)) (P3.mk (Rat.divInt (1 : Int) (1 : Int)) (Rat.divInt (2 : Int) (1 : Int)) (Rat.divInt (3 : Int) (1 : Int))) (Rat.divInt (1 : Int) (2 : Int))), zc (3 : Int), zc (2 : Int), zc (6 : Int), [.bool true, .string (textP (lerp (P3.mk (0 : Rat) (0 : Rat) (0 : Rat)) (P3.mk (Rat.divInt (1 : Int) (1 : Int)) (Rat.divInt (2 : Int) (1 : Int)) (Rat.divInt (3 : Int) (1 : Int))) (Rat.divInt (1 : Int) (2 : Int)))), .bool true]]) [.b true] [] 0 (.one (.ca 58)) [.call 33 [.c (.p (.lit (.int .i64 1))), .c (.p (.lit (.int .i64 2)))] (.one (.ga 0 3)) [], .call 33 [.c (.p (.lit (.int .i64 1))), .c (.p (.lit (.int .i64 3)))] (.one (.ga 3 3)) [], .call 19 [.agg [.pa 0, .pa 1, .pa 2, .pa 3, .pa 4, .pa 5, .p (.lit (.bool false)), .p (.lit (.string ⟨#[]⟩)), .p (.lit (.string ⟨#[]⟩))]] (.one (.ga 6 8)) [], .call 19 [.agg [.p (.lit (.bool false)), .p (.lit (.string ⟨#[]⟩)), .p (.lit (.string ⟨#[]⟩)), .p (.lit (.bool false)), .p (.lit (.string ⟨#[]⟩)), .p (.lit (.string ⟨#[]⟩)), .p (.lit (.bool false)), .p (.lit (.string ⟨#[]⟩)), .p (.lit (.string ⟨#[]⟩))]] (.one (.ga 14 8)) [], .call 33 [.c (.p (.lit (.int .i64 1))), .c (.p (.lit (.int .i64 1)))] (.one (.ga 22 3)) [], .call 33 [.c (.p (.lit (.int .i64 2))), .c (.p (.lit (.int .i64 1)))] (.one (.ga 25 3)) [], .call 33 [.c (.p (.lit (.int .i64 3))), .c (.p (.lit (.int .i64 1)))] (.one (.ga 28 3)) [], .call 19 [.ga 22 9] (.one (.ga 31 8)) [], .call 33 [.c (.p (.lit (.int .i64 1))), .c (.p (.lit (.int .i64 2)))] (.one (.ga 39 3)) [], .call 25 [.ga 14 8, .ga 31 8, .ga 39 3] (.one (.ga 42 8)) [], .call 38 [.c (.p (.lit (.int .i64 3)))] (.one (.ga 50 2)) [], .call 38 [.c (.p (.lit (.int .i64 2)))] (.one (.ga 52 2)) [], .call 38 [.c (.p (.lit (.int .i64 6)))] (.one (.ga 54 2)) [], .eqs false [.b, .s, .b, .s, .b, .s, .b, .s] [.pa 6, .pa 7, .pa 8, .pa 9, .pa 10, .pa 11, .pa 12, .pa 13] [.pa 50, .pa 51, .pa 52, .pa 53, .p (.lit (.bool false)), .p (.lit (.string ⟨#[]⟩)), .pa 54, .pa 55] 56, .isB 56 true, .call 17 [.ga 42 8] (.one (.ca 57)) [], .op2 false .eql (.pa 57) (.p (.lit (.string ⟨#[40, 49, 47, 50, 44, 32, 49, 44, 32, 51, 47, 50, 41]⟩))) 58] Tryz.func10 (by kernel_rfl) rfl (by kernel_rfl) rfl (by kernel_rfl)
    ⟨fun γ w' _ _ => lrat 1 2 w' (by decide) (by decide) (by decide) (by decide),
     fun γ w' _ _ => lrat 1 3 w' (by decide) (by decide) (by decide) (by decide),
     fun γ w' bw _ => pFromCoords (IsV.mk (IsQ.can f1) (IsQ.can f2) IsQ.zero) (by decide) w' (hT.later bw),
     fun γ w' bw _ => pFromCoords (IsV.mk IsQ.zero IsQ.zero IsQ.zero) (by decide) w' (hT.later bw),
     fun γ w' _ _ => lrat 1 1 w' (by decide) (by decide) (by decide) (by decide),
     fun γ w' _ _ => lrat 2 1 w' (by decide) (by decide) (by decide) (by decide),
     fun γ w' _ _ => lrat 3 1 w' (by decide) (by decide) (by decide) (by decide),
     fun γ w' bw _ => pFromCoords (IsV.mk (IsQ.can f5) (IsQ.can f6) (IsQ.can f7)) (by decide) w' (hT.later bw),
     fun γ w' _ _ => lrat 1 2 w' (by decide) (by decide) (by decide) (by decide),
     fun γ w' bw _ => pLerp (IsP.can f4) (by decide) (IsP.can f8) (by decide) (IsQ.can f1) (by decide) w' (hT.later bw),
     fun γ w' _ _ => From_any 3 w' (by first | decide | omega) (by first | decide | omega),
     fun γ w' _ _ => From_any 2 w' (by first | decide | omega) (by first | decide | omega),
     fun γ w' _ _ => From_any 6 w' (by first | decide | omega) (by first | decide | omega),
     ⟨rfl, rfl, eqv_yes (eqL_F (can4 (P3.mk (Rat.divInt (1 : Int) (2 : Int)) (Rat.divInt (1 : Int) (3 : Int)) (0 : Rat))) (Z4.mk (3 : Int) (2 : Int) (0 : Int) (6 : Int))) (by decide +kernel) rfl⟩,
     rfl,
     fun γ w' bw _ => pFormat (IsP.can f9) (by decide) w' (hT.later bw),
     congrArg (fun z => some (Value.bool z)) (by decide +kernel : ((textP (lerp (P3.mk (0 : Rat) (0 : Rat) (0 : Rat)) (P3.mk (Rat.divInt (1 : Int) (1 : Int)) (Rat.divInt (2 : Int) (1 : Int)) (Rat.divInt (3 : Int) (1 : Int))) (Rat.divInt (1 : Int) (2 : Int)))).toList == (⟨#[40, 49, 47, 50, 44, 32, 49, 44, 32, 51, 47, 50, 41]⟩ : ByteArray).toList) = true)⟩
end Go.Proofs.YtdgppfccolhaeaaGreatDoor
