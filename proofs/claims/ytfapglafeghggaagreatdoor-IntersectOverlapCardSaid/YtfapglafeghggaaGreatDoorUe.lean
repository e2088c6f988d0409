/- The examples of layer 6's chapter. -/
import Derived.Test.YtfapglafeghggaaGreatDoorUd
set_option linter.unusedVariables false
set_option linter.unusedSimpArgs false
namespace Go.Proofs.YtfapglafeghggaaGreatDoor
open Go.RowKit NM SX
theorem can6_0_0_0 : can4 (P3.mk 0 0 0) = (Z4.mk 0 0 0 1) := by decide +kernel
theorem zat6_0_0_0 : Pk (P3.mk 0 0 0) 1 := by
  unfold Pk
  rw [can6_0_0_0]
  exact ⟨by decide +kernel, by decide +kernel, by decide +kernel, by decide +kernel⟩
theorem at6_0_0_0 (w : World) :
    Calls Tryz.prog 31 #[.int .i64 0, .int .i64 0, .int .i64 0] w fun e w' => e = .returned (PV (P3.mk 0 0 0)) ∧ Below w.heap.size w w' := by
  have f1 : Zk (0 : Int) 8 := mg_size_le (k := 8) (by first | decide | omega)
  have f2 : Zk (1 : Int) 8 := mg_size_le (k := 8) (by first | decide | omega)
  have H := SX.runX (w := w) (List.flatten [[.bool (sg (0 : Int)), .string (mg (0 : Int)), .bool (sg (0 : Int)), .string (mg (0 : Int)), .bool (sg (0 : Int)), .string (mg (0 : Int))], zc (1 : Int)]) [] [] [.c (.p (.lit (.int .i64 (0)))), .c (.p (.lit (.int .i64 (0)))), .c (.p (.lit (.int .i64 (0))))] 0 [] (.one (.ga 0 8)) [.call 26 [.c (.p (.lit (.int .i64 0)))] (.one (.ga 0 2)) [], .call 26 [.c (.p (.lit (.int .i64 0)))] (.one (.ga 2 2)) [], .call 26 [.c (.p (.lit (.int .i64 0)))] (.one (.ga 4 2)) [], .call 26 [.c (.p (.lit (.int .i64 1)))] (.one (.ga 6 2)) []] ⟨rfl, fun b t l h => by simp at h⟩ Tryz.func31 (by kernel_rfl) rfl rfl (by kernel_rfl)
    ⟨fun γ w' _ _ => FromInt64_any 0 w' (by first | decide | omega) (by first | decide | omega),
     fun γ w' _ _ => FromInt64_any 0 w' (by first | decide | omega) (by first | decide | omega),
     fun γ w' _ _ => FromInt64_any 0 w' (by first | decide | omega) (by first | decide | omega),
     fun γ w' _ _ => FromInt64_any 1 w' (by first | decide | omega) (by first | decide | omega)⟩
  rw [show PV (P3.mk 0 0 0) = FV (Z4.mk 0 0 0 1) by rw [PV, can6_0_0_0]]
  exact H
theorem can6_1_1_2 : can4 (P3.mk 1 1 2) = (Z4.mk 1 1 2 1) := by decide +kernel
theorem zat6_1_1_2 : Pk (P3.mk 1 1 2) 1 := by
  unfold Pk
  rw [can6_1_1_2]
  exact ⟨by decide +kernel, by decide +kernel, by decide +kernel, by decide +kernel⟩
theorem at6_1_1_2 (w : World) :
    Calls Tryz.prog 31 #[.int .i64 1, .int .i64 1, .int .i64 2] w fun e w' => e = .returned (PV (P3.mk 1 1 2)) ∧ Below w.heap.size w w' := by
  have f1 : Zk (1 : Int) 8 := mg_size_le (k := 8) (by first | decide | omega)
  have f2 : Zk (2 : Int) 8 := mg_size_le (k := 8) (by first | decide | omega)
  have H := SX.runX (w := w) (List.flatten [zc (1 : Int), zc (1 : Int), zc (2 : Int), zc (1 : Int)]) [] [] [.c (.p (.lit (.int .i64 (1)))), .c (.p (.lit (.int .i64 (1)))), .c (.p (.lit (.int .i64 (2))))] 0 [] (.one (.ga 0 8)) [.call 26 [.c (.p (.lit (.int .i64 1)))] (.one (.ga 0 2)) [], .call 26 [.c (.p (.lit (.int .i64 1)))] (.one (.ga 2 2)) [], .call 26 [.c (.p (.lit (.int .i64 2)))] (.one (.ga 4 2)) [], .call 26 [.c (.p (.lit (.int .i64 1)))] (.one (.ga 6 2)) []] ⟨rfl, fun b t l h => by simp at h⟩ Tryz.func31 (by kernel_rfl) rfl rfl (by kernel_rfl)
    ⟨fun γ w' _ _ => FromInt64_any 1 w' (by first | decide | omega) (by first | decide | omega),
     fun γ w' _ _ => FromInt64_any 1 w' (by first | decide | omega) (by first | decide | omega),
     fun γ w' _ _ => FromInt64_any 2 w' (by first | decide | omega) (by first | decide | omega),
     fun γ w' _ _ => FromInt64_any 1 w' (by first | decide | omega) (by first | decide | omega)⟩
  rw [show PV (P3.mk 1 1 2) = FV (Z4.mk 1 1 2 1) by rw [PV, can6_1_1_2]]
  exact H
theorem can6_2_3_4 : can4 (P3.mk 2 3 4) = (Z4.mk 2 3 4 1) := by decide +kernel
theorem zat6_2_3_4 : Pk (P3.mk 2 3 4) 1 := by
  unfold Pk
  rw [can6_2_3_4]
  exact ⟨by decide +kernel, by decide +kernel, by decide +kernel, by decide +kernel⟩
theorem at6_2_3_4 (w : World) :
    Calls Tryz.prog 31 #[.int .i64 2, .int .i64 3, .int .i64 4] w fun e w' => e = .returned (PV (P3.mk 2 3 4)) ∧ Below w.heap.size w w' := by
  have f1 : Zk (2 : Int) 8 := mg_size_le (k := 8) (by first | decide | omega)
  have f2 : Zk (3 : Int) 8 := mg_size_le (k := 8) (by first | decide | omega)
  have f3 : Zk (4 : Int) 8 := mg_size_le (k := 8) (by first | decide | omega)
  have f4 : Zk (1 : Int) 8 := mg_size_le (k := 8) (by first | decide | omega)
  have H := SX.runX (w := w) (List.flatten [zc (2 : Int), zc (3 : Int), zc (4 : Int), zc (1 : Int)]) [] [] [.c (.p (.lit (.int .i64 (2)))), .c (.p (.lit (.int .i64 (3)))), .c (.p (.lit (.int .i64 (4))))] 0 [] (.one (.ga 0 8)) [.call 26 [.c (.p (.lit (.int .i64 2)))] (.one (.ga 0 2)) [], .call 26 [.c (.p (.lit (.int .i64 3)))] (.one (.ga 2 2)) [], .call 26 [.c (.p (.lit (.int .i64 4)))] (.one (.ga 4 2)) [], .call 26 [.c (.p (.lit (.int .i64 1)))] (.one (.ga 6 2)) []] ⟨rfl, fun b t l h => by simp at h⟩ Tryz.func31 (by kernel_rfl) rfl rfl (by kernel_rfl)
    ⟨fun γ w' _ _ => FromInt64_any 2 w' (by first | decide | omega) (by first | decide | omega),
     fun γ w' _ _ => FromInt64_any 3 w' (by first | decide | omega) (by first | decide | omega),
     fun γ w' _ _ => FromInt64_any 4 w' (by first | decide | omega) (by first | decide | omega),
     fun γ w' _ _ => FromInt64_any 1 w' (by first | decide | omega) (by first | decide | omega)⟩
  rw [show PV (P3.mk 2 3 4) = FV (Z4.mk 2 3 4 1) by rw [PV, can6_2_3_4]]
  exact H
theorem flat6_1_0_0_2 (w : World) :
    Calls Tryz.prog 30 #[.int .i64 1, .int .i64 0, .int .i64 0, .int .i64 2] w fun e w' => e = .returned (FV (Z4.mk 1 0 0 2)) ∧ Below w.heap.size w w' := by
  have f1 : Zk (1 : Int) 8 := mg_size_le (k := 8) (by first | decide | omega)
  have f2 : Zk (0 : Int) 8 := mg_size_le (k := 8) (by first | decide | omega)
  have f3 : Zk (2 : Int) 8 := mg_size_le (k := 8) (by first | decide | omega)
  exact SX.runX (w := w) (List.flatten [zc (1 : Int), [.bool (sg (0 : Int)), .string (mg (0 : Int)), .bool (sg (0 : Int)), .string (mg (0 : Int))], zc (2 : Int)]) [] [] [.c (.p (.lit (.int .i64 (1)))), .c (.p (.lit (.int .i64 (0)))), .c (.p (.lit (.int .i64 (0)))), .c (.p (.lit (.int .i64 (2))))] 0 [] (.one (.ga 0 8)) [.call 26 [.c (.p (.lit (.int .i64 1)))] (.one (.ga 0 2)) [], .call 26 [.c (.p (.lit (.int .i64 0)))] (.one (.ga 2 2)) [], .call 26 [.c (.p (.lit (.int .i64 0)))] (.one (.ga 4 2)) [], .call 26 [.c (.p (.lit (.int .i64 2)))] (.one (.ga 6 2)) []] ⟨rfl, fun b t l h => by simp at h⟩ Tryz.func30 (by kernel_rfl) rfl rfl (by kernel_rfl)
    ⟨fun γ w' _ _ => FromInt64_any 1 w' (by first | decide | omega) (by first | decide | omega),
     fun γ w' _ _ => FromInt64_any 0 w' (by first | decide | omega) (by first | decide | omega),
     fun γ w' _ _ => FromInt64_any 0 w' (by first | decide | omega) (by first | decide | omega),
     fun γ w' _ _ => FromInt64_any 2 w' (by first | decide | omega) (by first | decide | omega)⟩
theorem flat6_0_1_0_3 (w : World) :
    Calls Tryz.prog 30 #[.int .i64 0, .int .i64 1, .int .i64 0, .int .i64 3] w fun e w' => e = .returned (FV (Z4.mk 0 1 0 3)) ∧ Below w.heap.size w w' := by
  have f1 : Zk (0 : Int) 8 := mg_size_le (k := 8) (by first | decide | omega)
  have f2 : Zk (1 : Int) 8 := mg_size_le (k := 8) (by first | decide | omega)
  have f3 : Zk (3 : Int) 8 := mg_size_le (k := 8) (by first | decide | omega)
  exact SX.runX (w := w) (List.flatten [[.bool (sg (0 : Int)), .string (mg (0 : Int))], zc (1 : Int), [.bool (sg (0 : Int)), .string (mg (0 : Int))], zc (3 : Int)]) [] [] [.c (.p (.lit (.int .i64 (0)))), .c (.p (.lit (.int .i64 (1)))), .c (.p (.lit (.int .i64 (0)))), .c (.p (.lit (.int .i64 (3))))] 0 [] (.one (.ga 0 8)) [.call 26 [.c (.p (.lit (.int .i64 0)))] (.one (.ga 0 2)) [], .call 26 [.c (.p (.lit (.int .i64 1)))] (.one (.ga 2 2)) [], .call 26 [.c (.p (.lit (.int .i64 0)))] (.one (.ga 4 2)) [], .call 26 [.c (.p (.lit (.int .i64 3)))] (.one (.ga 6 2)) []] ⟨rfl, fun b t l h => by simp at h⟩ Tryz.func30 (by kernel_rfl) rfl rfl (by kernel_rfl)
    ⟨fun γ w' _ _ => FromInt64_any 0 w' (by first | decide | omega) (by first | decide | omega),
     fun γ w' _ _ => FromInt64_any 1 w' (by first | decide | omega) (by first | decide | omega),
     fun γ w' _ _ => FromInt64_any 0 w' (by first | decide | omega) (by first | decide | omega),
     fun γ w' _ _ => FromInt64_any 3 w' (by first | decide | omega) (by first | decide | omega)⟩
theorem flat6_0_0_1_4 (w : World) :
    Calls Tryz.prog 30 #[.int .i64 0, .int .i64 0, .int .i64 1, .int .i64 4] w fun e w' => e = .returned (FV (Z4.mk 0 0 1 4)) ∧ Below w.heap.size w w' := by
  have f1 : Zk (0 : Int) 8 := mg_size_le (k := 8) (by first | decide | omega)
  have f2 : Zk (1 : Int) 8 := mg_size_le (k := 8) (by first | decide | omega)
  have f3 : Zk (4 : Int) 8 := mg_size_le (k := 8) (by first | decide | omega)
  exact SX.runX (w := w) (List.flatten [[.bool (sg (0 : Int)), .string (mg (0 : Int)), .bool (sg (0 : Int)), .string (mg (0 : Int))], zc (1 : Int), zc (4 : Int)]) [] [] [.c (.p (.lit (.int .i64 (0)))), .c (.p (.lit (.int .i64 (0)))), .c (.p (.lit (.int .i64 (1)))), .c (.p (.lit (.int .i64 (4))))] 0 [] (.one (.ga 0 8)) [.call 26 [.c (.p (.lit (.int .i64 0)))] (.one (.ga 0 2)) [], .call 26 [.c (.p (.lit (.int .i64 0)))] (.one (.ga 2 2)) [], .call 26 [.c (.p (.lit (.int .i64 1)))] (.one (.ga 4 2)) [], .call 26 [.c (.p (.lit (.int .i64 4)))] (.one (.ga 6 2)) []] ⟨rfl, fun b t l h => by simp at h⟩ Tryz.func30 (by kernel_rfl) rfl rfl (by kernel_rfl)
    ⟨fun γ w' _ _ => FromInt64_any 0 w' (by first | decide | omega) (by first | decide | omega),
     fun γ w' _ _ => FromInt64_any 0 w' (by first | decide | omega) (by first | decide | omega),
     fun γ w' _ _ => FromInt64_any 1 w' (by first | decide | omega) (by first | decide | omega),
     fun γ w' _ _ => FromInt64_any 4 w' (by first | decide | omega) (by first | decide | omega)⟩
theorem flat6_0_0_1_1 (w : World) :
    Calls Tryz.prog 30 #[.int .i64 0, .int .i64 0, .int .i64 1, .int .i64 1] w fun e w' => e = .returned (FV (Z4.mk 0 0 1 1)) ∧ Below w.heap.size w w' := by
  have f1 : Zk (0 : Int) 8 := mg_size_le (k := 8) (by first | decide | omega)
  have f2 : Zk (1 : Int) 8 := mg_size_le (k := 8) (by first | decide | omega)
  exact SX.runX (w := w) (List.flatten [[.bool (sg (0 : Int)), .string (mg (0 : Int)), .bool (sg (0 : Int)), .string (mg (0 : Int))], zc (1 : Int), zc (1 : Int)]) [] [] [.c (.p (.lit (.int .i64 (0)))), .c (.p (.lit (.int .i64 (0)))), .c (.p (.lit (.int .i64 (1)))), .c (.p (.lit (.int .i64 (1))))] 0 [] (.one (.ga 0 8)) [.call 26 [.c (.p (.lit (.int .i64 0)))] (.one (.ga 0 2)) [], .call 26 [.c (.p (.lit (.int .i64 0)))] (.one (.ga 2 2)) [], .call 26 [.c (.p (.lit (.int .i64 1)))] (.one (.ga 4 2)) [], .call 26 [.c (.p (.lit (.int .i64 1)))] (.one (.ga 6 2)) []] ⟨rfl, fun b t l h => by simp at h⟩ Tryz.func30 (by kernel_rfl) rfl rfl (by kernel_rfl)
    ⟨fun γ w' _ _ => FromInt64_any 0 w' (by first | decide | omega) (by first | decide | omega),
     fun γ w' _ _ => FromInt64_any 0 w' (by first | decide | omega) (by first | decide | omega),
     fun γ w' _ _ => FromInt64_any 1 w' (by first | decide | omega) (by first | decide | omega),
     fun γ w' _ _ => FromInt64_any 1 w' (by first | decide | omega) (by first | decide | omega)⟩
theorem form6_n {ux0 : Value} {x0 : Z4} {kx0 : Nat} (hx0 : IsF ux0 x0 kx0) (lx0 : kx0 ≤ 300000) (w : World) (hf : ¬ flatF x0) :
    Calls Tryz.prog 10 #[ux0] w fun e w' => e = .returned (FV (prim x0)) ∧ Below w.heap.size w w' := by
  replace hx0 := hx0.up lx0
  have zx0 := hx0.sz
  obtain ⟨x00, x01, x02, x03, x04, x05, x06, x07, rfl, ex00, sx01, ex01, sx03, ex02, sx05, ex03, sx07⟩ := id hx0
  have wx00 : IsZ (.agg #[.bool x00, .string x01]) x0.a 300000 := ⟨x00, x01, rfl, ex00, sx01⟩
  have zx00 := wx00.sz
  have wx01 : IsZ (.agg #[.bool x02, .string x03]) x0.b 300000 := ⟨x02, x03, rfl, ex01, sx03⟩
  have zx01 := wx01.sz
  have wx02 : IsZ (.agg #[.bool x04, .string x05]) x0.c 300000 := ⟨x04, x05, rfl, ex02, sx05⟩
  have zx02 := wx02.sz
  have wx03 : IsZ (.agg #[.bool x06, .string x07]) x0.d 300000 := ⟨x06, x07, rfl, ex03, sx07⟩
  have zx03 := wx03.sz
  have f1 : Fk (prim x0) 300000 := Fk.up ((Fk.prim zx0)) (by decide)
  exact SX.run (w := w) (List.flatten [[.bool x00, .string x01, .bool x02, .string x03, .bool x04, .string x05, .bool x06, .string x07], fc (prim x0), [.bool true]]) [] [.ga 0 8] 8 (.one (.ga 8 8)) [.call 29 [.ga 0 8] (.tup [.ga 8 8, .ca 16]) []] Tryz.func10 (by kernel_rfl) rfl (by kernel_rfl) rfl (by kernel_rfl)
    (SX.All.one (fun γ w' _ _ => by have h := v5Norm_any hx0 (by decide) w'; rw [normV, if_neg hf] at h; exact h))
theorem can6_half : can4 (P3.mk (1/2) (1/2) 1) = (Z4.mk 1 1 2 2) := by decide +kernel
theorem fixed6_any (w : World) (hT : TabC w) :
    Calls Tryz.prog 9 #[] w fun e w' => e = .returned (.bool true) ∧ Below w.heap.size w w' := by
  have f1 : Fk (Z4.mk 1 0 0 2) 1 := Fk.up ((⟨by decide +kernel, by decide +kernel, by decide +kernel, by decide +kernel⟩ : Fk (Z4.mk 1 0 0 2) 1)) (by decide)
  have f2 : Fk (Z4.mk 0 1 0 3) 1 := Fk.up ((⟨by decide +kernel, by decide +kernel, by decide +kernel, by decide +kernel⟩ : Fk (Z4.mk 0 1 0 3) 1)) (by decide)
  have f3 : Fk (Z4.mk 0 0 1 4) 1 := Fk.up ((⟨by decide +kernel, by decide +kernel, by decide +kernel, by decide +kernel⟩ : Fk (Z4.mk 0 0 1 4) 1)) (by decide)
  have f4 : Pk (P3.mk 2 3 4) 1 := Pk.up (zat6_2_3_4) (by decide)
  have f5 : Fk (Z4.mk 0 0 1 1) 1 := Fk.up ((⟨by decide +kernel, by decide +kernel, by decide +kernel, by decide +kernel⟩ : Fk (Z4.mk 0 0 1 1) 1)) (by decide)
  have f6 : Pk (P3.mk 0 0 0) 1 := Pk.up (zat6_0_0_0) (by decide)
  have f7 : Pk (P3.mk 1 1 2) 1 := Pk.up (zat6_1_1_2) (by decide)
  have f8 : Pk (P3.mk (1/2) (1/2) 1) 2 := Pk.up ((show Pk (P3.mk (1/2) (1/2) 1) 2 by unfold Pk; rw [can6_half]; exact ⟨by decide +kernel, by decide +kernel, by decide +kernel, by decide +kernel⟩)) (by decide)
  have f9 : Zk (1 : Int) 8 := mg_size_le (k := 8) (by first | decide | omega)
  have f10 : Zk (2 : Int) 8 := mg_size_le (k := 8) (by first | decide | omega)
  have f11 : Fk (can4 (P3.mk (1/2) (1/2) 1)) 2 := Fk.up (f8) (by decide)
  exact SX.run (w := w) (List.flatten [fc (Z4.mk 1 0 0 2), fc (Z4.mk 0 1 0 3), fc (Z4.mk 0 0 1 4), pc (P3.mk 2 3 4), [.bool true], fc (Z4.mk 0 0 1 1), pc (P3.mk 0 0 0), pc (P3.mk 1 1 2), pc (P3.mk (1/2) (1/2) 1), [.bool true], pc (P3.mk 2 3 4), [.bool true], zc (1 : Int), zc (1 : Int), zc (2 : Int), zc (2 : Int), [.bool true]]) [.b true, .b true, .b true] [] 0 (.one (.ca 83)) [.call 30 [.c (.p (.lit (.int .i64 1))), .c (.p (.lit (.int .i64 0))), .c (.p (.lit (.int .i64 0))), .c (.p (.lit (.int .i64 2)))] (.one (.ga 0 8)) [], .call 30 [.c (.p (.lit (.int .i64 0))), .c (.p (.lit (.int .i64 1))), .c (.p (.lit (.int .i64 0))), .c (.p (.lit (.int .i64 3)))] (.one (.ga 8 8)) [], .call 30 [.c (.p (.lit (.int .i64 0))), .c (.p (.lit (.int .i64 0))), .c (.p (.lit (.int .i64 1))), .c (.p (.lit (.int .i64 4)))] (.one (.ga 16 8)) [], .call 11 [.ga 0 8, .ga 8 8, .ga 16 8] (.tup [.ga 24 8, .ca 32]) [], .call 30 [.c (.p (.lit (.int .i64 0))), .c (.p (.lit (.int .i64 0))), .c (.p (.lit (.int .i64 1))), .c (.p (.lit (.int .i64 1)))] (.one (.ga 33 8)) [], .call 31 [.c (.p (.lit (.int .i64 0))), .c (.p (.lit (.int .i64 0))), .c (.p (.lit (.int .i64 0)))] (.one (.ga 41 8)) [], .call 31 [.c (.p (.lit (.int .i64 1))), .c (.p (.lit (.int .i64 1))), .c (.p (.lit (.int .i64 2)))] (.one (.ga 49 8)) [], .call 15 [.ga 33 8, .ga 41 8, .ga 49 8] (.tup [.ga 57 8, .ca 65]) [], .isB 32 true, .isB 65 true, .call 31 [.c (.p (.lit (.int .i64 2))), .c (.p (.lit (.int .i64 3))), .c (.p (.lit (.int .i64 4)))] (.one (.ga 66 8)) [], .eqs false [.b, .s, .b, .s, .b, .s, .b, .s] [.pa 24, .pa 25, .pa 26, .pa 27, .pa 28, .pa 29, .pa 30, .pa 31] [.pa 66, .pa 67, .pa 68, .pa 69, .pa 70, .pa 71, .pa 72, .pa 73] 74, .isB 74 true, .call 26 [.c (.p (.lit (.int .i64 1)))] (.one (.ga 75 2)) [], .call 26 [.c (.p (.lit (.int .i64 1)))] (.one (.ga 77 2)) [], .call 26 [.c (.p (.lit (.int .i64 2)))] (.one (.ga 79 2)) [], .call 26 [.c (.p (.lit (.int .i64 2)))] (.one (.ga 81 2)) [], .eqs false [.b, .s, .b, .s, .b, .s, .b, .s] [.pa 57, .pa 58, .pa 59, .pa 60, .pa 61, .pa 62, .pa 63, .pa 64] [.pa 75, .pa 76, .pa 77, .pa 78, .pa 79, .pa 80, .pa 81, .pa 82] 83] Tryz.func9 (by kernel_rfl) rfl (by kernel_rfl) rfl (by kernel_rfl)
    ⟨fun γ w' _ _ => flat6_1_0_0_2 w',
     fun γ w' _ _ => flat6_0_1_0_3 w',
     fun γ w' _ _ => flat6_0_0_1_4 w',
     fun γ w' bw _ => by have h := inThree_any f1 (by decide) f2 (by decide) f3 (by decide) w' (hT.later bw) (by decide +kernel) (by decide +kernel) (by decide +kernel); rw [threeV, if_neg (by decide +kernel : ¬ detF (Z4.mk 1 0 0 2) (Z4.mk 0 1 0 3) (Z4.mk 0 0 1 4) = 0), (by decide +kernel : threeF (Z4.mk 1 0 0 2) (Z4.mk 0 1 0 3) (Z4.mk 0 0 1 4) = (P3.mk 2 3 4))] at h; exact h,
     fun γ w' _ _ => flat6_0_0_1_1 w',
     fun γ w' _ _ => at6_0_0_0 w',
     fun γ w' _ _ => at6_1_1_2 w',
     fun γ w' bw _ => by have h := inLine_any f5 (by decide) f6 (by decide) f7 (by decide) w' (hT.later bw) (by decide +kernel); rw [lineV, if_neg (by decide +kernel : ¬ byF (Z4.mk 0 0 1 1) (P3.mk 0 0 0) (P3.mk 1 1 2) = 0), (by decide +kernel : lineF (Z4.mk 0 0 1 1) (P3.mk 0 0 0) (P3.mk 1 1 2) = (P3.mk (1/2) (1/2) 1))] at h; exact h,
     rfl,
     rfl,
     fun γ w' _ _ => at6_2_3_4 w',
     ⟨rfl, rfl, eqv_yes (eqL_P (P3.mk 2 3 4) (P3.mk 2 3 4)) (by first | rfl | decide +kernel) rfl⟩,
     rfl,
     fun γ w' _ _ => FromInt64_any 1 w' (by first | decide | omega) (by first | decide | omega),
     fun γ w' _ _ => FromInt64_any 1 w' (by first | decide | omega) (by first | decide | omega),
     fun γ w' _ _ => FromInt64_any 2 w' (by first | decide | omega) (by first | decide | omega),
     fun γ w' _ _ => FromInt64_any 2 w' (by first | decide | omega) (by first | decide | omega),
     ⟨rfl, rfl, eqv_yes (eqL_F (can4 (P3.mk (1/2) (1/2) 1)) (Z4.mk (1 : Int) (1 : Int) (2 : Int) (2 : Int))) (by first | rfl | decide +kernel) rfl⟩⟩
end Go.Proofs.YtfapglafeghggaaGreatDoor
