/- voussoirref07: numbers, the identity, translations, compositions. -/
import Derived.Test.YtodcomijjmobdaaGreatDoorYb
import Derived.Test.YtodcomijjmobdaaGreatDoorVr
import Derived.Test.YtodcomijjmobdaaGreatDoorPs
set_option linter.unusedVariables false
set_option linter.unusedSimpArgs false
namespace Go.Proofs.YtodcomijjmobdaaGreatDoor
open Go.RowKit NM SX
theorem rFrom_any (z : Int) (w : World) (h1 : -9223372036854775808 ≤ z) (h2 : z ≤ 9223372036854775807) :
    Calls Tryz.prog 124 #[.int .i64 z] w fun e w' => e = .returned (QV (z : Rat)) ∧ Below w.heap.size w w' := by
  have f1 : Zk (z : Int) 8 := mg_size_le (k := 8) (by first | decide | omega)
  have f2 : Zk (1 : Int) 1 := Zk.up ((mg_size_le (k := 1) (by decide))) (by decide)
  have f3 : Rk ((z : Int) : Rat) 8 := Rk.up ((Rk.int f1)) (by decide)
  have H := SX.run (w := w) (List.flatten [[.int .i64 z], zc (z : Int), zc (1 : Int), qc ((z : Int) : Rat), [.bool (decide ((1 : Int) ≠ 0))]]) [] [.ca 0] 1 (.one (.ga 5 3)) [.call 43 [.ca 0] (.one (.ga 1 2)) [], .call 128 [] (.one (.ga 3 2)) [], .call 80 [.ga 1 2, .ga 3 2] (.tup [.ga 5 3, .ca 8]) []] Tryz.func124 (by kernel_rfl) rfl (by kernel_rfl) rfl (by kernel_rfl)
    ⟨fun γ w' _ _ => From_any z w' (by first | decide | omega) (by first | decide | omega),
     fun γ w' _ _ => rone_any w',
     fun γ w' _ _ => by have h := rMake (IsZ.can f1) (by decide) (IsZ.can f2) (by decide) w'; rw [divInt_unit] at h; exact h⟩
  exact H
theorem u7num_0 (w : World) :
    Calls Tryz.prog 65 #[.int .i64 0] w fun e w' => e = .returned (QV (0 : Rat)) ∧ Below w.heap.size w w' := by
  have f1 : Rk (0 : Rat) 8 := ⟨by decide +kernel, by decide +kernel⟩
  have H := SX.runX (w := w) [.bool (sg (0 : Rat).num), .string (mg (0 : Rat).num), .string (dm (0 : Rat).den)] [] [] [.c (.p (.lit (.int .i64 (0))))] 0 [] (.one (.ga 0 3)) [.call 124 [.c (.p (.lit (.int .i64 0)))] (.one (.ga 0 3)) []] ⟨rfl, fun b t l h => by simp at h⟩ Tryz.func65 (by kernel_rfl) rfl rfl (by kernel_rfl)
    (SX.All.one (fun γ w' _ _ => rFrom_any 0 w' (by first | decide | omega) (by first | decide | omega)))
  exact H
theorem u7num_1 (w : World) :
    Calls Tryz.prog 65 #[.int .i64 1] w fun e w' => e = .returned (QV (1 : Rat)) ∧ Below w.heap.size w w' := by
  have f1 : Rk (1 : Rat) 8 := ⟨by decide +kernel, by decide +kernel⟩
  have H := SX.runX (w := w) (List.flatten [qc (1 : Rat)]) [] [] [.c (.p (.lit (.int .i64 (1))))] 0 [] (.one (.ga 0 3)) [.call 124 [.c (.p (.lit (.int .i64 1)))] (.one (.ga 0 3)) []] ⟨rfl, fun b t l h => by simp at h⟩ Tryz.func65 (by kernel_rfl) rfl rfl (by kernel_rfl)
    (SX.All.one (fun γ w' _ _ => rFrom_any 1 w' (by first | decide | omega) (by first | decide | omega)))
  exact H
theorem u7num_2 (w : World) :
    Calls Tryz.prog 65 #[.int .i64 2] w fun e w' => e = .returned (QV (2 : Rat)) ∧ Below w.heap.size w w' := by
  have f1 : Rk (2 : Rat) 8 := ⟨by decide +kernel, by decide +kernel⟩
  have H := SX.runX (w := w) (List.flatten [qc (2 : Rat)]) [] [] [.c (.p (.lit (.int .i64 (2))))] 0 [] (.one (.ga 0 3)) [.call 124 [.c (.p (.lit (.int .i64 2)))] (.one (.ga 0 3)) []] ⟨rfl, fun b t l h => by simp at h⟩ Tryz.func65 (by kernel_rfl) rfl rfl (by kernel_rfl)
    (SX.All.one (fun γ w' _ _ => rFrom_any 2 w' (by first | decide | omega) (by first | decide | omega)))
  exact H
theorem u7num_m1 (w : World) :
    Calls Tryz.prog 65 #[.int .i64 (-1)] w fun e w' => e = .returned (QV (-1 : Rat)) ∧ Below w.heap.size w w' := by
  have f1 : Rk (-1 : Rat) 8 := ⟨by decide +kernel, by decide +kernel⟩
  have H := SX.runX (w := w) (List.flatten [qc (-1 : Rat)]) [] [] [.c (.p (.lit (.int .i64 (-1))))] 0 [] (.one (.ga 0 3)) [.call 124 [.c (.p (.lit (.int .i64 (-1))))] (.one (.ga 0 3)) []] ⟨rfl, fun b t l h => by simp at h⟩ Tryz.func65 (by kernel_rfl) rfl rfl (by kernel_rfl)
    (SX.All.one (fun γ w' _ _ => rFrom_any (-1) w' (by first | decide | omega) (by first | decide | omega)))
  exact H
theorem u7Same (w : World) :
    Calls Tryz.prog 23 #[] w fun e w' => e = .returned (MV idM) ∧ Below w.heap.size w w' := by
  have f1 : Rk (0 : Rat) 1 := Rk.up ((⟨by decide +kernel, by decide +kernel⟩ : Rk (0 : Rat) 1)) (by decide)
  have f2 : Rk (1 : Rat) 1 := Rk.up ((⟨by decide +kernel, by decide +kernel⟩ : Rk (1 : Rat) 1)) (by decide)
  have H := SX.run (w := w) (List.flatten [(.bool (sg (0 : Rat).num) :: .string (mg (0 : Rat).num) :: .string (dm (0 : Rat).den) :: .bool (sg (0 : Rat).num) :: .string (mg (0 : Rat).num) :: .string (dm (0 : Rat).den) :: .bool (sg (0 : Rat).num) :: .string (mg (0 : Rat).num) :: .string (dm (0 : Rat).den) :: .bool (sg (0 : Rat).num) :: .string (mg (0 : Rat).num) :: .string (dm (0 : Rat).den) :: .bool (sg (0 : Rat).num) :: .string (mg (0 : Rat).num) :: .string (dm (0 : Rat).den) :: .bool (sg (0 : Rat).num) :: .string (mg (0 : Rat).num) :: .string (dm (0 : Rat).den) :: .bool (sg (0 : Rat).num) :: .string (mg (0 : Rat).num) :: .string (dm (0 : Rat).den) :: .bool (sg (0 : Rat).num) :: .string (mg (0 : Rat).num) :: .string (dm (0 : Rat).den) :: .bool (sg (0 : Rat).num) :: .string (mg (0 : Rat).num) :: .string (dm (0 : Rat).den) :: .bool (sg (0 : Rat).num) :: .string (mg (0 : Rat).num) :: .string (dm (0 : Rat).den) :: .bool (sg (0 : Rat).num) :: .string (mg (0 : Rat).num) :: .string (dm (0 : Rat).den) :: .bool (sg (0 : Rat).num) :: .string (mg (0 : Rat).num) :: .string (dm (0 : Rat).den) :: []), qc (1 : Rat), qc (1 : Rat), qc (1 : Rat)]) [] [] 0 (.one (.agg [.pa 36, .pa 37, .pa 38, .pa 3, .pa 4, .pa 5, .pa 6, .pa 7, .pa 8, .pa 9, .pa 10, .pa 11, .pa 12, .pa 13, .pa 14, .pa 39, .pa 40, .pa 41, .pa 18, .pa 19, .pa 20, .pa 21, .pa 22, .pa 23, .pa 24, .pa 25, .pa 26, .pa 27, .pa 28, .pa 29, .pa 42, .pa 43, .pa 44, .pa 33, .pa 34, .pa 35])) [.call 65 [.c (.p (.lit (.int .i64 0)))] (.one (.ga 0 3)) [], .call 65 [.c (.p (.lit (.int .i64 0)))] (.one (.ga 3 3)) [], .call 65 [.c (.p (.lit (.int .i64 0)))] (.one (.ga 6 3)) [], .call 65 [.c (.p (.lit (.int .i64 0)))] (.one (.ga 9 3)) [], .call 65 [.c (.p (.lit (.int .i64 0)))] (.one (.ga 12 3)) [], .call 65 [.c (.p (.lit (.int .i64 0)))] (.one (.ga 15 3)) [], .call 65 [.c (.p (.lit (.int .i64 0)))] (.one (.ga 18 3)) [], .call 65 [.c (.p (.lit (.int .i64 0)))] (.one (.ga 21 3)) [], .call 65 [.c (.p (.lit (.int .i64 0)))] (.one (.ga 24 3)) [], .call 65 [.c (.p (.lit (.int .i64 0)))] (.one (.ga 27 3)) [], .call 65 [.c (.p (.lit (.int .i64 0)))] (.one (.ga 30 3)) [], .call 65 [.c (.p (.lit (.int .i64 0)))] (.one (.ga 33 3)) [], .call 65 [.c (.p (.lit (.int .i64 1)))] (.one (.ga 36 3)) [], .call 65 [.c (.p (.lit (.int .i64 1)))] (.one (.ga 39 3)) [], .call 65 [.c (.p (.lit (.int .i64 1)))] (.one (.ga 42 3)) []] Tryz.func23 (by kernel_rfl) rfl (by kernel_rfl) rfl (by kernel_rfl)
    ⟨fun γ w' _ _ => by have h := u7num_0 w'; exact h,
     fun γ w' _ _ => by have h := u7num_0 w'; exact h,
     fun γ w' _ _ => by have h := u7num_0 w'; exact h,
     fun γ w' _ _ => by have h := u7num_0 w'; exact h,
     fun γ w' _ _ => by have h := u7num_0 w'; exact h,
     fun γ w' _ _ => by have h := u7num_0 w'; exact h,
     fun γ w' _ _ => by have h := u7num_0 w'; exact h,
     fun γ w' _ _ => by have h := u7num_0 w'; exact h,
     fun γ w' _ _ => by have h := u7num_0 w'; exact h,
     fun γ w' _ _ => by have h := u7num_0 w'; exact h,
     fun γ w' _ _ => by have h := u7num_0 w'; exact h,
     fun γ w' _ _ => by have h := u7num_0 w'; exact h,
     fun γ w' _ _ => by have h := u7num_1 w'; exact h,
     fun γ w' _ _ => by have h := u7num_1 w'; exact h,
     fun γ w' _ _ => by have h := u7num_1 w'; exact h⟩
  exact H
theorem u7Shift {ux0 : Value} {x0 : P3} {kx0 : Nat} (hx0 : IsV ux0 x0 kx0) (lx0 : kx0 ≤ 10000) (w : World) :
    Calls Tryz.prog 33 #[ux0] w fun e w' => e = .returned (MV (shiftM x0)) ∧ Below w.heap.size w w' := by
  replace hx0 := hx0.up lx0
  have zx0 := hx0.sz (by decide)
  obtain ⟨x00, x01, x02, x03, x04, x05, x06, x07, x08, rfl, ex00, sx01, sx02, ex01, sx04, sx05, ex02, sx07, sx08⟩ := id hx0
  have wx00 : IsQ (.agg #[.bool x00, .string x01, .string x02]) x0.x 10000 := ⟨x00, x01, x02, rfl, ex00, sx01, sx02⟩
  have zx00 := wx00.sz (by decide)
  have wx01 : IsQ (.agg #[.bool x03, .string x04, .string x05]) x0.y 10000 := ⟨x03, x04, x05, rfl, ex01, sx04, sx05⟩
  have zx01 := wx01.sz (by decide)
  have wx02 : IsQ (.agg #[.bool x06, .string x07, .string x08]) x0.z 10000 := ⟨x06, x07, x08, rfl, ex02, sx07, sx08⟩
  have zx02 := wx02.sz (by decide)
  have f1 : Mk idM 1 := Mk.up (Mk.idM) (by decide)
  have f2 : Rk x0.x 10000 := Rk.up (zx00) (by decide)
  have f3 : Rk x0.y 10000 := Rk.up (zx01) (by decide)
  have f4 : Rk x0.z 10000 := Rk.up (zx02) (by decide)
  have H := SX.run (w := w) (List.flatten [[.bool x00, .string x01, .string x02, .bool x03, .string x04, .string x05, .bool x06, .string x07, .string x08], mc idM, qc x0.x, qc x0.y, qc x0.z]) [] [.ga 0 9] 9 (.one (.agg [.pa 9, .pa 10, .pa 11, .pa 12, .pa 13, .pa 14, .pa 15, .pa 16, .pa 17, .pa 45, .pa 46, .pa 47, .pa 21, .pa 22, .pa 23, .pa 24, .pa 25, .pa 26, .pa 27, .pa 28, .pa 29, .pa 48, .pa 49, .pa 50, .pa 33, .pa 34, .pa 35, .pa 36, .pa 37, .pa 38, .pa 39, .pa 40, .pa 41, .pa 51, .pa 52, .pa 53])) [.call 23 [] (.one (.ga 9 36)) [], .call 71 [.ga 0 3] (.one (.ga 45 3)) [], .call 71 [.ga 3 3] (.one (.ga 48 3)) [], .call 71 [.ga 6 3] (.one (.ga 51 3)) []] Tryz.func33 (by kernel_rfl) rfl (by kernel_rfl) rfl (by kernel_rfl)
    ⟨fun γ w' _ _ => by have h := u7Same  w'; exact h,
     fun γ w' _ _ => rNorm wx00 (by decide) w',
     fun γ w' _ _ => rNorm wx01 (by decide) w',
     fun γ w' _ _ => rNorm wx02 (by decide) w'⟩
  exact H
set_option maxHeartbeats 4000000 in
set_option maxRecDepth 100000 in
theorem u7After {ux0 : Value} {x0 : M3} {kx0 : Nat} (hx0 : IsM ux0 x0 kx0) (lx0 : kx0 ≤ 4000) {ux1 : Value} {x1 : M3} {kx1 : Nat} (hx1 : IsM ux1 x1 kx1) (lx1 : kx1 ≤ 4000) (w : World) :
    Calls Tryz.prog 21 #[ux0, ux1] w fun e w' => e = .returned (MV (compM x0 x1)) ∧ Below w.heap.size w w' := by
  replace hx0 := hx0.up lx0
  have zx0 := hx0.sz (by decide)
  obtain ⟨x0b, x0s, rfl, wx00, wx01, wx02, wx03, wx04, wx05, wx06, wx07, wx08, wx09, wx010, wx011⟩ := id hx0
  replace hx1 := hx1.up lx1
  have zx1 := hx1.sz (by decide)
  obtain ⟨x1b, x1s, rfl, wx10, wx11, wx12, wx13, wx14, wx15, wx16, wx17, wx18, wx19, wx110, wx111⟩ := id hx1
  have f1 : Rk (0 : Rat) 1 := Rk.up ((⟨by decide +kernel, by decide +kernel⟩ : Rk (0 : Rat) 1)) (by decide)
  have f2 : Rk (x0.x.a * x1.x.a) 8000 := Rk.up (Is.mul zx0.1.1 zx1.1.1) (by decide)
  have f3 : Rk ((0 : Rat) + (x0.x.a * x1.x.a)) 8002 := Rk.up (Rk.add f1 f2) (by decide)
  have f4 : Rk (x0.x.b * x1.y.a) 8000 := Rk.up (Is.mul zx0.1.2.1 zx1.2.1.1) (by decide)
  have f5 : Rk (((0 : Rat) + (x0.x.a * x1.x.a)) + (x0.x.b * x1.y.a)) 16003 := Rk.up (Rk.add f3 f4) (by decide)
  have f6 : Rk (x0.x.c * x1.z.a) 8000 := Rk.up (Is.mul zx0.1.2.2.1 zx1.2.2.1) (by decide)
  have f7 : Rk ((((0 : Rat) + (x0.x.a * x1.x.a)) + (x0.x.b * x1.y.a)) + (x0.x.c * x1.z.a)) 24004 := Rk.up (Rk.add f5 f6) (by decide)
  have f8 : Rk (x0.x.a * x1.x.b) 8000 := Rk.up (Is.mul zx0.1.1 zx1.1.2.1) (by decide)
  have f9 : Rk ((0 : Rat) + (x0.x.a * x1.x.b)) 8002 := Rk.up (Rk.add f1 f8) (by decide)
  have f10 : Rk (x0.x.b * x1.y.b) 8000 := Rk.up (Is.mul zx0.1.2.1 zx1.2.1.2.1) (by decide)
  have f11 : Rk (((0 : Rat) + (x0.x.a * x1.x.b)) + (x0.x.b * x1.y.b)) 16003 := Rk.up (Rk.add f9 f10) (by decide)
  have f12 : Rk (x0.x.c * x1.z.b) 8000 := Rk.up (Is.mul zx0.1.2.2.1 zx1.2.2.2.1) (by decide)
  have f13 : Rk ((((0 : Rat) + (x0.x.a * x1.x.b)) + (x0.x.b * x1.y.b)) + (x0.x.c * x1.z.b)) 24004 := Rk.up (Rk.add f11 f12) (by decide)
  have f14 : Rk (x0.x.a * x1.x.c) 8000 := Rk.up (Is.mul zx0.1.1 zx1.1.2.2.1) (by decide)
  have f15 : Rk ((0 : Rat) + (x0.x.a * x1.x.c)) 8002 := Rk.up (Rk.add f1 f14) (by decide)
  have f16 : Rk (x0.x.b * x1.y.c) 8000 := Rk.up (Is.mul zx0.1.2.1 zx1.2.1.2.2.1) (by decide)
  have f17 : Rk (((0 : Rat) + (x0.x.a * x1.x.c)) + (x0.x.b * x1.y.c)) 16003 := Rk.up (Rk.add f15 f16) (by decide)
  have f18 : Rk (x0.x.c * x1.z.c) 8000 := Rk.up (Is.mul zx0.1.2.2.1 zx1.2.2.2.2.1) (by decide)
  have f19 : Rk ((((0 : Rat) + (x0.x.a * x1.x.c)) + (x0.x.b * x1.y.c)) + (x0.x.c * x1.z.c)) 24004 := Rk.up (Rk.add f17 f18) (by decide)
  have f20 : Rk x0.x.d 4000 := Rk.up (zx0.1.2.2.2) (by decide)
  have f21 : Rk (x0.x.a * x1.x.d) 8000 := Rk.up (Is.mul zx0.1.1 zx1.1.2.2.2) (by decide)
  have f22 : Rk (x0.x.d + (x0.x.a * x1.x.d)) 12001 := Rk.up (Rk.add f20 f21) (by decide)
  have f23 : Rk (x0.x.b * x1.y.d) 8000 := Rk.up (Is.mul zx0.1.2.1 zx1.2.1.2.2.2) (by decide)
  have f24 : Rk ((x0.x.d + (x0.x.a * x1.x.d)) + (x0.x.b * x1.y.d)) 20002 := Rk.up (Rk.add f22 f23) (by decide)
  have f25 : Rk (x0.x.c * x1.z.d) 8000 := Rk.up (Is.mul zx0.1.2.2.1 zx1.2.2.2.2.2) (by decide)
  have f26 : Rk (((x0.x.d + (x0.x.a * x1.x.d)) + (x0.x.b * x1.y.d)) + (x0.x.c * x1.z.d)) 28003 := Rk.up (Rk.add f24 f25) (by decide)
  have f27 : Rk (x0.y.a * x1.x.a) 8000 := Rk.up (Is.mul zx0.2.1.1 zx1.1.1) (by decide)
  have f28 : Rk ((0 : Rat) + (x0.y.a * x1.x.a)) 8002 := Rk.up (Rk.add f1 f27) (by decide)
  have f29 : Rk (x0.y.b * x1.y.a) 8000 := Rk.up (Is.mul zx0.2.1.2.1 zx1.2.1.1) (by decide)
  have f30 : Rk (((0 : Rat) + (x0.y.a * x1.x.a)) + (x0.y.b * x1.y.a)) 16003 := Rk.up (Rk.add f28 f29) (by decide)
  have f31 : Rk (x0.y.c * x1.z.a) 8000 := Rk.up (Is.mul zx0.2.1.2.2.1 zx1.2.2.1) (by decide)
  have f32 : Rk ((((0 : Rat) + (x0.y.a * x1.x.a)) + (x0.y.b * x1.y.a)) + (x0.y.c * x1.z.a)) 24004 := Rk.up (Rk.add f30 f31) (by decide)
  have f33 : Rk (x0.y.a * x1.x.b) 8000 := Rk.up (Is.mul zx0.2.1.1 zx1.1.2.1) (by decide)
  have f34 : Rk ((0 : Rat) + (x0.y.a * x1.x.b)) 8002 := Rk.up (Rk.add f1 f33) (by decide)
  have f35 : Rk (x0.y.b * x1.y.b) 8000 := Rk.up (Is.mul zx0.2.1.2.1 zx1.2.1.2.1) (by decide)
  have f36 : Rk (((0 : Rat) + (x0.y.a * x1.x.b)) + (x0.y.b * x1.y.b)) 16003 := Rk.up (Rk.add f34 f35) (by decide)
  have f37 : Rk (x0.y.c * x1.z.b) 8000 := Rk.up (Is.mul zx0.2.1.2.2.1 zx1.2.2.2.1) (by decide)
  have f38 : Rk ((((0 : Rat) + (x0.y.a * x1.x.b)) + (x0.y.b * x1.y.b)) + (x0.y.c * x1.z.b)) 24004 := Rk.up (Rk.add f36 f37) (by decide)
  have f39 : Rk (x0.y.a * x1.x.c) 8000 := Rk.up (Is.mul zx0.2.1.1 zx1.1.2.2.1) (by decide)
  have f40 : Rk ((0 : Rat) + (x0.y.a * x1.x.c)) 8002 := Rk.up (Rk.add f1 f39) (by decide)
  have f41 : Rk (x0.y.b * x1.y.c) 8000 := Rk.up (Is.mul zx0.2.1.2.1 zx1.2.1.2.2.1) (by decide)
  have f42 : Rk (((0 : Rat) + (x0.y.a * x1.x.c)) + (x0.y.b * x1.y.c)) 16003 := Rk.up (Rk.add f40 f41) (by decide)
  have f43 : Rk (x0.y.c * x1.z.c) 8000 := Rk.up (Is.mul zx0.2.1.2.2.1 zx1.2.2.2.2.1) (by decide)
  have f44 : Rk ((((0 : Rat) + (x0.y.a * x1.x.c)) + (x0.y.b * x1.y.c)) + (x0.y.c * x1.z.c)) 24004 := Rk.up (Rk.add f42 f43) (by decide)
  have f45 : Rk x0.y.d 4000 := Rk.up (zx0.2.1.2.2.2) (by decide)
  have f46 : Rk (x0.y.a * x1.x.d) 8000 := Rk.up (Is.mul zx0.2.1.1 zx1.1.2.2.2) (by decide)
  have f47 : Rk (x0.y.d + (x0.y.a * x1.x.d)) 12001 := Rk.up (Rk.add f45 f46) (by decide)
  have f48 : Rk (x0.y.b * x1.y.d) 8000 := Rk.up (Is.mul zx0.2.1.2.1 zx1.2.1.2.2.2) (by decide)
  have f49 : Rk ((x0.y.d + (x0.y.a * x1.x.d)) + (x0.y.b * x1.y.d)) 20002 := Rk.up (Rk.add f47 f48) (by decide)
  have f50 : Rk (x0.y.c * x1.z.d) 8000 := Rk.up (Is.mul zx0.2.1.2.2.1 zx1.2.2.2.2.2) (by decide)
  have f51 : Rk (((x0.y.d + (x0.y.a * x1.x.d)) + (x0.y.b * x1.y.d)) + (x0.y.c * x1.z.d)) 28003 := Rk.up (Rk.add f49 f50) (by decide)
  have f52 : Rk (x0.z.a * x1.x.a) 8000 := Rk.up (Is.mul zx0.2.2.1 zx1.1.1) (by decide)
  have f53 : Rk ((0 : Rat) + (x0.z.a * x1.x.a)) 8002 := Rk.up (Rk.add f1 f52) (by decide)
  have f54 : Rk (x0.z.b * x1.y.a) 8000 := Rk.up (Is.mul zx0.2.2.2.1 zx1.2.1.1) (by decide)
  have f55 : Rk (((0 : Rat) + (x0.z.a * x1.x.a)) + (x0.z.b * x1.y.a)) 16003 := Rk.up (Rk.add f53 f54) (by decide)
  have f56 : Rk (x0.z.c * x1.z.a) 8000 := Rk.up (Is.mul zx0.2.2.2.2.1 zx1.2.2.1) (by decide)
  have f57 : Rk ((((0 : Rat) + (x0.z.a * x1.x.a)) + (x0.z.b * x1.y.a)) + (x0.z.c * x1.z.a)) 24004 := Rk.up (Rk.add f55 f56) (by decide)
  have f58 : Rk (x0.z.a * x1.x.b) 8000 := Rk.up (Is.mul zx0.2.2.1 zx1.1.2.1) (by decide)
  have f59 : Rk ((0 : Rat) + (x0.z.a * x1.x.b)) 8002 := Rk.up (Rk.add f1 f58) (by decide)
  have f60 : Rk (x0.z.b * x1.y.b) 8000 := Rk.up (Is.mul zx0.2.2.2.1 zx1.2.1.2.1) (by decide)
  have f61 : Rk (((0 : Rat) + (x0.z.a * x1.x.b)) + (x0.z.b * x1.y.b)) 16003 := Rk.up (Rk.add f59 f60) (by decide)
  have f62 : Rk (x0.z.c * x1.z.b) 8000 := Rk.up (Is.mul zx0.2.2.2.2.1 zx1.2.2.2.1) (by decide)
  have f63 : Rk ((((0 : Rat) + (x0.z.a * x1.x.b)) + (x0.z.b * x1.y.b)) + (x0.z.c * x1.z.b)) 24004 := Rk.up (Rk.add f61 f62) (by decide)
  have f64 : Rk (x0.z.a * x1.x.c) 8000 := Rk.up (Is.mul zx0.2.2.1 zx1.1.2.2.1) (by decide)
  have f65 : Rk ((0 : Rat) + (x0.z.a * x1.x.c)) 8002 := Rk.up (Rk.add f1 f64) (by decide)
  have f66 : Rk (x0.z.b * x1.y.c) 8000 := Rk.up (Is.mul zx0.2.2.2.1 zx1.2.1.2.2.1) (by decide)
  have f67 : Rk (((0 : Rat) + (x0.z.a * x1.x.c)) + (x0.z.b * x1.y.c)) 16003 := Rk.up (Rk.add f65 f66) (by decide)
  have f68 : Rk (x0.z.c * x1.z.c) 8000 := Rk.up (Is.mul zx0.2.2.2.2.1 zx1.2.2.2.2.1) (by decide)
  have f69 : Rk ((((0 : Rat) + (x0.z.a * x1.x.c)) + (x0.z.b * x1.y.c)) + (x0.z.c * x1.z.c)) 24004 := Rk.up (Rk.add f67 f68) (by decide)
  have f70 : Rk x0.z.d 4000 := Rk.up (zx0.2.2.2.2.2) (by decide)
  have f71 : Rk (x0.z.a * x1.x.d) 8000 := Rk.up (Is.mul zx0.2.2.1 zx1.1.2.2.2) (by decide)
  have f72 : Rk (x0.z.d + (x0.z.a * x1.x.d)) 12001 := Rk.up (Rk.add f70 f71) (by decide)
  have f73 : Rk (x0.z.b * x1.y.d) 8000 := Rk.up (Is.mul zx0.2.2.2.1 zx1.2.1.2.2.2) (by decide)
  have f74 : Rk ((x0.z.d + (x0.z.a * x1.x.d)) + (x0.z.b * x1.y.d)) 20002 := Rk.up (Rk.add f72 f73) (by decide)
  have f75 : Rk (x0.z.c * x1.z.d) 8000 := Rk.up (Is.mul zx0.2.2.2.2.1 zx1.2.2.2.2.2) (by decide)
  have f76 : Rk (((x0.z.d + (x0.z.a * x1.x.d)) + (x0.z.b * x1.y.d)) + (x0.z.c * x1.z.d)) 28003 := Rk.up (Rk.add f74 f75) (by decide)
  have H := SX.run (w := w) (List.flatten [(.bool (x0b 0) :: .string (x0s 0) :: .string (x0s 1) :: .bool (x0b 1) :: .string (x0s 2) :: .string (x0s 3) :: .bool (x0b 2) :: .string (x0s 4) :: .string (x0s 5) :: .bool (x0b 3) :: .string (x0s 6) :: .string (x0s 7) :: .bool (x0b 4) :: .string (x0s 8) :: .string (x0s 9) :: .bool (x0b 5) :: .string (x0s 10) :: .string (x0s 11) :: .bool (x0b 6) :: .string (x0s 12) :: .string (x0s 13) :: .bool (x0b 7) :: .string (x0s 14) :: .string (x0s 15) :: .bool (x0b 8) :: .string (x0s 16) :: .string (x0s 17) :: .bool (x0b 9) :: .string (x0s 18) :: .string (x0s 19) :: .bool (x0b 10) :: .string (x0s 20) :: .string (x0s 21) :: .bool (x0b 11) :: .string (x0s 22) :: .string (x0s 23) :: .bool (x1b 0) :: .string (x1s 0) :: .string (x1s 1) :: .bool (x1b 1) :: .string (x1s 2) :: .string (x1s 3) :: .bool (x1b 2) :: .string (x1s 4) :: .string (x1s 5) :: .bool (x1b 3) :: .string (x1s 6) :: .string (x1s 7) :: .bool (x1b 4) :: .string (x1s 8) :: .string (x1s 9) :: .bool (x1b 5) :: .string (x1s 10) :: .string (x1s 11) :: .bool (x1b 6) :: .string (x1s 12) :: .string (x1s 13) :: .bool (x1b 7) :: .string (x1s 14) :: .string (x1s 15) :: .bool (x1b 8) :: .string (x1s 16) :: .string (x1s 17) :: .bool (x1b 9) :: .string (x1s 18) :: .string (x1s 19) :: .bool (x1b 10) :: .string (x1s 20) :: .string (x1s 21) :: .bool (x1b 11) :: .string (x1s 22) :: .string (x1s 23) :: .bool (sg (0 : Rat).num) :: .string (mg (0 : Rat).num) :: .string (dm (0 : Rat).den) :: []), qc (x0.x.a * x1.x.a), qc ((0 : Rat) + (x0.x.a * x1.x.a)), qc (x0.x.b * x1.y.a), qc (((0 : Rat) + (x0.x.a * x1.x.a)) + (x0.x.b * x1.y.a)), qc (x0.x.c * x1.z.a), qc ((((0 : Rat) + (x0.x.a * x1.x.a)) + (x0.x.b * x1.y.a)) + (x0.x.c * x1.z.a)), [.bool (sg (0 : Rat).num), .string (mg (0 : Rat).num), .string (dm (0 : Rat).den)], qc (x0.x.a * x1.x.b), qc ((0 : Rat) + (x0.x.a * x1.x.b)), qc (x0.x.b * x1.y.b), qc (((0 : Rat) + (x0.x.a * x1.x.b)) + (x0.x.b * x1.y.b)), qc (x0.x.c * x1.z.b), qc ((((0 : Rat) + (x0.x.a * x1.x.b)) + (x0.x.b * x1.y.b)) + (x0.x.c * x1.z.b)), [.bool (sg (0 : Rat).num), .string (mg (0 : Rat).num), .string (dm (0 : Rat).den)], qc (x0.x.a * x1.x.c), qc ((0 : Rat) + (x0.x.a * x1.x.c)), qc (x0.x.b * x1.y.c), qc (((0 : Rat) + (x0.x.a * x1.x.c)) + (x0.x.b * x1.y.c)), qc (x0.x.c * x1.z.c), qc ((((0 : Rat) + (x0.x.a * x1.x.c)) + (x0.x.b * x1.y.c)) + (x0.x.c * x1.z.c)), [.bool (sg (0 : Rat).num), .string (mg (0 : Rat).num), .string (dm (0 : Rat).den)], qc x0.x.d, qc (x0.x.a * x1.x.d), qc (x0.x.d + (x0.x.a * x1.x.d)), qc (x0.x.b * x1.y.d), qc ((x0.x.d + (x0.x.a * x1.x.d)) + (x0.x.b * x1.y.d)), qc (x0.x.c * x1.z.d), qc (((x0.x.d + (x0.x.a * x1.x.d)) + (x0.x.b * x1.y.d)) + (x0.x.c * x1.z.d)), [.bool (sg (0 : Rat).num), .string (mg (0 : Rat).num), .string (dm (0 : Rat).den)], qc (x0.y.a * x1.x.a), qc ((0 : Rat) + (x0.y.a * x1.x.a)), qc (x0.y.b * x1.y.a), qc (((0 : Rat) + (x0.y.a * x1.x.a)) + (x0.y.b * x1.y.a)), qc (x0.y.c * x1.z.a), qc ((((0 : Rat) + (x0.y.a * x1.x.a)) + (x0.y.b * x1.y.a)) + (x0.y.c * x1.z.a)), [.bool (sg (0 : Rat).num), .string (mg (0 : Rat).num), .string (dm (0 : Rat).den)], qc (x0.y.a * x1.x.b), qc ((0 : Rat) + (x0.y.a * x1.x.b)), qc (x0.y.b * x1.y.b), qc (((0 : Rat) + (x0.y.a * x1.x.b)) + (x0.y.b * x1.y.b)), qc (x0.y.c * x1.z.b), qc ((((0 : Rat) + (x0.y.a * x1.x.b)) + (x0.y.b * x1.y.b)) + (x0.y.c * x1.z.b)), [.bool (sg (0 : Rat).num), .string (mg (0 : Rat).num), .string (dm (0 : Rat).den)], qc (x0.y.a * x1.x.c), qc ((0 : Rat) + (x0.y.a * x1.x.c)), qc (x0.y.b * x1.y.c), qc (((0 : Rat) + (x0.y.a * x1.x.c)) + (x0.y.b * x1.y.c)), qc (x0.y.c * x1.z.c), qc ((((0 : Rat) + (x0.y.a * x1.x.c)) + (x0.y.b * x1.y.c)) + (x0.y.c * x1.z.c)), [.bool (sg (0 : Rat).num), .string (mg (0 : Rat).num), .string (dm (0 : Rat).den)], qc x0.y.d, qc (x0.y.a * x1.x.d), qc (x0.y.d + (x0.y.a * x1.x.d)), qc (x0.y.b * x1.y.d), qc ((x0.y.d + (x0.y.a * x1.x.d)) + (x0.y.b * x1.y.d)), qc (x0.y.c * x1.z.d), qc (((x0.y.d + (x0.y.a * x1.x.d)) + (x0.y.b * x1.y.d)) + (x0.y.c * x1.z.d)), [.bool (sg (0 : Rat).num), .string (mg (0 : Rat).num), .string (dm (0 : Rat).den)], qc (x0.z.a * x1.x.a), qc ((0 : Rat) + (x0.z.a * x1.x.a)), qc (x0.z.b * x1.y.a), qc (((0 : Rat) + (x0.z.a * x1.x.a)) + (x0.z.b * x1.y.a)), qc (x0.z.c * x1.z.a), qc ((((0 : Rat) + (x0.z.a * x1.x.a)) + (x0.z.b * x1.y.a)) + (x0.z.c * x1.z.a)), [.bool (sg (0 : Rat).num), .string (mg (0 : Rat).num), .string (dm (0 : Rat).den)], qc (x0.z.a * x1.x.b), qc ((0 : Rat) + (x0.z.a * x1.x.b)), qc (x0.z.b * x1.y.b), qc (((0 : Rat) + (x0.z.a * x1.x.b)) + (x0.z.b * x1.y.b)), qc (x0.z.c * x1.z.b), qc ((((0 : Rat) + (x0.z.a * x1.x.b)) + (x0.z.b * x1.y.b)) + (x0.z.c * x1.z.b)), [.bool (sg (0 : Rat).num), .string (mg (0 : Rat).num), .string (dm (0 : Rat).den)], qc (x0.z.a * x1.x.c), qc ((0 : Rat) + (x0.z.a * x1.x.c)), qc (x0.z.b * x1.y.c), qc (((0 : Rat) + (x0.z.a * x1.x.c)) + (x0.z.b * x1.y.c)), qc (x0.z.c * x1.z.c), qc ((((0 : Rat) + (x0.z.a * x1.x.c)) + (x0.z.b * x1.y.c)) + (x0.z.c * x1.z.c)), [.bool (sg (0 : Rat).num), .string (mg (0 : Rat).num), .string (dm (0 : Rat).den)], qc x0.z.d, qc (x0.z.a * x1.x.d), qc (x0.z.d + (x0.z.a * x1.x.d)), qc (x0.z.b * x1.y.d), qc ((x0.z.d + (x0.z.a * x1.x.d)) + (x0.z.b * x1.y.d)), qc (x0.z.c * x1.z.d), qc (((x0.z.d + (x0.z.a * x1.x.d)) + (x0.z.b * x1.y.d)) + (x0.z.c * x1.z.d))]) [] [.ga 0 36, .ga 36 36] 72 (.one (.agg [.pa 90, .pa 91, .pa 92, .pa 111, .pa 112, .pa 113, .pa 132, .pa 133, .pa 134, .pa 156, .pa 157, .pa 158, .pa 177, .pa 178, .pa 179, .pa 198, .pa 199, .pa 200, .pa 219, .pa 220, .pa 221, .pa 243, .pa 244, .pa 245, .pa 264, .pa 265, .pa 266, .pa 285, .pa 286, .pa 287, .pa 306, .pa 307, .pa 308, .pa 330, .pa 331, .pa 332])) (.call 65 [.c (.p (.lit (.int .i64 0)))] (.one (.ga 72 3)) [] :: .call 67 [.ga 0 3, .ga 36 3] (.one (.ga 75 3)) [] :: .call 66 [.ga 72 3, .ga 75 3] (.one (.ga 78 3)) [] :: .call 67 [.ga 3 3, .ga 48 3] (.one (.ga 81 3)) [] :: .call 66 [.ga 78 3, .ga 81 3] (.one (.ga 84 3)) [] :: .call 67 [.ga 6 3, .ga 60 3] (.one (.ga 87 3)) [] :: .call 66 [.ga 84 3, .ga 87 3] (.one (.ga 90 3)) [] :: .call 65 [.c (.p (.lit (.int .i64 0)))] (.one (.ga 93 3)) [] :: .call 67 [.ga 0 3, .ga 39 3] (.one (.ga 96 3)) [] :: .call 66 [.ga 93 3, .ga 96 3] (.one (.ga 99 3)) [] :: .call 67 [.ga 3 3, .ga 51 3] (.one (.ga 102 3)) [] :: .call 66 [.ga 99 3, .ga 102 3] (.one (.ga 105 3)) [] :: .call 67 [.ga 6 3, .ga 63 3] (.one (.ga 108 3)) [] :: .call 66 [.ga 105 3, .ga 108 3] (.one (.ga 111 3)) [] :: .call 65 [.c (.p (.lit (.int .i64 0)))] (.one (.ga 114 3)) [] :: .call 67 [.ga 0 3, .ga 42 3] (.one (.ga 117 3)) [] :: .call 66 [.ga 114 3, .ga 117 3] (.one (.ga 120 3)) [] :: .call 67 [.ga 3 3, .ga 54 3] (.one (.ga 123 3)) [] :: .call 66 [.ga 120 3, .ga 123 3] (.one (.ga 126 3)) [] :: .call 67 [.ga 6 3, .ga 66 3] (.one (.ga 129 3)) [] :: .call 66 [.ga 126 3, .ga 129 3] (.one (.ga 132 3)) [] :: .call 65 [.c (.p (.lit (.int .i64 0)))] (.one (.ga 135 3)) [] :: .call 71 [.ga 9 3] (.one (.ga 138 3)) [] :: .call 67 [.ga 0 3, .ga 45 3] (.one (.ga 141 3)) [] :: .call 66 [.ga 138 3, .ga 141 3] (.one (.ga 144 3)) [] :: .call 67 [.ga 3 3, .ga 57 3] (.one (.ga 147 3)) [] :: .call 66 [.ga 144 3, .ga 147 3] (.one (.ga 150 3)) [] :: .call 67 [.ga 6 3, .ga 69 3] (.one (.ga 153 3)) [] :: .call 66 [.ga 150 3, .ga 153 3] (.one (.ga 156 3)) [] :: .call 65 [.c (.p (.lit (.int .i64 0)))] (.one (.ga 159 3)) [] :: .call 67 [.ga 12 3, .ga 36 3] (.one (.ga 162 3)) [] :: .call 66 [.ga 159 3, .ga 162 3] (.one (.ga 165 3)) [] :: .call 67 [.ga 15 3, .ga 48 3] (.one (.ga 168 3)) [] :: .call 66 [.ga 165 3, .ga 168 3] (.one (.ga 171 3)) [] :: .call 67 [.ga 18 3, .ga 60 3] (.one (.ga 174 3)) [] :: .call 66 [.ga 171 3, .ga 174 3] (.one (.ga 177 3)) [] :: .call 65 [.c (.p (.lit (.int .i64 0)))] (.one (.ga 180 3)) [] :: .call 67 [.ga 12 3, .ga 39 3] (.one (.ga 183 3)) [] :: .call 66 [.ga 180 3, .ga 183 3] (.one (.ga 186 3)) [] :: .call 67 [.ga 15 3, .ga 51 3] (.one (.ga 189 3)) [] :: .call 66 [.ga 186 3, .ga 189 3] (.one (.ga 192 3)) [] :: .call 67 [.ga 18 3, .ga 63 3] (.one (.ga 195 3)) [] :: .call 66 [.ga 192 3, .ga 195 3] (.one (.ga 198 3)) [] :: .call 65 [.c (.p (.lit (.int .i64 0)))] (.one (.ga 201 3)) [] :: .call 67 [.ga 12 3, .ga 42 3] (.one (.ga 204 3)) [] :: .call 66 [.ga 201 3, .ga 204 3] (.one (.ga 207 3)) [] :: .call 67 [.ga 15 3, .ga 54 3] (.one (.ga 210 3)) [] :: .call 66 [.ga 207 3, .ga 210 3] (.one (.ga 213 3)) [] :: .call 67 [.ga 18 3, .ga 66 3] (.one (.ga 216 3)) [] :: .call 66 [.ga 213 3, .ga 216 3] (.one (.ga 219 3)) [] :: .call 65 [.c (.p (.lit (.int .i64 0)))] (.one (.ga 222 3)) [] :: .call 71 [.ga 21 3] (.one (.ga 225 3)) [] :: .call 67 [.ga 12 3, .ga 45 3] (.one (.ga 228 3)) [] :: .call 66 [.ga 225 3, .ga 228 3] (.one (.ga 231 3)) [] :: .call 67 [.ga 15 3, .ga 57 3] (.one (.ga 234 3)) [] :: .call 66 [.ga 231 3, .ga 234 3] (.one (.ga 237 3)) [] :: .call 67 [.ga 18 3, .ga 69 3] (.one (.ga 240 3)) [] :: .call 66 [.ga 237 3, .ga 240 3] (.one (.ga 243 3)) [] :: .call 65 [.c (.p (.lit (.int .i64 0)))] (.one (.ga 246 3)) [] :: .call 67 [.ga 24 3, .ga 36 3] (.one (.ga 249 3)) [] :: .call 66 [.ga 246 3, .ga 249 3] (.one (.ga 252 3)) [] :: .call 67 [.ga 27 3, .ga 48 3] (.one (.ga 255 3)) [] :: .call 66 [.ga 252 3, .ga 255 3] (.one (.ga 258 3)) [] :: .call 67 [.ga 30 3, .ga 60 3] (.one (.ga 261 3)) [] :: .call 66 [.ga 258 3, .ga 261 3] (.one (.ga 264 3)) [] :: .call 65 [.c (.p (.lit (.int .i64 0)))] (.one (.ga 267 3)) [] :: .call 67 [.ga 24 3, .ga 39 3] (.one (.ga 270 3)) [] :: .call 66 [.ga 267 3, .ga 270 3] (.one (.ga 273 3)) [] :: .call 67 [.ga 27 3, .ga 51 3] (.one (.ga 276 3)) [] :: .call 66 [.ga 273 3, .ga 276 3] (.one (.ga 279 3)) [] :: .call 67 [.ga 30 3, .ga 63 3] (.one (.ga 282 3)) [] :: .call 66 [.ga 279 3, .ga 282 3] (.one (.ga 285 3)) [] :: .call 65 [.c (.p (.lit (.int .i64 0)))] (.one (.ga 288 3)) [] :: .call 67 [.ga 24 3, .ga 42 3] (.one (.ga 291 3)) [] :: .call 66 [.ga 288 3, .ga 291 3] (.one (.ga 294 3)) [] :: .call 67 [.ga 27 3, .ga 54 3] (.one (.ga 297 3)) [] :: .call 66 [.ga 294 3, .ga 297 3] (.one (.ga 300 3)) [] :: .call 67 [.ga 30 3, .ga 66 3] (.one (.ga 303 3)) [] :: .call 66 [.ga 300 3, .ga 303 3] (.one (.ga 306 3)) [] :: .call 65 [.c (.p (.lit (.int .i64 0)))] (.one (.ga 309 3)) [] :: .call 71 [.ga 33 3] (.one (.ga 312 3)) [] :: .call 67 [.ga 24 3, .ga 45 3] (.one (.ga 315 3)) [] :: .call 66 [.ga 312 3, .ga 315 3] (.one (.ga 318 3)) [] :: .call 67 [.ga 27 3, .ga 57 3] (.one (.ga 321 3)) [] :: .call 66 [.ga 318 3, .ga 321 3] (.one (.ga 324 3)) [] :: .call 67 [.ga 30 3, .ga 69 3] (.one (.ga 327 3)) [] :: .call 66 [.ga 324 3, .ga 327 3] (.one (.ga 330 3)) [] :: []) Tryz.func21 (by kernel_rfl) rfl (by kernel_rfl) rfl (by kernel_rfl)
    ⟨fun γ w' _ _ => by have h := u7num_0 w'; exact h,
     fun γ w' _ _ => rMul wx00 (by decide) wx10 (by decide) w',
     fun γ w' _ _ => rAdd (IsQ.can f1) (by decide) (IsQ.can f2) (by decide) w',
     fun γ w' _ _ => rMul wx01 (by decide) wx14 (by decide) w',
     fun γ w' _ _ => rAdd (IsQ.can f3) (by decide) (IsQ.can f4) (by decide) w',
     fun γ w' _ _ => rMul wx02 (by decide) wx18 (by decide) w',
     fun γ w' _ _ => rAdd (IsQ.can f5) (by decide) (IsQ.can f6) (by decide) w',
     fun γ w' _ _ => by have h := u7num_0 w'; exact h,
     fun γ w' _ _ => rMul wx00 (by decide) wx11 (by decide) w',
     fun γ w' _ _ => rAdd (IsQ.can f1) (by decide) (IsQ.can f8) (by decide) w',
     fun γ w' _ _ => rMul wx01 (by decide) wx15 (by decide) w',
     fun γ w' _ _ => rAdd (IsQ.can f9) (by decide) (IsQ.can f10) (by decide) w',
     fun γ w' _ _ => rMul wx02 (by decide) wx19 (by decide) w',
     fun γ w' _ _ => rAdd (IsQ.can f11) (by decide) (IsQ.can f12) (by decide) w',
     fun γ w' _ _ => by have h := u7num_0 w'; exact h,
     fun γ w' _ _ => rMul wx00 (by decide) wx12 (by decide) w',
     fun γ w' _ _ => rAdd (IsQ.can f1) (by decide) (IsQ.can f14) (by decide) w',
     fun γ w' _ _ => rMul wx01 (by decide) wx16 (by decide) w',
     fun γ w' _ _ => rAdd (IsQ.can f15) (by decide) (IsQ.can f16) (by decide) w',
     fun γ w' _ _ => rMul wx02 (by decide) wx110 (by decide) w',
     fun γ w' _ _ => rAdd (IsQ.can f17) (by decide) (IsQ.can f18) (by decide) w',
     fun γ w' _ _ => by have h := u7num_0 w'; exact h,
     fun γ w' _ _ => rNorm wx03 (by decide) w',
     fun γ w' _ _ => rMul wx00 (by decide) wx13 (by decide) w',
     fun γ w' _ _ => rAdd (IsQ.can f20) (by decide) (IsQ.can f21) (by decide) w',
     fun γ w' _ _ => rMul wx01 (by decide) wx17 (by decide) w',
     fun γ w' _ _ => rAdd (IsQ.can f22) (by decide) (IsQ.can f23) (by decide) w',
     fun γ w' _ _ => rMul wx02 (by decide) wx111 (by decide) w',
     fun γ w' _ _ => rAdd (IsQ.can f24) (by decide) (IsQ.can f25) (by decide) w',
     fun γ w' _ _ => by have h := u7num_0 w'; exact h,
     fun γ w' _ _ => rMul wx04 (by decide) wx10 (by decide) w',
     fun γ w' _ _ => rAdd (IsQ.can f1) (by decide) (IsQ.can f27) (by decide) w',
     fun γ w' _ _ => rMul wx05 (by decide) wx14 (by decide) w',
     fun γ w' _ _ => rAdd (IsQ.can f28) (by decide) (IsQ.can f29) (by decide) w',
     fun γ w' _ _ => rMul wx06 (by decide) wx18 (by decide) w',
     fun γ w' _ _ => rAdd (IsQ.can f30) (by decide) (IsQ.can f31) (by decide) w',
     fun γ w' _ _ => by have h := u7num_0 w'; exact h,
     fun γ w' _ _ => rMul wx04 (by decide) wx11 (by decide) w',
     fun γ w' _ _ => rAdd (IsQ.can f1) (by decide) (IsQ.can f33) (by decide) w',
     fun γ w' _ _ => rMul wx05 (by decide) wx15 (by decide) w',
     fun γ w' _ _ => rAdd (IsQ.can f34) (by decide) (IsQ.can f35) (by decide) w',
     fun γ w' _ _ => rMul wx06 (by decide) wx19 (by decide) w',
     fun γ w' _ _ => rAdd (IsQ.can f36) (by decide) (IsQ.can f37) (by decide) w',
     fun γ w' _ _ => by have h := u7num_0 w'; exact h,
     fun γ w' _ _ => rMul wx04 (by decide) wx12 (by decide) w',
     fun γ w' _ _ => rAdd (IsQ.can f1) (by decide) (IsQ.can f39) (by decide) w',
     fun γ w' _ _ => rMul wx05 (by decide) wx16 (by decide) w',
     fun γ w' _ _ => rAdd (IsQ.can f40) (by decide) (IsQ.can f41) (by decide) w',
     fun γ w' _ _ => rMul wx06 (by decide) wx110 (by decide) w',
     fun γ w' _ _ => rAdd (IsQ.can f42) (by decide) (IsQ.can f43) (by decide) w',
     fun γ w' _ _ => by have h := u7num_0 w'; exact h,
     fun γ w' _ _ => rNorm wx07 (by decide) w',
     fun γ w' _ _ => rMul wx04 (by decide) wx13 (by decide) w',
     fun γ w' _ _ => rAdd (IsQ.can f45) (by decide) (IsQ.can f46) (by decide) w',
     fun γ w' _ _ => rMul wx05 (by decide) wx17 (by decide) w',
     fun γ w' _ _ => rAdd (IsQ.can f47) (by decide) (IsQ.can f48) (by decide) w',
     fun γ w' _ _ => rMul wx06 (by decide) wx111 (by decide) w',
     fun γ w' _ _ => rAdd (IsQ.can f49) (by decide) (IsQ.can f50) (by decide) w',
     fun γ w' _ _ => by have h := u7num_0 w'; exact h,
     fun γ w' _ _ => rMul wx08 (by decide) wx10 (by decide) w',
     fun γ w' _ _ => rAdd (IsQ.can f1) (by decide) (IsQ.can f52) (by decide) w',
     fun γ w' _ _ => rMul wx09 (by decide) wx14 (by decide) w',
     fun γ w' _ _ => rAdd (IsQ.can f53) (by decide) (IsQ.can f54) (by decide) w',
     fun γ w' _ _ => rMul wx010 (by decide) wx18 (by decide) w',
     fun γ w' _ _ => rAdd (IsQ.can f55) (by decide) (IsQ.can f56) (by decide) w',
     fun γ w' _ _ => by have h := u7num_0 w'; exact h,
     fun γ w' _ _ => rMul wx08 (by decide) wx11 (by decide) w',
     fun γ w' _ _ => rAdd (IsQ.can f1) (by decide) (IsQ.can f58) (by decide) w',
     fun γ w' _ _ => rMul wx09 (by decide) wx15 (by decide) w',
     fun γ w' _ _ => rAdd (IsQ.can f59) (by decide) (IsQ.can f60) (by decide) w',
     fun γ w' _ _ => rMul wx010 (by decide) wx19 (by decide) w',
     fun γ w' _ _ => rAdd (IsQ.can f61) (by decide) (IsQ.can f62) (by decide) w',
     fun γ w' _ _ => by have h := u7num_0 w'; exact h,
     fun γ w' _ _ => rMul wx08 (by decide) wx12 (by decide) w',
     fun γ w' _ _ => rAdd (IsQ.can f1) (by decide) (IsQ.can f64) (by decide) w',
     fun γ w' _ _ => rMul wx09 (by decide) wx16 (by decide) w',
     fun γ w' _ _ => rAdd (IsQ.can f65) (by decide) (IsQ.can f66) (by decide) w',
     fun γ w' _ _ => rMul wx010 (by decide) wx110 (by decide) w',
     fun γ w' _ _ => rAdd (IsQ.can f67) (by decide) (IsQ.can f68) (by decide) w',
     fun γ w' _ _ => by have h := u7num_0 w'; exact h,
     fun γ w' _ _ => rNorm wx011 (by decide) w',
     fun γ w' _ _ => rMul wx08 (by decide) wx13 (by decide) w',
     fun γ w' _ _ => rAdd (IsQ.can f70) (by decide) (IsQ.can f71) (by decide) w',
     fun γ w' _ _ => rMul wx09 (by decide) wx17 (by decide) w',
     fun γ w' _ _ => rAdd (IsQ.can f72) (by decide) (IsQ.can f73) (by decide) w',
     fun γ w' _ _ => rMul wx010 (by decide) wx111 (by decide) w',
     fun γ w' _ _ => rAdd (IsQ.can f74) (by decide) (IsQ.can f75) (by decide) w'⟩
  exact H
end Go.Proofs.YtodcomijjmobdaaGreatDoor
