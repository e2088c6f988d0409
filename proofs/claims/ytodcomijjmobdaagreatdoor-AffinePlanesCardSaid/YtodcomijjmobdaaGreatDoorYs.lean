/- voussoirref07: determinants, points, the inverse. -/
import Derived.Test.YtodcomijjmobdaaGreatDoorYr
set_option linter.unusedVariables false
set_option linter.unusedSimpArgs false
namespace Go.Proofs.YtodcomijjmobdaaGreatDoor
open Go.RowKit NM SX
set_option maxRecDepth 100000 in
theorem u7minor_00 {ux0 : Value} {x0 : M3} {kx0 : Nat} (hx0 : IsM ux0 x0 kx0) (lx0 : kx0 ≤ 2000) (w : World) :
    Calls Tryz.prog 52 #[ux0, .int .i64 0, .int .i64 0] w fun e w' => e = .returned (QV (x0.y.b * x0.z.c - x0.y.c * x0.z.b)) ∧ Below w.heap.size w w' := by
  replace hx0 := hx0.up lx0
  have zx0 := hx0.sz (by decide)
  obtain ⟨x0b, x0s, rfl, wx00, wx01, wx02, wx03, wx04, wx05, wx06, wx07, wx08, wx09, wx010, wx011⟩ := id hx0
  have f1 : Rk (x0.y.b * x0.z.c) 4000 := Rk.up (Is.mul zx0.2.1.2.1 zx0.2.2.2.2.1) (by decide)
  have f2 : Rk (x0.y.c * x0.z.b) 4000 := Rk.up (Is.mul zx0.2.1.2.2.1 zx0.2.2.2.1) (by decide)
  have f3 : Rk ((x0.y.b * x0.z.c) - (x0.y.c * x0.z.b)) 8001 := Rk.up (Rk.sub f1 f2) (by decide)
  have H := SX.runX (w := w) (List.flatten [(.bool (x0b 0) :: .string (x0s 0) :: .string (x0s 1) :: .bool (x0b 1) :: .string (x0s 2) :: .string (x0s 3) :: .bool (x0b 2) :: .string (x0s 4) :: .string (x0s 5) :: .bool (x0b 3) :: .string (x0s 6) :: .string (x0s 7) :: .bool (x0b 4) :: .string (x0s 8) :: .string (x0s 9) :: .bool (x0b 5) :: .string (x0s 10) :: .string (x0s 11) :: .bool (x0b 6) :: .string (x0s 12) :: .string (x0s 13) :: .bool (x0b 7) :: .string (x0s 14) :: .string (x0s 15) :: .bool (x0b 8) :: .string (x0s 16) :: .string (x0s 17) :: .bool (x0b 9) :: .string (x0s 18) :: .string (x0s 19) :: .bool (x0b 10) :: .string (x0s 20) :: .string (x0s 21) :: .bool (x0b 11) :: .string (x0s 22) :: .string (x0s 23) :: []), qc (x0.y.b * x0.z.c), qc (x0.y.c * x0.z.b), qc ((x0.y.b * x0.z.c) - (x0.y.c * x0.z.b))]) [] [] [.agg [.p (.at 0), .p (.at 1), .p (.at 2), .p (.at 3), .p (.at 4), .p (.at 5), .p (.at 6), .p (.at 7), .p (.at 8), .p (.at 9), .p (.at 10), .p (.at 11), .p (.at 12), .p (.at 13), .p (.at 14), .p (.at 15), .p (.at 16), .p (.at 17), .p (.at 18), .p (.at 19), .p (.at 20), .p (.at 21), .p (.at 22), .p (.at 23), .p (.at 24), .p (.at 25), .p (.at 26), .p (.at 27), .p (.at 28), .p (.at 29), .p (.at 30), .p (.at 31), .p (.at 32), .p (.at 33), .p (.at 34), .p (.at 35)], .c (.p (.lit (.int .i64 (0)))), .c (.p (.lit (.int .i64 (0))))] 36 [] (.one (.ga 42 3)) [.call 67 [.ga 15 3, .ga 30 3] (.one (.ga 36 3)) [], .call 67 [.ga 18 3, .ga 27 3] (.one (.ga 39 3)) [], .call 81 [.ga 36 3, .ga 39 3] (.one (.ga 42 3)) []] ⟨rfl, fun b t l h => by simp at h⟩ Tryz.func52 (by kernel_rfl) rfl rfl (by kernel_rfl)
    ⟨fun γ w' _ _ => rMul wx05 (by decide) wx010 (by decide) w',
     fun γ w' _ _ => rMul wx06 (by decide) wx09 (by decide) w',
     fun γ w' _ _ => rSub (IsQ.can f1) (by decide) (IsQ.can f2) (by decide) w'⟩
  exact H
set_option maxRecDepth 100000 in
theorem u7minor_01 {ux0 : Value} {x0 : M3} {kx0 : Nat} (hx0 : IsM ux0 x0 kx0) (lx0 : kx0 ≤ 2000) (w : World) :
    Calls Tryz.prog 52 #[ux0, .int .i64 0, .int .i64 1] w fun e w' => e = .returned (QV (x0.y.c * x0.z.a - x0.y.a * x0.z.c)) ∧ Below w.heap.size w w' := by
  replace hx0 := hx0.up lx0
  have zx0 := hx0.sz (by decide)
  obtain ⟨x0b, x0s, rfl, wx00, wx01, wx02, wx03, wx04, wx05, wx06, wx07, wx08, wx09, wx010, wx011⟩ := id hx0
  have f1 : Rk (x0.y.c * x0.z.a) 4000 := Rk.up (Is.mul zx0.2.1.2.2.1 zx0.2.2.1) (by decide)
  have f2 : Rk (x0.y.a * x0.z.c) 4000 := Rk.up (Is.mul zx0.2.1.1 zx0.2.2.2.2.1) (by decide)
  have f3 : Rk ((x0.y.c * x0.z.a) - (x0.y.a * x0.z.c)) 8001 := Rk.up (Rk.sub f1 f2) (by decide)
  have H := SX.runX (w := w) (List.flatten [(.bool (x0b 0) :: .string (x0s 0) :: .string (x0s 1) :: .bool (x0b 1) :: .string (x0s 2) :: .string (x0s 3) :: .bool (x0b 2) :: .string (x0s 4) :: .string (x0s 5) :: .bool (x0b 3) :: .string (x0s 6) :: .string (x0s 7) :: .bool (x0b 4) :: .string (x0s 8) :: .string (x0s 9) :: .bool (x0b 5) :: .string (x0s 10) :: .string (x0s 11) :: .bool (x0b 6) :: .string (x0s 12) :: .string (x0s 13) :: .bool (x0b 7) :: .string (x0s 14) :: .string (x0s 15) :: .bool (x0b 8) :: .string (x0s 16) :: .string (x0s 17) :: .bool (x0b 9) :: .string (x0s 18) :: .string (x0s 19) :: .bool (x0b 10) :: .string (x0s 20) :: .string (x0s 21) :: .bool (x0b 11) :: .string (x0s 22) :: .string (x0s 23) :: []), qc (x0.y.c * x0.z.a), qc (x0.y.a * x0.z.c), qc ((x0.y.c * x0.z.a) - (x0.y.a * x0.z.c))]) [] [] [.agg [.p (.at 0), .p (.at 1), .p (.at 2), .p (.at 3), .p (.at 4), .p (.at 5), .p (.at 6), .p (.at 7), .p (.at 8), .p (.at 9), .p (.at 10), .p (.at 11), .p (.at 12), .p (.at 13), .p (.at 14), .p (.at 15), .p (.at 16), .p (.at 17), .p (.at 18), .p (.at 19), .p (.at 20), .p (.at 21), .p (.at 22), .p (.at 23), .p (.at 24), .p (.at 25), .p (.at 26), .p (.at 27), .p (.at 28), .p (.at 29), .p (.at 30), .p (.at 31), .p (.at 32), .p (.at 33), .p (.at 34), .p (.at 35)], .c (.p (.lit (.int .i64 (0)))), .c (.p (.lit (.int .i64 (1))))] 36 [] (.one (.ga 42 3)) [.call 67 [.ga 18 3, .ga 24 3] (.one (.ga 36 3)) [], .call 67 [.ga 12 3, .ga 30 3] (.one (.ga 39 3)) [], .call 81 [.ga 36 3, .ga 39 3] (.one (.ga 42 3)) []] ⟨rfl, fun b t l h => by simp at h⟩ Tryz.func52 (by kernel_rfl) rfl rfl (by kernel_rfl)
    ⟨fun γ w' _ _ => rMul wx06 (by decide) wx08 (by decide) w',
     fun γ w' _ _ => rMul wx04 (by decide) wx010 (by decide) w',
     fun γ w' _ _ => rSub (IsQ.can f1) (by decide) (IsQ.can f2) (by decide) w'⟩
  exact H
set_option maxRecDepth 100000 in
theorem u7minor_02 {ux0 : Value} {x0 : M3} {kx0 : Nat} (hx0 : IsM ux0 x0 kx0) (lx0 : kx0 ≤ 2000) (w : World) :
    Calls Tryz.prog 52 #[ux0, .int .i64 0, .int .i64 2] w fun e w' => e = .returned (QV (x0.y.a * x0.z.b - x0.y.b * x0.z.a)) ∧ Below w.heap.size w w' := by
  replace hx0 := hx0.up lx0
  have zx0 := hx0.sz (by decide)
  obtain ⟨x0b, x0s, rfl, wx00, wx01, wx02, wx03, wx04, wx05, wx06, wx07, wx08, wx09, wx010, wx011⟩ := id hx0
  have f1 : Rk (x0.y.a * x0.z.b) 4000 := Rk.up (Is.mul zx0.2.1.1 zx0.2.2.2.1) (by decide)
  have f2 : Rk (x0.y.b * x0.z.a) 4000 := Rk.up (Is.mul zx0.2.1.2.1 zx0.2.2.1) (by decide)
  have f3 : Rk ((x0.y.a * x0.z.b) - (x0.y.b * x0.z.a)) 8001 := Rk.up (Rk.sub f1 f2) (by decide)
  have H := SX.runX (w := w) (List.flatten [(.bool (x0b 0) :: .string (x0s 0) :: .string (x0s 1) :: .bool (x0b 1) :: .string (x0s 2) :: .string (x0s 3) :: .bool (x0b 2) :: .string (x0s 4) :: .string (x0s 5) :: .bool (x0b 3) :: .string (x0s 6) :: .string (x0s 7) :: .bool (x0b 4) :: .string (x0s 8) :: .string (x0s 9) :: .bool (x0b 5) :: .string (x0s 10) :: .string (x0s 11) :: .bool (x0b 6) :: .string (x0s 12) :: .string (x0s 13) :: .bool (x0b 7) :: .string (x0s 14) :: .string (x0s 15) :: .bool (x0b 8) :: .string (x0s 16) :: .string (x0s 17) :: .bool (x0b 9) :: .string (x0s 18) :: .string (x0s 19) :: .bool (x0b 10) :: .string (x0s 20) :: .string (x0s 21) :: .bool (x0b 11) :: .string (x0s 22) :: .string (x0s 23) :: []), qc (x0.y.a * x0.z.b), qc (x0.y.b * x0.z.a), qc ((x0.y.a * x0.z.b) - (x0.y.b * x0.z.a))]) [] [] [.agg [.p (.at 0), .p (.at 1), .p (.at 2), .p (.at 3), .p (.at 4), .p (.at 5), .p (.at 6), .p (.at 7), .p (.at 8), .p (.at 9), .p (.at 10), .p (.at 11), .p (.at 12), .p (.at 13), .p (.at 14), .p (.at 15), .p (.at 16), .p (.at 17), .p (.at 18), .p (.at 19), .p (.at 20), .p (.at 21), .p (.at 22), .p (.at 23), .p (.at 24), .p (.at 25), .p (.at 26), .p (.at 27), .p (.at 28), .p (.at 29), .p (.at 30), .p (.at 31), .p (.at 32), .p (.at 33), .p (.at 34), .p (.at 35)], .c (.p (.lit (.int .i64 (0)))), .c (.p (.lit (.int .i64 (2))))] 36 [] (.one (.ga 42 3)) [.call 67 [.ga 12 3, .ga 27 3] (.one (.ga 36 3)) [], .call 67 [.ga 15 3, .ga 24 3] (.one (.ga 39 3)) [], .call 81 [.ga 36 3, .ga 39 3] (.one (.ga 42 3)) []] ⟨rfl, fun b t l h => by simp at h⟩ Tryz.func52 (by kernel_rfl) rfl rfl (by kernel_rfl)
    ⟨fun γ w' _ _ => rMul wx04 (by decide) wx09 (by decide) w',
     fun γ w' _ _ => rMul wx05 (by decide) wx08 (by decide) w',
     fun γ w' _ _ => rSub (IsQ.can f1) (by decide) (IsQ.can f2) (by decide) w'⟩
  exact H
set_option maxRecDepth 100000 in
theorem u7minor_10 {ux0 : Value} {x0 : M3} {kx0 : Nat} (hx0 : IsM ux0 x0 kx0) (lx0 : kx0 ≤ 2000) (w : World) :
    Calls Tryz.prog 52 #[ux0, .int .i64 1, .int .i64 0] w fun e w' => e = .returned (QV (x0.z.b * x0.x.c - x0.z.c * x0.x.b)) ∧ Below w.heap.size w w' := by
  replace hx0 := hx0.up lx0
  have zx0 := hx0.sz (by decide)
  obtain ⟨x0b, x0s, rfl, wx00, wx01, wx02, wx03, wx04, wx05, wx06, wx07, wx08, wx09, wx010, wx011⟩ := id hx0
  have f1 : Rk (x0.z.b * x0.x.c) 4000 := Rk.up (Is.mul zx0.2.2.2.1 zx0.1.2.2.1) (by decide)
  have f2 : Rk (x0.z.c * x0.x.b) 4000 := Rk.up (Is.mul zx0.2.2.2.2.1 zx0.1.2.1) (by decide)
  have f3 : Rk ((x0.z.b * x0.x.c) - (x0.z.c * x0.x.b)) 8001 := Rk.up (Rk.sub f1 f2) (by decide)
  have H := SX.runX (w := w) (List.flatten [(.bool (x0b 0) :: .string (x0s 0) :: .string (x0s 1) :: .bool (x0b 1) :: .string (x0s 2) :: .string (x0s 3) :: .bool (x0b 2) :: .string (x0s 4) :: .string (x0s 5) :: .bool (x0b 3) :: .string (x0s 6) :: .string (x0s 7) :: .bool (x0b 4) :: .string (x0s 8) :: .string (x0s 9) :: .bool (x0b 5) :: .string (x0s 10) :: .string (x0s 11) :: .bool (x0b 6) :: .string (x0s 12) :: .string (x0s 13) :: .bool (x0b 7) :: .string (x0s 14) :: .string (x0s 15) :: .bool (x0b 8) :: .string (x0s 16) :: .string (x0s 17) :: .bool (x0b 9) :: .string (x0s 18) :: .string (x0s 19) :: .bool (x0b 10) :: .string (x0s 20) :: .string (x0s 21) :: .bool (x0b 11) :: .string (x0s 22) :: .string (x0s 23) :: []), qc (x0.z.b * x0.x.c), qc (x0.z.c * x0.x.b), qc ((x0.z.b * x0.x.c) - (x0.z.c * x0.x.b))]) [] [] [.agg [.p (.at 0), .p (.at 1), .p (.at 2), .p (.at 3), .p (.at 4), .p (.at 5), .p (.at 6), .p (.at 7), .p (.at 8), .p (.at 9), .p (.at 10), .p (.at 11), .p (.at 12), .p (.at 13), .p (.at 14), .p (.at 15), .p (.at 16), .p (.at 17), .p (.at 18), .p (.at 19), .p (.at 20), .p (.at 21), .p (.at 22), .p (.at 23), .p (.at 24), .p (.at 25), .p (.at 26), .p (.at 27), .p (.at 28), .p (.at 29), .p (.at 30), .p (.at 31), .p (.at 32), .p (.at 33), .p (.at 34), .p (.at 35)], .c (.p (.lit (.int .i64 (1)))), .c (.p (.lit (.int .i64 (0))))] 36 [] (.one (.ga 42 3)) [.call 67 [.ga 27 3, .ga 6 3] (.one (.ga 36 3)) [], .call 67 [.ga 30 3, .ga 3 3] (.one (.ga 39 3)) [], .call 81 [.ga 36 3, .ga 39 3] (.one (.ga 42 3)) []] ⟨rfl, fun b t l h => by simp at h⟩ Tryz.func52 (by kernel_rfl) rfl rfl (by kernel_rfl)
    ⟨fun γ w' _ _ => rMul wx09 (by decide) wx02 (by decide) w',
     fun γ w' _ _ => rMul wx010 (by decide) wx01 (by decide) w',
     fun γ w' _ _ => rSub (IsQ.can f1) (by decide) (IsQ.can f2) (by decide) w'⟩
  exact H
set_option maxRecDepth 100000 in
theorem u7minor_11 {ux0 : Value} {x0 : M3} {kx0 : Nat} (hx0 : IsM ux0 x0 kx0) (lx0 : kx0 ≤ 2000) (w : World) :
    Calls Tryz.prog 52 #[ux0, .int .i64 1, .int .i64 1] w fun e w' => e = .returned (QV (x0.z.c * x0.x.a - x0.z.a * x0.x.c)) ∧ Below w.heap.size w w' := by
  replace hx0 := hx0.up lx0
  have zx0 := hx0.sz (by decide)
  obtain ⟨x0b, x0s, rfl, wx00, wx01, wx02, wx03, wx04, wx05, wx06, wx07, wx08, wx09, wx010, wx011⟩ := id hx0
  have f1 : Rk (x0.z.c * x0.x.a) 4000 := Rk.up (Is.mul zx0.2.2.2.2.1 zx0.1.1) (by decide)
  have f2 : Rk (x0.z.a * x0.x.c) 4000 := Rk.up (Is.mul zx0.2.2.1 zx0.1.2.2.1) (by decide)
  have f3 : Rk ((x0.z.c * x0.x.a) - (x0.z.a * x0.x.c)) 8001 := Rk.up (Rk.sub f1 f2) (by decide)
  have H := SX.runX (w := w) (List.flatten [(.bool (x0b 0) :: .string (x0s 0) :: .string (x0s 1) :: .bool (x0b 1) :: .string (x0s 2) :: .string (x0s 3) :: .bool (x0b 2) :: .string (x0s 4) :: .string (x0s 5) :: .bool (x0b 3) :: .string (x0s 6) :: .string (x0s 7) :: .bool (x0b 4) :: .string (x0s 8) :: .string (x0s 9) :: .bool (x0b 5) :: .string (x0s 10) :: .string (x0s 11) :: .bool (x0b 6) :: .string (x0s 12) :: .string (x0s 13) :: .bool (x0b 7) :: .string (x0s 14) :: .string (x0s 15) :: .bool (x0b 8) :: .string (x0s 16) :: .string (x0s 17) :: .bool (x0b 9) :: .string (x0s 18) :: .string (x0s 19) :: .bool (x0b 10) :: .string (x0s 20) :: .string (x0s 21) :: .bool (x0b 11) :: .string (x0s 22) :: .string (x0s 23) :: []), qc (x0.z.c * x0.x.a), qc (x0.z.a * x0.x.c), qc ((x0.z.c * x0.x.a) - (x0.z.a * x0.x.c))]) [] [] [.agg [.p (.at 0), .p (.at 1), .p (.at 2), .p (.at 3), .p (.at 4), .p (.at 5), .p (.at 6), .p (.at 7), .p (.at 8), .p (.at 9), .p (.at 10), .p (.at 11), .p (.at 12), .p (.at 13), .p (.at 14), .p (.at 15), .p (.at 16), .p (.at 17), .p (.at 18), .p (.at 19), .p (.at 20), .p (.at 21), .p (.at 22), .p (.at 23), .p (.at 24), .p (.at 25), .p (.at 26), .p (.at 27), .p (.at 28), .p (.at 29), .p (.at 30), .p (.at 31), .p (.at 32), .p (.at 33), .p (.at 34), .p (.at 35)], .c (.p (.lit (.int .i64 (1)))), .c (.p (.lit (.int .i64 (1))))] 36 [] (.one (.ga 42 3)) [.call 67 [.ga 30 3, .ga 0 3] (.one (.ga 36 3)) [], .call 67 [.ga 24 3, .ga 6 3] (.one (.ga 39 3)) [], .call 81 [.ga 36 3, .ga 39 3] (.one (.ga 42 3)) []] ⟨rfl, fun b t l h => by simp at h⟩ Tryz.func52 (by kernel_rfl) rfl rfl (by kernel_rfl)
    ⟨fun γ w' _ _ => rMul wx010 (by decide) wx00 (by decide) w',
     fun γ w' _ _ => rMul wx08 (by decide) wx02 (by decide) w',
     fun γ w' _ _ => rSub (IsQ.can f1) (by decide) (IsQ.can f2) (by decide) w'⟩
  exact H
set_option maxRecDepth 100000 in
theorem u7minor_12 {ux0 : Value} {x0 : M3} {kx0 : Nat} (hx0 : IsM ux0 x0 kx0) (lx0 : kx0 ≤ 2000) (w : World) :
    Calls Tryz.prog 52 #[ux0, .int .i64 1, .int .i64 2] w fun e w' => e = .returned (QV (x0.z.a * x0.x.b - x0.z.b * x0.x.a)) ∧ Below w.heap.size w w' := by
  replace hx0 := hx0.up lx0
  have zx0 := hx0.sz (by decide)
  obtain ⟨x0b, x0s, rfl, wx00, wx01, wx02, wx03, wx04, wx05, wx06, wx07, wx08, wx09, wx010, wx011⟩ := id hx0
  have f1 : Rk (x0.z.a * x0.x.b) 4000 := Rk.up (Is.mul zx0.2.2.1 zx0.1.2.1) (by decide)
  have f2 : Rk (x0.z.b * x0.x.a) 4000 := Rk.up (Is.mul zx0.2.2.2.1 zx0.1.1) (by decide)
  have f3 : Rk ((x0.z.a * x0.x.b) - (x0.z.b * x0.x.a)) 8001 := Rk.up (Rk.sub f1 f2) (by decide)
  have H := SX.runX (w := w) (List.flatten [(.bool (x0b 0) :: .string (x0s 0) :: .string (x0s 1) :: .bool (x0b 1) :: .string (x0s 2) :: .string (x0s 3) :: .bool (x0b 2) :: .string (x0s 4) :: .string (x0s 5) :: .bool (x0b 3) :: .string (x0s 6) :: .string (x0s 7) :: .bool (x0b 4) :: .string (x0s 8) :: .string (x0s 9) :: .bool (x0b 5) :: .string (x0s 10) :: .string (x0s 11) :: .bool (x0b 6) :: .string (x0s 12) :: .string (x0s 13) :: .bool (x0b 7) :: .string (x0s 14) :: .string (x0s 15) :: .bool (x0b 8) :: .string (x0s 16) :: .string (x0s 17) :: .bool (x0b 9) :: .string (x0s 18) :: .string (x0s 19) :: .bool (x0b 10) :: .string (x0s 20) :: .string (x0s 21) :: .bool (x0b 11) :: .string (x0s 22) :: .string (x0s 23) :: []), qc (x0.z.a * x0.x.b), qc (x0.z.b * x0.x.a), qc ((x0.z.a * x0.x.b) - (x0.z.b * x0.x.a))]) [] [] [.agg [.p (.at 0), .p (.at 1), .p (.at 2), .p (.at 3), .p (.at 4), .p (.at 5), .p (.at 6), .p (.at 7), .p (.at 8), .p (.at 9), .p (.at 10), .p (.at 11), .p (.at 12), .p (.at 13), .p (.at 14), .p (.at 15), .p (.at 16), .p (.at 17), .p (.at 18), .p (.at 19), .p (.at 20), .p (.at 21), .p (.at 22), .p (.at 23), .p (.at 24), .p (.at 25), .p (.at 26), .p (.at 27), .p (.at 28), .p (.at 29), .p (.at 30), .p (.at 31), .p (.at 32), .p (.at 33), .p (.at 34), .p (.at 35)], .c (.p (.lit (.int .i64 (1)))), .c (.p (.lit (.int .i64 (2))))] 36 [] (.one (.ga 42 3)) [.call 67 [.ga 24 3, .ga 3 3] (.one (.ga 36 3)) [], .call 67 [.ga 27 3, .ga 0 3] (.one (.ga 39 3)) [], .call 81 [.ga 36 3, .ga 39 3] (.one (.ga 42 3)) []] ⟨rfl, fun b t l h => by simp at h⟩ Tryz.func52 (by kernel_rfl) rfl rfl (by kernel_rfl)
    ⟨fun γ w' _ _ => rMul wx08 (by decide) wx01 (by decide) w',
     fun γ w' _ _ => rMul wx09 (by decide) wx00 (by decide) w',
     fun γ w' _ _ => rSub (IsQ.can f1) (by decide) (IsQ.can f2) (by decide) w'⟩
  exact H
set_option maxRecDepth 100000 in
theorem u7minor_20 {ux0 : Value} {x0 : M3} {kx0 : Nat} (hx0 : IsM ux0 x0 kx0) (lx0 : kx0 ≤ 2000) (w : World) :
    Calls Tryz.prog 52 #[ux0, .int .i64 2, .int .i64 0] w fun e w' => e = .returned (QV (x0.x.b * x0.y.c - x0.x.c * x0.y.b)) ∧ Below w.heap.size w w' := by
  replace hx0 := hx0.up lx0
  have zx0 := hx0.sz (by decide)
  obtain ⟨x0b, x0s, rfl, wx00, wx01, wx02, wx03, wx04, wx05, wx06, wx07, wx08, wx09, wx010, wx011⟩ := id hx0
  have f1 : Rk (x0.x.b * x0.y.c) 4000 := Rk.up (Is.mul zx0.1.2.1 zx0.2.1.2.2.1) (by decide)
  have f2 : Rk (x0.x.c * x0.y.b) 4000 := Rk.up (Is.mul zx0.1.2.2.1 zx0.2.1.2.1) (by decide)
  have f3 : Rk ((x0.x.b * x0.y.c) - (x0.x.c * x0.y.b)) 8001 := Rk.up (Rk.sub f1 f2) (by decide)
  have H := SX.runX (w := w) (List.flatten [(.bool (x0b 0) :: .string (x0s 0) :: .string (x0s 1) :: .bool (x0b 1) :: .string (x0s 2) :: .string (x0s 3) :: .bool (x0b 2) :: .string (x0s 4) :: .string (x0s 5) :: .bool (x0b 3) :: .string (x0s 6) :: .string (x0s 7) :: .bool (x0b 4) :: .string (x0s 8) :: .string (x0s 9) :: .bool (x0b 5) :: .string (x0s 10) :: .string (x0s 11) :: .bool (x0b 6) :: .string (x0s 12) :: .string (x0s 13) :: .bool (x0b 7) :: .string (x0s 14) :: .string (x0s 15) :: .bool (x0b 8) :: .string (x0s 16) :: .string (x0s 17) :: .bool (x0b 9) :: .string (x0s 18) :: .string (x0s 19) :: .bool (x0b 10) :: .string (x0s 20) :: .string (x0s 21) :: .bool (x0b 11) :: .string (x0s 22) :: .string (x0s 23) :: []), qc (x0.x.b * x0.y.c), qc (x0.x.c * x0.y.b), qc ((x0.x.b * x0.y.c) - (x0.x.c * x0.y.b))]) [] [] [.agg [.p (.at 0), .p (.at 1), .p (.at 2), .p (.at 3), .p (.at 4), .p (.at 5), .p (.at 6), .p (.at 7), .p (.at 8), .p (.at 9), .p (.at 10), .p (.at 11), .p (.at 12), .p (.at 13), .p (.at 14), .p (.at 15), .p (.at 16), .p (.at 17), .p (.at 18), .p (.at 19), .p (.at 20), .p (.at 21), .p (.at 22), .p (.at 23), .p (.at 24), .p (.at 25), .p (.at 26), .p (.at 27), .p (.at 28), .p (.at 29), .p (.at 30), .p (.at 31), .p (.at 32), .p (.at 33), .p (.at 34), .p (.at 35)], .c (.p (.lit (.int .i64 (2)))), .c (.p (.lit (.int .i64 (0))))] 36 [] (.one (.ga 42 3)) [.call 67 [.ga 3 3, .ga 18 3] (.one (.ga 36 3)) [], .call 67 [.ga 6 3, .ga 15 3] (.one (.ga 39 3)) [], .call 81 [.ga 36 3, .ga 39 3] (.one (.ga 42 3)) []] ⟨rfl, fun b t l h => by simp at h⟩ Tryz.func52 (by kernel_rfl) rfl rfl (by kernel_rfl)
    ⟨fun γ w' _ _ => rMul wx01 (by decide) wx06 (by decide) w',
     fun γ w' _ _ => rMul wx02 (by decide) wx05 (by decide) w',
     fun γ w' _ _ => rSub (IsQ.can f1) (by decide) (IsQ.can f2) (by decide) w'⟩
  exact H
set_option maxRecDepth 100000 in
theorem u7minor_21 {ux0 : Value} {x0 : M3} {kx0 : Nat} (hx0 : IsM ux0 x0 kx0) (lx0 : kx0 ≤ 2000) (w : World) :
    Calls Tryz.prog 52 #[ux0, .int .i64 2, .int .i64 1] w fun e w' => e = .returned (QV (x0.x.c * x0.y.a - x0.x.a * x0.y.c)) ∧ Below w.heap.size w w' := by
  replace hx0 := hx0.up lx0
  have zx0 := hx0.sz (by decide)
  obtain ⟨x0b, x0s, rfl, wx00, wx01, wx02, wx03, wx04, wx05, wx06, wx07, wx08, wx09, wx010, wx011⟩ := id hx0
  have f1 : Rk (x0.x.c * x0.y.a) 4000 := Rk.up (Is.mul zx0.1.2.2.1 zx0.2.1.1) (by decide)
  have f2 : Rk (x0.x.a * x0.y.c) 4000 := Rk.up (Is.mul zx0.1.1 zx0.2.1.2.2.1) (by decide)
  have f3 : Rk ((x0.x.c * x0.y.a) - (x0.x.a * x0.y.c)) 8001 := Rk.up (Rk.sub f1 f2) (by decide)
  have H := SX.runX (w := w) (List.flatten [(.bool (x0b 0) :: .string (x0s 0) :: .string (x0s 1) :: .bool (x0b 1) :: .string (x0s 2) :: .string (x0s 3) :: .bool (x0b 2) :: .string (x0s 4) :: .string (x0s 5) :: .bool (x0b 3) :: .string (x0s 6) :: .string (x0s 7) :: .bool (x0b 4) :: .string (x0s 8) :: .string (x0s 9) :: .bool (x0b 5) :: .string (x0s 10) :: .string (x0s 11) :: .bool (x0b 6) :: .string (x0s 12) :: .string (x0s 13) :: .bool (x0b 7) :: .string (x0s 14) :: .string (x0s 15) :: .bool (x0b 8) :: .string (x0s 16) :: .string (x0s 17) :: .bool (x0b 9) :: .string (x0s 18) :: .string (x0s 19) :: .bool (x0b 10) :: .string (x0s 20) :: .string (x0s 21) :: .bool (x0b 11) :: .string (x0s 22) :: .string (x0s 23) :: []), qc (x0.x.c * x0.y.a), qc (x0.x.a * x0.y.c), qc ((x0.x.c * x0.y.a) - (x0.x.a * x0.y.c))]) [] [] [.agg [.p (.at 0), .p (.at 1), .p (.at 2), .p (.at 3), .p (.at 4), .p (.at 5), .p (.at 6), .p (.at 7), .p (.at 8), .p (.at 9), .p (.at 10), .p (.at 11), .p (.at 12), .p (.at 13), .p (.at 14), .p (.at 15), .p (.at 16), .p (.at 17), .p (.at 18), .p (.at 19), .p (.at 20), .p (.at 21), .p (.at 22), .p (.at 23), .p (.at 24), .p (.at 25), .p (.at 26), .p (.at 27), .p (.at 28), .p (.at 29), .p (.at 30), .p (.at 31), .p (.at 32), .p (.at 33), .p (.at 34), .p (.at 35)], .c (.p (.lit (.int .i64 (2)))), .c (.p (.lit (.int .i64 (1))))] 36 [] (.one (.ga 42 3)) [.call 67 [.ga 6 3, .ga 12 3] (.one (.ga 36 3)) [], .call 67 [.ga 0 3, .ga 18 3] (.one (.ga 39 3)) [], .call 81 [.ga 36 3, .ga 39 3] (.one (.ga 42 3)) []] ⟨rfl, fun b t l h => by simp at h⟩ Tryz.func52 (by kernel_rfl) rfl rfl (by kernel_rfl)
    ⟨fun γ w' _ _ => rMul wx02 (by decide) wx04 (by decide) w',
     fun γ w' _ _ => rMul wx00 (by decide) wx06 (by decide) w',
     fun γ w' _ _ => rSub (IsQ.can f1) (by decide) (IsQ.can f2) (by decide) w'⟩
  exact H
set_option maxRecDepth 100000 in
theorem u7minor_22 {ux0 : Value} {x0 : M3} {kx0 : Nat} (hx0 : IsM ux0 x0 kx0) (lx0 : kx0 ≤ 2000) (w : World) :
    Calls Tryz.prog 52 #[ux0, .int .i64 2, .int .i64 2] w fun e w' => e = .returned (QV (x0.x.a * x0.y.b - x0.x.b * x0.y.a)) ∧ Below w.heap.size w w' := by
  replace hx0 := hx0.up lx0
  have zx0 := hx0.sz (by decide)
  obtain ⟨x0b, x0s, rfl, wx00, wx01, wx02, wx03, wx04, wx05, wx06, wx07, wx08, wx09, wx010, wx011⟩ := id hx0
  have f1 : Rk (x0.x.a * x0.y.b) 4000 := Rk.up (Is.mul zx0.1.1 zx0.2.1.2.1) (by decide)
  have f2 : Rk (x0.x.b * x0.y.a) 4000 := Rk.up (Is.mul zx0.1.2.1 zx0.2.1.1) (by decide)
  have f3 : Rk ((x0.x.a * x0.y.b) - (x0.x.b * x0.y.a)) 8001 := Rk.up (Rk.sub f1 f2) (by decide)
  have H := SX.runX (w := w) (List.flatten [(.bool (x0b 0) :: .string (x0s 0) :: .string (x0s 1) :: .bool (x0b 1) :: .string (x0s 2) :: .string (x0s 3) :: .bool (x0b 2) :: .string (x0s 4) :: .string (x0s 5) :: .bool (x0b 3) :: .string (x0s 6) :: .string (x0s 7) :: .bool (x0b 4) :: .string (x0s 8) :: .string (x0s 9) :: .bool (x0b 5) :: .string (x0s 10) :: .string (x0s 11) :: .bool (x0b 6) :: .string (x0s 12) :: .string (x0s 13) :: .bool (x0b 7) :: .string (x0s 14) :: .string (x0s 15) :: .bool (x0b 8) :: .string (x0s 16) :: .string (x0s 17) :: .bool (x0b 9) :: .string (x0s 18) :: .string (x0s 19) :: .bool (x0b 10) :: .string (x0s 20) :: .string (x0s 21) :: .bool (x0b 11) :: .string (x0s 22) :: .string (x0s 23) :: []), qc (x0.x.a * x0.y.b), qc (x0.x.b * x0.y.a), qc ((x0.x.a * x0.y.b) - (x0.x.b * x0.y.a))]) [] [] [.agg [.p (.at 0), .p (.at 1), .p (.at 2), .p (.at 3), .p (.at 4), .p (.at 5), .p (.at 6), .p (.at 7), .p (.at 8), .p (.at 9), .p (.at 10), .p (.at 11), .p (.at 12), .p (.at 13), .p (.at 14), .p (.at 15), .p (.at 16), .p (.at 17), .p (.at 18), .p (.at 19), .p (.at 20), .p (.at 21), .p (.at 22), .p (.at 23), .p (.at 24), .p (.at 25), .p (.at 26), .p (.at 27), .p (.at 28), .p (.at 29), .p (.at 30), .p (.at 31), .p (.at 32), .p (.at 33), .p (.at 34), .p (.at 35)], .c (.p (.lit (.int .i64 (2)))), .c (.p (.lit (.int .i64 (2))))] 36 [] (.one (.ga 42 3)) [.call 67 [.ga 0 3, .ga 15 3] (.one (.ga 36 3)) [], .call 67 [.ga 3 3, .ga 12 3] (.one (.ga 39 3)) [], .call 81 [.ga 36 3, .ga 39 3] (.one (.ga 42 3)) []] ⟨rfl, fun b t l h => by simp at h⟩ Tryz.func52 (by kernel_rfl) rfl rfl (by kernel_rfl)
    ⟨fun γ w' _ _ => rMul wx00 (by decide) wx05 (by decide) w',
     fun γ w' _ _ => rMul wx01 (by decide) wx04 (by decide) w',
     fun γ w' _ _ => rSub (IsQ.can f1) (by decide) (IsQ.can f2) (by decide) w'⟩
  exact H
set_option maxRecDepth 100000 in
theorem u7Det {ux0 : Value} {x0 : M3} {kx0 : Nat} (hx0 : IsM ux0 x0 kx0) (lx0 : kx0 ≤ 2000) (w : World) :
    Calls Tryz.prog 19 #[ux0] w fun e w' => e = .returned (QV (detM x0)) ∧ Below w.heap.size w w' := by
  replace hx0 := hx0.up lx0
  have zx0 := hx0.sz (by decide)
  obtain ⟨x0b, x0s, rfl, wx00, wx01, wx02, wx03, wx04, wx05, wx06, wx07, wx08, wx09, wx010, wx011⟩ := id hx0
  have f1 : Rk (0 : Rat) 1 := Rk.up ((⟨by decide +kernel, by decide +kernel⟩ : Rk (0 : Rat) 1)) (by decide)
  have f2 : Rk (x0.y.b * x0.z.c - x0.y.c * x0.z.b) 8001 := Rk.up ((Rk.min2 zx0.2.1.2.1 zx0.2.1.2.2.1 zx0.2.2.2.1 zx0.2.2.2.2.1)) (by decide)
  have f3 : Rk (x0.x.a * (x0.y.b * x0.z.c - x0.y.c * x0.z.b)) 10001 := Rk.up (Is.mul zx0.1.1 f2) (by decide)
  have f4 : Rk ((0 : Rat) + (x0.x.a * (x0.y.b * x0.z.c - x0.y.c * x0.z.b))) 10003 := Rk.up (Rk.add f1 f3) (by decide)
  have f5 : Rk (x0.y.c * x0.z.a - x0.y.a * x0.z.c) 8001 := Rk.up ((Rk.min2 zx0.2.1.2.2.1 zx0.2.1.1 zx0.2.2.2.2.1 zx0.2.2.1)) (by decide)
  have f6 : Rk (x0.x.b * (x0.y.c * x0.z.a - x0.y.a * x0.z.c)) 10001 := Rk.up (Is.mul zx0.1.2.1 f5) (by decide)
  have f7 : Rk (((0 : Rat) + (x0.x.a * (x0.y.b * x0.z.c - x0.y.c * x0.z.b))) + (x0.x.b * (x0.y.c * x0.z.a - x0.y.a * x0.z.c))) 20005 := Rk.up (Rk.add f4 f6) (by decide)
  have f8 : Rk (x0.y.a * x0.z.b - x0.y.b * x0.z.a) 8001 := Rk.up ((Rk.min2 zx0.2.1.1 zx0.2.1.2.1 zx0.2.2.1 zx0.2.2.2.1)) (by decide)
  have f9 : Rk (x0.x.c * (x0.y.a * x0.z.b - x0.y.b * x0.z.a)) 10001 := Rk.up (Is.mul zx0.1.2.2.1 f8) (by decide)
  have f10 : Rk ((((0 : Rat) + (x0.x.a * (x0.y.b * x0.z.c - x0.y.c * x0.z.b))) + (x0.x.b * (x0.y.c * x0.z.a - x0.y.a * x0.z.c))) + (x0.x.c * (x0.y.a * x0.z.b - x0.y.b * x0.z.a))) 30007 := Rk.up (Rk.add f7 f9) (by decide)
  have H := SX.run (w := w) (List.flatten [(.bool (x0b 0) :: .string (x0s 0) :: .string (x0s 1) :: .bool (x0b 1) :: .string (x0s 2) :: .string (x0s 3) :: .bool (x0b 2) :: .string (x0s 4) :: .string (x0s 5) :: .bool (x0b 3) :: .string (x0s 6) :: .string (x0s 7) :: .bool (x0b 4) :: .string (x0s 8) :: .string (x0s 9) :: .bool (x0b 5) :: .string (x0s 10) :: .string (x0s 11) :: .bool (x0b 6) :: .string (x0s 12) :: .string (x0s 13) :: .bool (x0b 7) :: .string (x0s 14) :: .string (x0s 15) :: .bool (x0b 8) :: .string (x0s 16) :: .string (x0s 17) :: .bool (x0b 9) :: .string (x0s 18) :: .string (x0s 19) :: .bool (x0b 10) :: .string (x0s 20) :: .string (x0s 21) :: .bool (x0b 11) :: .string (x0s 22) :: .string (x0s 23) :: .bool (sg (0 : Rat).num) :: .string (mg (0 : Rat).num) :: .string (dm (0 : Rat).den) :: []), qc (x0.y.b * x0.z.c - x0.y.c * x0.z.b), qc (x0.x.a * (x0.y.b * x0.z.c - x0.y.c * x0.z.b)), qc ((0 : Rat) + (x0.x.a * (x0.y.b * x0.z.c - x0.y.c * x0.z.b))), qc (x0.y.c * x0.z.a - x0.y.a * x0.z.c), qc (x0.x.b * (x0.y.c * x0.z.a - x0.y.a * x0.z.c)), qc (((0 : Rat) + (x0.x.a * (x0.y.b * x0.z.c - x0.y.c * x0.z.b))) + (x0.x.b * (x0.y.c * x0.z.a - x0.y.a * x0.z.c))), qc (x0.y.a * x0.z.b - x0.y.b * x0.z.a), qc (x0.x.c * (x0.y.a * x0.z.b - x0.y.b * x0.z.a)), qc ((((0 : Rat) + (x0.x.a * (x0.y.b * x0.z.c - x0.y.c * x0.z.b))) + (x0.x.b * (x0.y.c * x0.z.a - x0.y.a * x0.z.c))) + (x0.x.c * (x0.y.a * x0.z.b - x0.y.b * x0.z.a)))]) [] [.ga 0 36] 36 (.one (.ga 63 3)) [.call 65 [.c (.p (.lit (.int .i64 0)))] (.one (.ga 36 3)) [], .call 52 [.ga 0 36, .c (.p (.lit (.int .i64 0))), .c (.p (.lit (.int .i64 0)))] (.one (.ga 39 3)) [], .call 67 [.ga 0 3, .ga 39 3] (.one (.ga 42 3)) [], .call 66 [.ga 36 3, .ga 42 3] (.one (.ga 45 3)) [], .call 52 [.ga 0 36, .c (.p (.lit (.int .i64 0))), .c (.p (.lit (.int .i64 1)))] (.one (.ga 48 3)) [], .call 67 [.ga 3 3, .ga 48 3] (.one (.ga 51 3)) [], .call 66 [.ga 45 3, .ga 51 3] (.one (.ga 54 3)) [], .call 52 [.ga 0 36, .c (.p (.lit (.int .i64 0))), .c (.p (.lit (.int .i64 2)))] (.one (.ga 57 3)) [], .call 67 [.ga 6 3, .ga 57 3] (.one (.ga 60 3)) [], .call 66 [.ga 54 3, .ga 60 3] (.one (.ga 63 3)) []] Tryz.func19 (by kernel_rfl) rfl (by kernel_rfl) rfl (by kernel_rfl)
    ⟨fun γ w' _ _ => by have h := u7num_0 w'; exact h,
     fun γ w' _ _ => by have h := u7minor_00 hx0 (by decide) w'; exact h,
     fun γ w' _ _ => rMul wx00 (by decide) (IsQ.can f2) (by decide) w',
     fun γ w' _ _ => rAdd (IsQ.can f1) (by decide) (IsQ.can f3) (by decide) w',
     fun γ w' _ _ => by have h := u7minor_01 hx0 (by decide) w'; exact h,
     fun γ w' _ _ => rMul wx01 (by decide) (IsQ.can f5) (by decide) w',
     fun γ w' _ _ => rAdd (IsQ.can f4) (by decide) (IsQ.can f6) (by decide) w',
     fun γ w' _ _ => by have h := u7minor_02 hx0 (by decide) w'; exact h,
     fun γ w' _ _ => rMul wx02 (by decide) (IsQ.can f8) (by decide) w',
     fun γ w' _ _ => rAdd (IsQ.can f7) (by decide) (IsQ.can f9) (by decide) w'⟩
  exact H
set_option maxHeartbeats 2000000 in
set_option maxRecDepth 100000 in
theorem u7Vec {ux0 : Value} {x0 : M3} {kx0 : Nat} (hx0 : IsM ux0 x0 kx0) (lx0 : kx0 ≤ 8000) {ux1 : Value} {x1 : P3} {kx1 : Nat} (hx1 : IsV ux1 x1 kx1) (lx1 : kx1 ≤ 8000) (w : World) :
    Calls Tryz.prog 53 #[ux0, ux1] w fun e w' => e = .returned (VV (vecM x0 x1)) ∧ Below w.heap.size w w' := by
  replace hx0 := hx0.up lx0
  have zx0 := hx0.sz (by decide)
  obtain ⟨x0b, x0s, rfl, wx00, wx01, wx02, wx03, wx04, wx05, wx06, wx07, wx08, wx09, wx010, wx011⟩ := id hx0
  replace hx1 := hx1.up lx1
  have zx1 := hx1.sz (by decide)
  obtain ⟨x10, x11, x12, x13, x14, x15, x16, x17, x18, rfl, ex10, sx11, sx12, ex11, sx14, sx15, ex12, sx17, sx18⟩ := id hx1
  have wx10 : IsQ (.agg #[.bool x10, .string x11, .string x12]) x1.x 8000 := ⟨x10, x11, x12, rfl, ex10, sx11, sx12⟩
  have zx10 := wx10.sz (by decide)
  have wx11 : IsQ (.agg #[.bool x13, .string x14, .string x15]) x1.y 8000 := ⟨x13, x14, x15, rfl, ex11, sx14, sx15⟩
  have zx11 := wx11.sz (by decide)
  have wx12 : IsQ (.agg #[.bool x16, .string x17, .string x18]) x1.z 8000 := ⟨x16, x17, x18, rfl, ex12, sx17, sx18⟩
  have zx12 := wx12.sz (by decide)
  have f1 : Rk x0.x.d 8000 := Rk.up (zx0.1.2.2.2) (by decide)
  have f2 : Rk (x0.x.a * x1.x) 16000 := Rk.up (Is.mul zx0.1.1 zx10) (by decide)
  have f3 : Rk (x0.x.d + (x0.x.a * x1.x)) 24001 := Rk.up (Rk.add f1 f2) (by decide)
  have f4 : Rk (x0.x.b * x1.y) 16000 := Rk.up (Is.mul zx0.1.2.1 zx11) (by decide)
  have f5 : Rk ((x0.x.d + (x0.x.a * x1.x)) + (x0.x.b * x1.y)) 40002 := Rk.up (Rk.add f3 f4) (by decide)
  have f6 : Rk (x0.x.c * x1.z) 16000 := Rk.up (Is.mul zx0.1.2.2.1 zx12) (by decide)
  have f7 : Rk (((x0.x.d + (x0.x.a * x1.x)) + (x0.x.b * x1.y)) + (x0.x.c * x1.z)) 56003 := Rk.up (Rk.add f5 f6) (by decide)
  have f8 : Rk x0.y.d 8000 := Rk.up (zx0.2.1.2.2.2) (by decide)
  have f9 : Rk (x0.y.a * x1.x) 16000 := Rk.up (Is.mul zx0.2.1.1 zx10) (by decide)
  have f10 : Rk (x0.y.d + (x0.y.a * x1.x)) 24001 := Rk.up (Rk.add f8 f9) (by decide)
  have f11 : Rk (x0.y.b * x1.y) 16000 := Rk.up (Is.mul zx0.2.1.2.1 zx11) (by decide)
  have f12 : Rk ((x0.y.d + (x0.y.a * x1.x)) + (x0.y.b * x1.y)) 40002 := Rk.up (Rk.add f10 f11) (by decide)
  have f13 : Rk (x0.y.c * x1.z) 16000 := Rk.up (Is.mul zx0.2.1.2.2.1 zx12) (by decide)
  have f14 : Rk (((x0.y.d + (x0.y.a * x1.x)) + (x0.y.b * x1.y)) + (x0.y.c * x1.z)) 56003 := Rk.up (Rk.add f12 f13) (by decide)
  have f15 : Rk x0.z.d 8000 := Rk.up (zx0.2.2.2.2.2) (by decide)
  have f16 : Rk (x0.z.a * x1.x) 16000 := Rk.up (Is.mul zx0.2.2.1 zx10) (by decide)
  have f17 : Rk (x0.z.d + (x0.z.a * x1.x)) 24001 := Rk.up (Rk.add f15 f16) (by decide)
  have f18 : Rk (x0.z.b * x1.y) 16000 := Rk.up (Is.mul zx0.2.2.2.1 zx11) (by decide)
  have f19 : Rk ((x0.z.d + (x0.z.a * x1.x)) + (x0.z.b * x1.y)) 40002 := Rk.up (Rk.add f17 f18) (by decide)
  have f20 : Rk (x0.z.c * x1.z) 16000 := Rk.up (Is.mul zx0.2.2.2.2.1 zx12) (by decide)
  have f21 : Rk (((x0.z.d + (x0.z.a * x1.x)) + (x0.z.b * x1.y)) + (x0.z.c * x1.z)) 56003 := Rk.up (Rk.add f19 f20) (by decide)
  have H := SX.run (w := w) (List.flatten [(.bool (x0b 0) :: .string (x0s 0) :: .string (x0s 1) :: .bool (x0b 1) :: .string (x0s 2) :: .string (x0s 3) :: .bool (x0b 2) :: .string (x0s 4) :: .string (x0s 5) :: .bool (x0b 3) :: .string (x0s 6) :: .string (x0s 7) :: .bool (x0b 4) :: .string (x0s 8) :: .string (x0s 9) :: .bool (x0b 5) :: .string (x0s 10) :: .string (x0s 11) :: .bool (x0b 6) :: .string (x0s 12) :: .string (x0s 13) :: .bool (x0b 7) :: .string (x0s 14) :: .string (x0s 15) :: .bool (x0b 8) :: .string (x0s 16) :: .string (x0s 17) :: .bool (x0b 9) :: .string (x0s 18) :: .string (x0s 19) :: .bool (x0b 10) :: .string (x0s 20) :: .string (x0s 21) :: .bool (x0b 11) :: .string (x0s 22) :: .string (x0s 23) :: .bool x10 :: .string x11 :: .string x12 :: .bool x13 :: .string x14 :: .string x15 :: .bool x16 :: .string x17 :: .string x18 :: []), qc x0.x.d, qc (x0.x.a * x1.x), qc (x0.x.d + (x0.x.a * x1.x)), qc (x0.x.b * x1.y), qc ((x0.x.d + (x0.x.a * x1.x)) + (x0.x.b * x1.y)), qc (x0.x.c * x1.z), qc (((x0.x.d + (x0.x.a * x1.x)) + (x0.x.b * x1.y)) + (x0.x.c * x1.z)), qc x0.y.d, qc (x0.y.a * x1.x), qc (x0.y.d + (x0.y.a * x1.x)), qc (x0.y.b * x1.y), qc ((x0.y.d + (x0.y.a * x1.x)) + (x0.y.b * x1.y)), qc (x0.y.c * x1.z), qc (((x0.y.d + (x0.y.a * x1.x)) + (x0.y.b * x1.y)) + (x0.y.c * x1.z)), qc x0.z.d, qc (x0.z.a * x1.x), qc (x0.z.d + (x0.z.a * x1.x)), qc (x0.z.b * x1.y), qc ((x0.z.d + (x0.z.a * x1.x)) + (x0.z.b * x1.y)), qc (x0.z.c * x1.z), qc (((x0.z.d + (x0.z.a * x1.x)) + (x0.z.b * x1.y)) + (x0.z.c * x1.z))]) [] [.ga 0 36, .ga 36 9] 45 (.one (.agg [.pa 63, .pa 64, .pa 65, .pa 84, .pa 85, .pa 86, .pa 105, .pa 106, .pa 107])) [.call 71 [.ga 9 3] (.one (.ga 45 3)) [], .call 67 [.ga 0 3, .ga 36 3] (.one (.ga 48 3)) [], .call 66 [.ga 45 3, .ga 48 3] (.one (.ga 51 3)) [], .call 67 [.ga 3 3, .ga 39 3] (.one (.ga 54 3)) [], .call 66 [.ga 51 3, .ga 54 3] (.one (.ga 57 3)) [], .call 67 [.ga 6 3, .ga 42 3] (.one (.ga 60 3)) [], .call 66 [.ga 57 3, .ga 60 3] (.one (.ga 63 3)) [], .call 71 [.ga 21 3] (.one (.ga 66 3)) [], .call 67 [.ga 12 3, .ga 36 3] (.one (.ga 69 3)) [], .call 66 [.ga 66 3, .ga 69 3] (.one (.ga 72 3)) [], .call 67 [.ga 15 3, .ga 39 3] (.one (.ga 75 3)) [], .call 66 [.ga 72 3, .ga 75 3] (.one (.ga 78 3)) [], .call 67 [.ga 18 3, .ga 42 3] (.one (.ga 81 3)) [], .call 66 [.ga 78 3, .ga 81 3] (.one (.ga 84 3)) [], .call 71 [.ga 33 3] (.one (.ga 87 3)) [], .call 67 [.ga 24 3, .ga 36 3] (.one (.ga 90 3)) [], .call 66 [.ga 87 3, .ga 90 3] (.one (.ga 93 3)) [], .call 67 [.ga 27 3, .ga 39 3] (.one (.ga 96 3)) [], .call 66 [.ga 93 3, .ga 96 3] (.one (.ga 99 3)) [], .call 67 [.ga 30 3, .ga 42 3] (.one (.ga 102 3)) [], .call 66 [.ga 99 3, .ga 102 3] (.one (.ga 105 3)) []] Tryz.func53 (by kernel_rfl) rfl (by kernel_rfl) rfl (by kernel_rfl)
    ⟨fun γ w' _ _ => rNorm wx03 (by decide) w',
     fun γ w' _ _ => rMul wx00 (by decide) wx10 (by decide) w',
     fun γ w' _ _ => rAdd (IsQ.can f1) (by decide) (IsQ.can f2) (by decide) w',
     fun γ w' _ _ => rMul wx01 (by decide) wx11 (by decide) w',
     fun γ w' _ _ => rAdd (IsQ.can f3) (by decide) (IsQ.can f4) (by decide) w',
     fun γ w' _ _ => rMul wx02 (by decide) wx12 (by decide) w',
     fun γ w' _ _ => rAdd (IsQ.can f5) (by decide) (IsQ.can f6) (by decide) w',
     fun γ w' _ _ => rNorm wx07 (by decide) w',
     fun γ w' _ _ => rMul wx04 (by decide) wx10 (by decide) w',
     fun γ w' _ _ => rAdd (IsQ.can f8) (by decide) (IsQ.can f9) (by decide) w',
     fun γ w' _ _ => rMul wx05 (by decide) wx11 (by decide) w',
     fun γ w' _ _ => rAdd (IsQ.can f10) (by decide) (IsQ.can f11) (by decide) w',
     fun γ w' _ _ => rMul wx06 (by decide) wx12 (by decide) w',
     fun γ w' _ _ => rAdd (IsQ.can f12) (by decide) (IsQ.can f13) (by decide) w',
     fun γ w' _ _ => rNorm wx011 (by decide) w',
     fun γ w' _ _ => rMul wx08 (by decide) wx10 (by decide) w',
     fun γ w' _ _ => rAdd (IsQ.can f15) (by decide) (IsQ.can f16) (by decide) w',
     fun γ w' _ _ => rMul wx09 (by decide) wx11 (by decide) w',
     fun γ w' _ _ => rAdd (IsQ.can f17) (by decide) (IsQ.can f18) (by decide) w',
     fun γ w' _ _ => rMul wx010 (by decide) wx12 (by decide) w',
     fun γ w' _ _ => rAdd (IsQ.can f19) (by decide) (IsQ.can f20) (by decide) w'⟩
  exact H
set_option maxRecDepth 100000 in
theorem u7Point {ux0 : Value} {x0 : M3} {kx0 : Nat} (hx0 : IsM ux0 x0 kx0) (lx0 : kx0 ≤ 1000) {ux1 : Value} {x1 : P3} {kx1 : Nat} (hx1 : IsP ux1 x1 kx1) (lx1 : kx1 ≤ 1000) (w : World) :
    Calls Tryz.prog 17 #[ux0, ux1] w fun e w' => e = .returned (PV (vecM x0 x1)) ∧ Below w.heap.size w w' := by
  replace hx0 := hx0.up lx0
  have zx0 := hx0.sz (by decide)
  obtain ⟨x0b, x0s, rfl, wx00, wx01, wx02, wx03, wx04, wx05, wx06, wx07, wx08, wx09, wx010, wx011⟩ := id hx0
  replace hx1 := hx1.up lx1
  have zx1 := hx1.sz (by decide)
  obtain ⟨x1q, hx1q, ex1⟩ := id hx1
  obtain ⟨x10, x11, x12, x13, x14, x15, x16, x17, rfl, ex10, sx11, ex11, sx13, ex12, sx15, ex13, sx17⟩ := id hx1q
  have wx10 : IsZ (.agg #[.bool x10, .string x11]) x1q.a 1000 := ⟨x10, x11, rfl, ex10, sx11⟩
  have zx10 := wx10.sz
  have wx11 : IsZ (.agg #[.bool x12, .string x13]) x1q.b 1000 := ⟨x12, x13, rfl, ex11, sx13⟩
  have zx11 := wx11.sz
  have wx12 : IsZ (.agg #[.bool x14, .string x15]) x1q.c 1000 := ⟨x14, x15, rfl, ex12, sx15⟩
  have zx12 := wx12.sz
  have wx13 : IsZ (.agg #[.bool x16, .string x17]) x1q.d 1000 := ⟨x16, x17, rfl, ex13, sx17⟩
  have zx13 := wx13.sz
  have f1 : Vk x1 1000 := Vk.up ((Vk.ofP1 zx1)) (by decide)
  have f2 : Vk (vecM x0 x1) 7003 := Vk.up ((Vk.vecM zx0 f1)) (by decide)
  have f3 : Pk (vecM x0 x1) 21009 := Pk.up ((Pk.ofV f2)) (by decide)
  have H := SX.run (w := w) (List.flatten [(.bool (x0b 0) :: .string (x0s 0) :: .string (x0s 1) :: .bool (x0b 1) :: .string (x0s 2) :: .string (x0s 3) :: .bool (x0b 2) :: .string (x0s 4) :: .string (x0s 5) :: .bool (x0b 3) :: .string (x0s 6) :: .string (x0s 7) :: .bool (x0b 4) :: .string (x0s 8) :: .string (x0s 9) :: .bool (x0b 5) :: .string (x0s 10) :: .string (x0s 11) :: .bool (x0b 6) :: .string (x0s 12) :: .string (x0s 13) :: .bool (x0b 7) :: .string (x0s 14) :: .string (x0s 15) :: .bool (x0b 8) :: .string (x0s 16) :: .string (x0s 17) :: .bool (x0b 9) :: .string (x0s 18) :: .string (x0s 19) :: .bool (x0b 10) :: .string (x0s 20) :: .string (x0s 21) :: .bool (x0b 11) :: .string (x0s 22) :: .string (x0s 23) :: .bool x10 :: .string x11 :: .bool x12 :: .string x13 :: .bool x14 :: .string x15 :: .bool x16 :: .string x17 :: []), vc x1, vc (vecM x0 x1), pc (vecM x0 x1)]) [] [.ga 0 36, .ga 36 8] 44 (.one (.ga 62 8)) [.call 62 [.ga 36 8] (.one (.ga 44 9)) [], .call 53 [.ga 0 36, .ga 44 9] (.one (.ga 53 9)) [], .call 61 [.ga 53 9] (.one (.ga 62 8)) []] Tryz.func17 (by kernel_rfl) rfl (by kernel_rfl) rfl (by kernel_rfl)
    ⟨fun γ w' _ _ => p4Coords hx1 (by decide) w',
     fun γ w' _ _ => by have h := u7Vec hx0 (by decide) (IsV.can f1) (by decide) w'; exact h,
     fun γ w' _ _ => p4Make (IsV.can f2) (by decide) w'⟩
  exact H
set_option maxRecDepth 100000 in
theorem u7Back_0 {ux0 : Value} {x0 : M3} {kx0 : Nat} (hx0 : IsM ux0 x0 kx0) (lx0 : kx0 ≤ 400) (w : World) (hd : detM x0 = 0) :
    Calls Tryz.prog 15 #[ux0] w fun e w' => e = .returned (.tuple #[.agg #[.bool false, .string ⟨#[]⟩, .string ⟨#[]⟩, .bool false, .string ⟨#[]⟩, .string ⟨#[]⟩, .bool false, .string ⟨#[]⟩, .string ⟨#[]⟩, .bool false, .string ⟨#[]⟩, .string ⟨#[]⟩, .bool false, .string ⟨#[]⟩, .string ⟨#[]⟩, .bool false, .string ⟨#[]⟩, .string ⟨#[]⟩, .bool false, .string ⟨#[]⟩, .string ⟨#[]⟩, .bool false, .string ⟨#[]⟩, .string ⟨#[]⟩, .bool false, .string ⟨#[]⟩, .string ⟨#[]⟩, .bool false, .string ⟨#[]⟩, .string ⟨#[]⟩, .bool false, .string ⟨#[]⟩, .string ⟨#[]⟩, .bool false, .string ⟨#[]⟩, .string ⟨#[]⟩], .bool false]) ∧ Below w.heap.size w w' := by
  replace hx0 := hx0.up lx0
  have zx0 := hx0.sz (by decide)
  obtain ⟨x0b, x0s, rfl, wx00, wx01, wx02, wx03, wx04, wx05, wx06, wx07, wx08, wx09, wx010, wx011⟩ := id hx0
  have f1 : Rk (detM x0) 6007 := Rk.up ((Rk.detM zx0)) (by decide)
  have H := SX.run (w := w) (List.flatten [(.bool (x0b 0) :: .string (x0s 0) :: .string (x0s 1) :: .bool (x0b 1) :: .string (x0s 2) :: .string (x0s 3) :: .bool (x0b 2) :: .string (x0s 4) :: .string (x0s 5) :: .bool (x0b 3) :: .string (x0s 6) :: .string (x0s 7) :: .bool (x0b 4) :: .string (x0s 8) :: .string (x0s 9) :: .bool (x0b 5) :: .string (x0s 10) :: .string (x0s 11) :: .bool (x0b 6) :: .string (x0s 12) :: .string (x0s 13) :: .bool (x0b 7) :: .string (x0s 14) :: .string (x0s 15) :: .bool (x0b 8) :: .string (x0s 16) :: .string (x0s 17) :: .bool (x0b 9) :: .string (x0s 18) :: .string (x0s 19) :: .bool (x0b 10) :: .string (x0s 20) :: .string (x0s 21) :: .bool (x0b 11) :: .string (x0s 22) :: .string (x0s 23) :: []), qc (detM x0), [.int .i64 (sgQ (detM x0)), .bool true]]) [.b true] [.ga 0 36] 36 (.tup [.agg [.p (.lit (.bool false)), .p (.lit (.string ⟨#[]⟩)), .p (.lit (.string ⟨#[]⟩)), .p (.lit (.bool false)), .p (.lit (.string ⟨#[]⟩)), .p (.lit (.string ⟨#[]⟩)), .p (.lit (.bool false)), .p (.lit (.string ⟨#[]⟩)), .p (.lit (.string ⟨#[]⟩)), .p (.lit (.bool false)), .p (.lit (.string ⟨#[]⟩)), .p (.lit (.string ⟨#[]⟩)), .p (.lit (.bool false)), .p (.lit (.string ⟨#[]⟩)), .p (.lit (.string ⟨#[]⟩)), .p (.lit (.bool false)), .p (.lit (.string ⟨#[]⟩)), .p (.lit (.string ⟨#[]⟩)), .p (.lit (.bool false)), .p (.lit (.string ⟨#[]⟩)), .p (.lit (.string ⟨#[]⟩)), .p (.lit (.bool false)), .p (.lit (.string ⟨#[]⟩)), .p (.lit (.string ⟨#[]⟩)), .p (.lit (.bool false)), .p (.lit (.string ⟨#[]⟩)), .p (.lit (.string ⟨#[]⟩)), .p (.lit (.bool false)), .p (.lit (.string ⟨#[]⟩)), .p (.lit (.string ⟨#[]⟩)), .p (.lit (.bool false)), .p (.lit (.string ⟨#[]⟩)), .p (.lit (.string ⟨#[]⟩)), .p (.lit (.bool false)), .p (.lit (.string ⟨#[]⟩)), .p (.lit (.string ⟨#[]⟩))], .c (.p (.lit (.bool false)))]) [.call 19 [.ga 0 36] (.one (.ga 36 3)) [], .call 50 [.ga 36 3] (.one (.ca 39)) [], .op2 false .eql (.pa 39) (.p (.lit (.int .i64 0))) 40, .isB 40 true] Tryz.func15 (by kernel_rfl) rfl (by kernel_rfl) rfl (by kernel_rfl)
    ⟨fun γ w' _ _ => by have h := u7Det hx0 (by decide) w'; exact h,
     fun γ w' _ _ => rSign (IsQ.can f1) (by decide) w',
     congrArg (fun z => some (Value.bool z)) (by rw [sgQ_beq]; exact decide_eq_true hd : ((sgQ (detM x0)) == (0 : Int)) = true),
     rfl⟩
  exact H
set_option maxHeartbeats 4000000 in
set_option maxRecDepth 100000 in
theorem u7Back_1 {ux0 : Value} {x0 : M3} {kx0 : Nat} (hx0 : IsM ux0 x0 kx0) (lx0 : kx0 ≤ 400) (w : World) (hd : detM x0 ≠ 0) :
    Calls Tryz.prog 15 #[ux0] w fun e w' => e = .returned (.tuple #[MV (invM x0), .bool true]) ∧ Below w.heap.size w w' := by
  replace hx0 := hx0.up lx0
  have zx0 := hx0.sz (by decide)
  obtain ⟨x0b, x0s, rfl, wx00, wx01, wx02, wx03, wx04, wx05, wx06, wx07, wx08, wx09, wx010, wx011⟩ := id hx0
  have f1 : Rk (detM x0) 6007 := Rk.up ((Rk.detM zx0)) (by decide)
  have f2 : Mk idM 1 := Mk.up (Mk.idM) (by decide)
  have f3 : Rk (x0.y.b * x0.z.c - x0.y.c * x0.z.b) 1601 := Rk.up ((Rk.min2 zx0.2.1.2.1 zx0.2.1.2.2.1 zx0.2.2.2.1 zx0.2.2.2.2.1)) (by decide)
  have f4 : Rk ((x0.y.b * x0.z.c - x0.y.c * x0.z.b) / (detM x0)) 7609 := Rk.up (Is.quo f3 f1) (by decide)
  have f5 : Rk (x0.z.b * x0.x.c - x0.z.c * x0.x.b) 1601 := Rk.up ((Rk.min2 zx0.2.2.2.1 zx0.2.2.2.2.1 zx0.1.2.1 zx0.1.2.2.1)) (by decide)
  have f6 : Rk ((x0.z.b * x0.x.c - x0.z.c * x0.x.b) / (detM x0)) 7609 := Rk.up (Is.quo f5 f1) (by decide)
  have f7 : Rk (x0.x.b * x0.y.c - x0.x.c * x0.y.b) 1601 := Rk.up ((Rk.min2 zx0.1.2.1 zx0.1.2.2.1 zx0.2.1.2.1 zx0.2.1.2.2.1)) (by decide)
  have f8 : Rk ((x0.x.b * x0.y.c - x0.x.c * x0.y.b) / (detM x0)) 7609 := Rk.up (Is.quo f7 f1) (by decide)
  have f9 : Rk (x0.y.c * x0.z.a - x0.y.a * x0.z.c) 1601 := Rk.up ((Rk.min2 zx0.2.1.2.2.1 zx0.2.1.1 zx0.2.2.2.2.1 zx0.2.2.1)) (by decide)
  have f10 : Rk ((x0.y.c * x0.z.a - x0.y.a * x0.z.c) / (detM x0)) 7609 := Rk.up (Is.quo f9 f1) (by decide)
  have f11 : Rk (x0.z.c * x0.x.a - x0.z.a * x0.x.c) 1601 := Rk.up ((Rk.min2 zx0.2.2.2.2.1 zx0.2.2.1 zx0.1.2.2.1 zx0.1.1)) (by decide)
  have f12 : Rk ((x0.z.c * x0.x.a - x0.z.a * x0.x.c) / (detM x0)) 7609 := Rk.up (Is.quo f11 f1) (by decide)
  have f13 : Rk (x0.x.c * x0.y.a - x0.x.a * x0.y.c) 1601 := Rk.up ((Rk.min2 zx0.1.2.2.1 zx0.1.1 zx0.2.1.2.2.1 zx0.2.1.1)) (by decide)
  have f14 : Rk ((x0.x.c * x0.y.a - x0.x.a * x0.y.c) / (detM x0)) 7609 := Rk.up (Is.quo f13 f1) (by decide)
  have f15 : Rk (x0.y.a * x0.z.b - x0.y.b * x0.z.a) 1601 := Rk.up ((Rk.min2 zx0.2.1.1 zx0.2.1.2.1 zx0.2.2.1 zx0.2.2.2.1)) (by decide)
  have f16 : Rk ((x0.y.a * x0.z.b - x0.y.b * x0.z.a) / (detM x0)) 7609 := Rk.up (Is.quo f15 f1) (by decide)
  have f17 : Rk (x0.z.a * x0.x.b - x0.z.b * x0.x.a) 1601 := Rk.up ((Rk.min2 zx0.2.2.1 zx0.2.2.2.1 zx0.1.1 zx0.1.2.1)) (by decide)
  have f18 : Rk ((x0.z.a * x0.x.b - x0.z.b * x0.x.a) / (detM x0)) 7609 := Rk.up (Is.quo f17 f1) (by decide)
  have f19 : Rk (x0.x.a * x0.y.b - x0.x.b * x0.y.a) 1601 := Rk.up ((Rk.min2 zx0.1.1 zx0.1.2.1 zx0.2.1.1 zx0.2.1.2.1)) (by decide)
  have f20 : Rk ((x0.x.a * x0.y.b - x0.x.b * x0.y.a) / (detM x0)) 7609 := Rk.up (Is.quo f19 f1) (by decide)
  have f21 : Rk idM.x.d 1 := Rk.up (f2.1.2.2.2) (by decide)
  have f22 : Rk idM.y.d 1 := Rk.up (f2.2.1.2.2.2) (by decide)
  have f23 : Rk idM.z.d 1 := Rk.up (f2.2.2.2.2.2) (by decide)
  have f24 : IsM (.agg #[.bool (sg ((x0.y.b * x0.z.c - x0.y.c * x0.z.b) / (detM x0)).num), .string (mg ((x0.y.b * x0.z.c - x0.y.c * x0.z.b) / (detM x0)).num), .string (dm ((x0.y.b * x0.z.c - x0.y.c * x0.z.b) / (detM x0)).den), .bool (sg ((x0.z.b * x0.x.c - x0.z.c * x0.x.b) / (detM x0)).num), .string (mg ((x0.z.b * x0.x.c - x0.z.c * x0.x.b) / (detM x0)).num), .string (dm ((x0.z.b * x0.x.c - x0.z.c * x0.x.b) / (detM x0)).den), .bool (sg ((x0.x.b * x0.y.c - x0.x.c * x0.y.b) / (detM x0)).num), .string (mg ((x0.x.b * x0.y.c - x0.x.c * x0.y.b) / (detM x0)).num), .string (dm ((x0.x.b * x0.y.c - x0.x.c * x0.y.b) / (detM x0)).den), .bool (sg idM.x.d.num), .string (mg idM.x.d.num), .string (dm idM.x.d.den), .bool (sg ((x0.y.c * x0.z.a - x0.y.a * x0.z.c) / (detM x0)).num), .string (mg ((x0.y.c * x0.z.a - x0.y.a * x0.z.c) / (detM x0)).num), .string (dm ((x0.y.c * x0.z.a - x0.y.a * x0.z.c) / (detM x0)).den), .bool (sg ((x0.z.c * x0.x.a - x0.z.a * x0.x.c) / (detM x0)).num), .string (mg ((x0.z.c * x0.x.a - x0.z.a * x0.x.c) / (detM x0)).num), .string (dm ((x0.z.c * x0.x.a - x0.z.a * x0.x.c) / (detM x0)).den), .bool (sg ((x0.x.c * x0.y.a - x0.x.a * x0.y.c) / (detM x0)).num), .string (mg ((x0.x.c * x0.y.a - x0.x.a * x0.y.c) / (detM x0)).num), .string (dm ((x0.x.c * x0.y.a - x0.x.a * x0.y.c) / (detM x0)).den), .bool (sg idM.y.d.num), .string (mg idM.y.d.num), .string (dm idM.y.d.den), .bool (sg ((x0.y.a * x0.z.b - x0.y.b * x0.z.a) / (detM x0)).num), .string (mg ((x0.y.a * x0.z.b - x0.y.b * x0.z.a) / (detM x0)).num), .string (dm ((x0.y.a * x0.z.b - x0.y.b * x0.z.a) / (detM x0)).den), .bool (sg ((x0.z.a * x0.x.b - x0.z.b * x0.x.a) / (detM x0)).num), .string (mg ((x0.z.a * x0.x.b - x0.z.b * x0.x.a) / (detM x0)).num), .string (dm ((x0.z.a * x0.x.b - x0.z.b * x0.x.a) / (detM x0)).den), .bool (sg ((x0.x.a * x0.y.b - x0.x.b * x0.y.a) / (detM x0)).num), .string (mg ((x0.x.a * x0.y.b - x0.x.b * x0.y.a) / (detM x0)).num), .string (dm ((x0.x.a * x0.y.b - x0.x.b * x0.y.a) / (detM x0)).den), .bool (sg idM.z.d.num), .string (mg idM.z.d.num), .string (dm idM.z.d.den)]) (linI x0) 7609 := IsM.mk (IsQ.up (IsQ.can f4) (by decide : 7609 ≤ 7609)) (IsQ.up (IsQ.can f6) (by decide : 7609 ≤ 7609)) (IsQ.up (IsQ.can f8) (by decide : 7609 ≤ 7609)) (IsQ.up (IsQ.can f21) (by decide : 1 ≤ 7609)) (IsQ.up (IsQ.can f10) (by decide : 7609 ≤ 7609)) (IsQ.up (IsQ.can f12) (by decide : 7609 ≤ 7609)) (IsQ.up (IsQ.can f14) (by decide : 7609 ≤ 7609)) (IsQ.up (IsQ.can f22) (by decide : 1 ≤ 7609)) (IsQ.up (IsQ.can f16) (by decide : 7609 ≤ 7609)) (IsQ.up (IsQ.can f18) (by decide : 7609 ≤ 7609)) (IsQ.up (IsQ.can f20) (by decide : 7609 ≤ 7609)) (IsQ.up (IsQ.can f23) (by decide : 1 ≤ 7609))
  have f25 : IsV (.agg #[.bool (x0b 3), .string (x0s 6), .string (x0s 7), .bool (x0b 7), .string (x0s 14), .string (x0s 15), .bool (x0b 11), .string (x0s 22), .string (x0s 23)]) (lastM x0) 400 := (IsV.mk wx03 wx07 wx011)
  have f26 : Mk (linI x0) 7609 := IsM.sz f24 (by decide)
  have f27 : Vk (lastM x0) 400 := IsV.sz f25 (by decide)
  have f28 : Vk (vecM (linI x0) (lastM x0)) 31639 := Vk.up ((Vk.vecM f26 f27)) (by decide)
  have f29 : Rk (vecM (linI x0) (lastM x0)).x 31639 := Rk.up (f28.1) (by decide)
  have f30 : Rk (-(vecM (linI x0) (lastM x0)).x) 31639 := Rk.up (Rk.neg f29) (by decide)
  have f31 : Rk (vecM (linI x0) (lastM x0)).y 31639 := Rk.up (f28.2.1) (by decide)
  have f32 : Rk (-(vecM (linI x0) (lastM x0)).y) 31639 := Rk.up (Rk.neg f31) (by decide)
  have f33 : Rk (vecM (linI x0) (lastM x0)).z 31639 := Rk.up (f28.2.2) (by decide)
  have f34 : Rk (-(vecM (linI x0) (lastM x0)).z) 31639 := Rk.up (Rk.neg f33) (by decide)
  have H := SX.run (w := w) (List.flatten [(.bool (x0b 0) :: .string (x0s 0) :: .string (x0s 1) :: .bool (x0b 1) :: .string (x0s 2) :: .string (x0s 3) :: .bool (x0b 2) :: .string (x0s 4) :: .string (x0s 5) :: .bool (x0b 3) :: .string (x0s 6) :: .string (x0s 7) :: .bool (x0b 4) :: .string (x0s 8) :: .string (x0s 9) :: .bool (x0b 5) :: .string (x0s 10) :: .string (x0s 11) :: .bool (x0b 6) :: .string (x0s 12) :: .string (x0s 13) :: .bool (x0b 7) :: .string (x0s 14) :: .string (x0s 15) :: .bool (x0b 8) :: .string (x0s 16) :: .string (x0s 17) :: .bool (x0b 9) :: .string (x0s 18) :: .string (x0s 19) :: .bool (x0b 10) :: .string (x0s 20) :: .string (x0s 21) :: .bool (x0b 11) :: .string (x0s 22) :: .string (x0s 23) :: []), qc (detM x0), [.int .i64 (sgQ (detM x0)), .bool false], mc idM, qc (x0.y.b * x0.z.c - x0.y.c * x0.z.b), qc ((x0.y.b * x0.z.c - x0.y.c * x0.z.b) / (detM x0)), [.bool (decide ((detM x0) ≠ 0))], qc (x0.z.b * x0.x.c - x0.z.c * x0.x.b), qc ((x0.z.b * x0.x.c - x0.z.c * x0.x.b) / (detM x0)), [.bool (decide ((detM x0) ≠ 0))], qc (x0.x.b * x0.y.c - x0.x.c * x0.y.b), qc ((x0.x.b * x0.y.c - x0.x.c * x0.y.b) / (detM x0)), [.bool (decide ((detM x0) ≠ 0))], qc (x0.y.c * x0.z.a - x0.y.a * x0.z.c), qc ((x0.y.c * x0.z.a - x0.y.a * x0.z.c) / (detM x0)), [.bool (decide ((detM x0) ≠ 0))], qc (x0.z.c * x0.x.a - x0.z.a * x0.x.c), qc ((x0.z.c * x0.x.a - x0.z.a * x0.x.c) / (detM x0)), [.bool (decide ((detM x0) ≠ 0))], qc (x0.x.c * x0.y.a - x0.x.a * x0.y.c), qc ((x0.x.c * x0.y.a - x0.x.a * x0.y.c) / (detM x0)), [.bool (decide ((detM x0) ≠ 0))], qc (x0.y.a * x0.z.b - x0.y.b * x0.z.a), qc ((x0.y.a * x0.z.b - x0.y.b * x0.z.a) / (detM x0)), [.bool (decide ((detM x0) ≠ 0))], qc (x0.z.a * x0.x.b - x0.z.b * x0.x.a), qc ((x0.z.a * x0.x.b - x0.z.b * x0.x.a) / (detM x0)), [.bool (decide ((detM x0) ≠ 0))], qc (x0.x.a * x0.y.b - x0.x.b * x0.y.a), qc ((x0.x.a * x0.y.b - x0.x.b * x0.y.a) / (detM x0)), [.bool (decide ((detM x0) ≠ 0))], vc (vecM (linI x0) (lastM x0)), qc (-(vecM (linI x0) (lastM x0)).x), qc (-(vecM (linI x0) (lastM x0)).y), qc (-(vecM (linI x0) (lastM x0)).z)]) [.b false] [.ga 0 36] 36 (.tup [.agg [.pa 80, .pa 81, .pa 82, .pa 87, .pa 88, .pa 89, .pa 94, .pa 95, .pa 96, .pa 149, .pa 150, .pa 151, .pa 101, .pa 102, .pa 103, .pa 108, .pa 109, .pa 110, .pa 115, .pa 116, .pa 117, .pa 152, .pa 153, .pa 154, .pa 122, .pa 123, .pa 124, .pa 129, .pa 130, .pa 131, .pa 136, .pa 137, .pa 138, .pa 155, .pa 156, .pa 157], .c (.p (.lit (.bool true)))]) [.call 19 [.ga 0 36] (.one (.ga 36 3)) [], .call 50 [.ga 36 3] (.one (.ca 39)) [], .op2 false .eql (.pa 39) (.p (.lit (.int .i64 0))) 40, .isB 40 false, .call 23 [] (.one (.ga 41 36)) [], .call 52 [.ga 0 36, .c (.p (.lit (.int .i64 0))), .c (.p (.lit (.int .i64 0)))] (.one (.ga 77 3)) [], .call 51 [.ga 77 3, .ga 36 3] (.tup [.ga 80 3, .ca 83]) [], .call 52 [.ga 0 36, .c (.p (.lit (.int .i64 1))), .c (.p (.lit (.int .i64 0)))] (.one (.ga 84 3)) [], .call 51 [.ga 84 3, .ga 36 3] (.tup [.ga 87 3, .ca 90]) [], .call 52 [.ga 0 36, .c (.p (.lit (.int .i64 2))), .c (.p (.lit (.int .i64 0)))] (.one (.ga 91 3)) [], .call 51 [.ga 91 3, .ga 36 3] (.tup [.ga 94 3, .ca 97]) [], .call 52 [.ga 0 36, .c (.p (.lit (.int .i64 0))), .c (.p (.lit (.int .i64 1)))] (.one (.ga 98 3)) [], .call 51 [.ga 98 3, .ga 36 3] (.tup [.ga 101 3, .ca 104]) [], .call 52 [.ga 0 36, .c (.p (.lit (.int .i64 1))), .c (.p (.lit (.int .i64 1)))] (.one (.ga 105 3)) [], .call 51 [.ga 105 3, .ga 36 3] (.tup [.ga 108 3, .ca 111]) [], .call 52 [.ga 0 36, .c (.p (.lit (.int .i64 2))), .c (.p (.lit (.int .i64 1)))] (.one (.ga 112 3)) [], .call 51 [.ga 112 3, .ga 36 3] (.tup [.ga 115 3, .ca 118]) [], .call 52 [.ga 0 36, .c (.p (.lit (.int .i64 0))), .c (.p (.lit (.int .i64 2)))] (.one (.ga 119 3)) [], .call 51 [.ga 119 3, .ga 36 3] (.tup [.ga 122 3, .ca 125]) [], .call 52 [.ga 0 36, .c (.p (.lit (.int .i64 1))), .c (.p (.lit (.int .i64 2)))] (.one (.ga 126 3)) [], .call 51 [.ga 126 3, .ga 36 3] (.tup [.ga 129 3, .ca 132]) [], .call 52 [.ga 0 36, .c (.p (.lit (.int .i64 2))), .c (.p (.lit (.int .i64 2)))] (.one (.ga 133 3)) [], .call 51 [.ga 133 3, .ga 36 3] (.tup [.ga 136 3, .ca 139]) [], .call 53 [.agg [.pa 80, .pa 81, .pa 82, .pa 87, .pa 88, .pa 89, .pa 94, .pa 95, .pa 96, .pa 50, .pa 51, .pa 52, .pa 101, .pa 102, .pa 103, .pa 108, .pa 109, .pa 110, .pa 115, .pa 116, .pa 117, .pa 62, .pa 63, .pa 64, .pa 122, .pa 123, .pa 124, .pa 129, .pa 130, .pa 131, .pa 136, .pa 137, .pa 138, .pa 74, .pa 75, .pa 76], .agg [.pa 9, .pa 10, .pa 11, .pa 21, .pa 22, .pa 23, .pa 33, .pa 34, .pa 35]] (.one (.ga 140 9)) [], .call 54 [.ga 140 3] (.one (.ga 149 3)) [], .call 54 [.ga 143 3] (.one (.ga 152 3)) [], .call 54 [.ga 146 3] (.one (.ga 155 3)) []] Tryz.func15 (by kernel_rfl) rfl (by kernel_rfl) rfl (by kernel_rfl)
    ⟨fun γ w' _ _ => by have h := u7Det hx0 (by decide) w'; exact h,
     fun γ w' _ _ => rSign (IsQ.can f1) (by decide) w',
     congrArg (fun z => some (Value.bool z)) (by rw [sgQ_beq]; exact decide_eq_false hd : ((sgQ (detM x0)) == (0 : Int)) = false),
     rfl,
     fun γ w' _ _ => by have h := u7Same  w'; exact h,
     fun γ w' _ _ => by have h := u7minor_00 hx0 (by decide) w'; exact h,
     fun γ w' _ _ => rDiv (IsQ.can f3) (by decide) (IsQ.can f1) (by decide) w',
     fun γ w' _ _ => by have h := u7minor_10 hx0 (by decide) w'; exact h,
     fun γ w' _ _ => rDiv (IsQ.can f5) (by decide) (IsQ.can f1) (by decide) w',
     fun γ w' _ _ => by have h := u7minor_20 hx0 (by decide) w'; exact h,
     fun γ w' _ _ => rDiv (IsQ.can f7) (by decide) (IsQ.can f1) (by decide) w',
     fun γ w' _ _ => by have h := u7minor_01 hx0 (by decide) w'; exact h,
     fun γ w' _ _ => rDiv (IsQ.can f9) (by decide) (IsQ.can f1) (by decide) w',
     fun γ w' _ _ => by have h := u7minor_11 hx0 (by decide) w'; exact h,
     fun γ w' _ _ => rDiv (IsQ.can f11) (by decide) (IsQ.can f1) (by decide) w',
     fun γ w' _ _ => by have h := u7minor_21 hx0 (by decide) w'; exact h,
     fun γ w' _ _ => rDiv (IsQ.can f13) (by decide) (IsQ.can f1) (by decide) w',
     fun γ w' _ _ => by have h := u7minor_02 hx0 (by decide) w'; exact h,
     fun γ w' _ _ => rDiv (IsQ.can f15) (by decide) (IsQ.can f1) (by decide) w',
     fun γ w' _ _ => by have h := u7minor_12 hx0 (by decide) w'; exact h,
     fun γ w' _ _ => rDiv (IsQ.can f17) (by decide) (IsQ.can f1) (by decide) w',
     fun γ w' _ _ => by have h := u7minor_22 hx0 (by decide) w'; exact h,
     fun γ w' _ _ => rDiv (IsQ.can f19) (by decide) (IsQ.can f1) (by decide) w',
     fun γ w' _ _ => by have h := u7Vec f24 (by decide) f25 (by decide) w'; exact h,
     fun γ w' _ _ => rNeg (IsQ.can f29) (by decide) w',
     fun γ w' _ _ => rNeg (IsQ.can f31) (by decide) w',
     fun γ w' _ _ => rNeg (IsQ.can f33) (by decide) w'⟩
  exact H
end Go.Proofs.YtodcomijjmobdaaGreatDoor
