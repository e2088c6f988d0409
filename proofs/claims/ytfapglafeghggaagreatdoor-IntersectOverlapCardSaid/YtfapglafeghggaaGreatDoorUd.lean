/- Package intersect. -/
import Derived.Test.YtfapglafeghggaaGreatDoorUc
import Derived.Test.YtfapglafeghggaaGreatDoorUr
import Derived.Test.YtfapglafeghggaaGreatDoorVd
set_option linter.unusedVariables false
set_option linter.unusedSimpArgs false
namespace Go.Proofs.YtfapglafeghggaaGreatDoor
open Go.RowKit NM SX
theorem inCo (a0 : Bool) (a1 : ByteArray) (a2 : Bool) (a3 : ByteArray) (a4 : Bool) (a5 : ByteArray) (a6 : Bool) (a7 : ByteArray) (w : World) :
    Calls Tryz.prog 32 #[.agg #[.bool a0, .string a1, .bool a2, .string a3, .bool a4, .string a5, .bool a6, .string a7]] w fun e w' => e = .returned (.agg #[.bool a0, .string a1, .bool a2, .string a3, .bool a4, .string a5, .bool a6, .string a7]) ∧ Below w.heap.size w w' :=
  SX.run (w := w) [.bool a0, .string a1, .bool a2, .string a3, .bool a4, .string a5, .bool a6, .string a7] [] [S1.ga 0 8] 8 (.one (S1.ga 0 8)) [] Tryz.func32 (by kernel_rfl) rfl (by kernel_rfl) rfl (by kernel_rfl) trivial
theorem inXy (a0 : Bool) (a1 : ByteArray) (a2 : Bool) (a3 : ByteArray) (a4 : Bool) (a5 : ByteArray) (a6 : Bool) (a7 : ByteArray) (w : World) :
    Calls Tryz.prog 49 #[.agg #[.bool a0, .string a1, .bool a2, .string a3, .bool a4, .string a5, .bool a6, .string a7]] w fun e w' => e = .returned (.agg #[.bool a0, .string a1, .bool a2, .string a3, .bool a4, .string a5, .bool a6, .string a7]) ∧ Below w.heap.size w w' :=
  SX.run (w := w) [.bool a0, .string a1, .bool a2, .string a3, .bool a4, .string a5, .bool a6, .string a7] [] [S1.ga 0 8] 8 (.one (S1.ga 0 8)) [] Tryz.func49 (by kernel_rfl) rfl (by kernel_rfl) rfl (by kernel_rfl) trivial
theorem inDet_012 {x0 : Z444} {kx0 : Nat} (zx0 : Tk x0 kx0) (lx0 : kx0 ≤ 2000) (w : World) :
    Calls Tryz.prog 33 #[TV x0, .int .i64 0, .int .i64 1, .int .i64 2] w fun e w' => e = .returned (Z (det012 x0)) ∧ Below w.heap.size w w' := by
  replace zx0 := zx0.up lx0
  have f1 : Zk x0.2.1.b 2000 := Zk.up (zx0.2.1.2.1) (by decide)
  have f2 : Zk x0.2.2.c 2000 := Zk.up (zx0.2.2.2.2.1) (by decide)
  have f3 : Zk (x0.2.1.b * x0.2.2.c) 4000 := Zk.up (mg_mul_size f1 f2) (by decide)
  have f4 : Zk x0.2.1.c 2000 := Zk.up (zx0.2.1.2.2.1) (by decide)
  have f5 : Zk x0.2.2.b 2000 := Zk.up (zx0.2.2.2.1) (by decide)
  have f6 : Zk (x0.2.1.c * x0.2.2.b) 4000 := Zk.up (mg_mul_size f4 f5) (by decide)
  have f7 : Zk ((x0.2.1.b * x0.2.2.c) - (x0.2.1.c * x0.2.2.b)) 4001 := Zk.up (Is.sub f3 f6) (by decide)
  have f8 : Zk x0.1.a 2000 := Zk.up (zx0.1.1) (by decide)
  have f9 : Zk (x0.1.a * ((x0.2.1.b * x0.2.2.c) - (x0.2.1.c * x0.2.2.b))) 6001 := Zk.up (mg_mul_size f8 f7) (by decide)
  have f10 : Zk ((0 : Int) + (x0.1.a * ((x0.2.1.b * x0.2.2.c) - (x0.2.1.c * x0.2.2.b)))) 6002 := Zk.up (Is.add Zk.zero f9) (by decide)
  have f11 : Zk x0.1.c 2000 := Zk.up (zx0.1.2.2.1) (by decide)
  have f12 : Zk (x0.2.2.b * x0.1.c) 4000 := Zk.up (mg_mul_size f5 f11) (by decide)
  have f13 : Zk x0.1.b 2000 := Zk.up (zx0.1.2.1) (by decide)
  have f14 : Zk (x0.2.2.c * x0.1.b) 4000 := Zk.up (mg_mul_size f2 f13) (by decide)
  have f15 : Zk ((x0.2.2.b * x0.1.c) - (x0.2.2.c * x0.1.b)) 4001 := Zk.up (Is.sub f12 f14) (by decide)
  have f16 : Zk x0.2.1.a 2000 := Zk.up (zx0.2.1.1) (by decide)
  have f17 : Zk (x0.2.1.a * ((x0.2.2.b * x0.1.c) - (x0.2.2.c * x0.1.b))) 6001 := Zk.up (mg_mul_size f16 f15) (by decide)
  have f18 : Zk (((0 : Int) + (x0.1.a * ((x0.2.1.b * x0.2.2.c) - (x0.2.1.c * x0.2.2.b)))) + (x0.2.1.a * ((x0.2.2.b * x0.1.c) - (x0.2.2.c * x0.1.b)))) 6003 := Zk.up (Is.add f10 f17) (by decide)
  have f19 : Zk (x0.1.b * x0.2.1.c) 4000 := Zk.up (mg_mul_size f13 f4) (by decide)
  have f20 : Zk (x0.1.c * x0.2.1.b) 4000 := Zk.up (mg_mul_size f11 f1) (by decide)
  have f21 : Zk ((x0.1.b * x0.2.1.c) - (x0.1.c * x0.2.1.b)) 4001 := Zk.up (Is.sub f19 f20) (by decide)
  have f22 : Zk x0.2.2.a 2000 := Zk.up (zx0.2.2.1) (by decide)
  have f23 : Zk (x0.2.2.a * ((x0.1.b * x0.2.1.c) - (x0.1.c * x0.2.1.b))) 6001 := Zk.up (mg_mul_size f22 f21) (by decide)
  have f24 : Zk ((((0 : Int) + (x0.1.a * ((x0.2.1.b * x0.2.2.c) - (x0.2.1.c * x0.2.2.b)))) + (x0.2.1.a * ((x0.2.2.b * x0.1.c) - (x0.2.2.c * x0.1.b)))) + (x0.2.2.a * ((x0.1.b * x0.2.1.c) - (x0.1.c * x0.2.1.b)))) 6004 := Zk.up (Is.add f18 f23) (by decide)
  exact SX.runX (w := w) (List.flatten [[.bool (sg x0.1.a), .string (mg x0.1.a), .bool (sg x0.1.b), .string (mg x0.1.b), .bool (sg x0.1.c), .string (mg x0.1.c), .bool (sg x0.1.d), .string (mg x0.1.d), .bool (sg x0.2.1.a), .string (mg x0.2.1.a), .bool (sg x0.2.1.b), .string (mg x0.2.1.b), .bool (sg x0.2.1.c), .string (mg x0.2.1.c), .bool (sg x0.2.1.d), .string (mg x0.2.1.d), .bool (sg x0.2.2.a), .string (mg x0.2.2.a), .bool (sg x0.2.2.b), .string (mg x0.2.2.b), .bool (sg x0.2.2.c), .string (mg x0.2.2.c), .bool (sg x0.2.2.d), .string (mg x0.2.2.d)], zc (x0.2.1.b * x0.2.2.c), zc (x0.2.1.c * x0.2.2.b), zc ((x0.2.1.b * x0.2.2.c) - (x0.2.1.c * x0.2.2.b)), zc (x0.1.a * ((x0.2.1.b * x0.2.2.c) - (x0.2.1.c * x0.2.2.b))), zc ((0 : Int) + (x0.1.a * ((x0.2.1.b * x0.2.2.c) - (x0.2.1.c * x0.2.2.b)))), zc (x0.2.2.b * x0.1.c), zc (x0.2.2.c * x0.1.b), zc ((x0.2.2.b * x0.1.c) - (x0.2.2.c * x0.1.b)), zc (x0.2.1.a * ((x0.2.2.b * x0.1.c) - (x0.2.2.c * x0.1.b))), zc (((0 : Int) + (x0.1.a * ((x0.2.1.b * x0.2.2.c) - (x0.2.1.c * x0.2.2.b)))) + (x0.2.1.a * ((x0.2.2.b * x0.1.c) - (x0.2.2.c * x0.1.b)))), zc (x0.1.b * x0.2.1.c), zc (x0.1.c * x0.2.1.b), zc ((x0.1.b * x0.2.1.c) - (x0.1.c * x0.2.1.b)), zc (x0.2.2.a * ((x0.1.b * x0.2.1.c) - (x0.1.c * x0.2.1.b))), zc ((((0 : Int) + (x0.1.a * ((x0.2.1.b * x0.2.2.c) - (x0.2.1.c * x0.2.2.b)))) + (x0.2.1.a * ((x0.2.2.b * x0.1.c) - (x0.2.2.c * x0.1.b)))) + (x0.2.2.a * ((x0.1.b * x0.2.1.c) - (x0.1.c * x0.2.1.b))))]) [] [] [.agg [.p (.at 0), .p (.at 1), .p (.at 2), .p (.at 3), .p (.at 4), .p (.at 5), .p (.at 6), .p (.at 7), .p (.at 8), .p (.at 9), .p (.at 10), .p (.at 11), .p (.at 12), .p (.at 13), .p (.at 14), .p (.at 15), .p (.at 16), .p (.at 17), .p (.at 18), .p (.at 19), .p (.at 20), .p (.at 21), .p (.at 22), .p (.at 23)], .c (.p (.lit (.int .i64 (0)))), .c (.p (.lit (.int .i64 (1)))), .c (.p (.lit (.int .i64 (2))))] 24 [] (.one (.ga 52 2)) [.call 52 [.ga 10 2, .ga 20 2] (.one (.ga 24 2)) [], .call 52 [.ga 12 2, .ga 18 2] (.one (.ga 26 2)) [], .call 51 [.ga 24 2, .ga 26 2] (.one (.ga 28 2)) [], .call 52 [.ga 0 2, .ga 28 2] (.one (.ga 30 2)) [], .call 72 [.agg [.p (.lit (.bool false)), .p (.lit (.string ⟨#[]⟩))], .ga 30 2] (.one (.ga 32 2)) [], .call 52 [.ga 18 2, .ga 4 2] (.one (.ga 34 2)) [], .call 52 [.ga 20 2, .ga 2 2] (.one (.ga 36 2)) [], .call 51 [.ga 34 2, .ga 36 2] (.one (.ga 38 2)) [], .call 52 [.ga 8 2, .ga 38 2] (.one (.ga 40 2)) [], .call 72 [.ga 32 2, .ga 40 2] (.one (.ga 42 2)) [], .call 52 [.ga 2 2, .ga 12 2] (.one (.ga 44 2)) [], .call 52 [.ga 4 2, .ga 10 2] (.one (.ga 46 2)) [], .call 51 [.ga 44 2, .ga 46 2] (.one (.ga 48 2)) [], .call 52 [.ga 16 2, .ga 48 2] (.one (.ga 50 2)) [], .call 72 [.ga 42 2, .ga 50 2] (.one (.ga 52 2)) []] ⟨rfl, fun b t l h => by simp at h⟩ Tryz.func33 (by kernel_rfl) rfl rfl (by kernel_rfl)
    ⟨fun γ w' _ _ => iMul (IsZ.can f1) (by decide) (IsZ.can f2) (by decide) w',
     fun γ w' _ _ => iMul (IsZ.can f4) (by decide) (IsZ.can f5) (by decide) w',
     fun γ w' _ _ => iSub (IsZ.can f3) (by decide) (IsZ.can f6) (by decide) w',
     fun γ w' _ _ => iMul (IsZ.can f8) (by decide) (IsZ.can f7) (by decide) w',
     fun γ w' _ _ => iAdd IsZ.zero (by decide) (IsZ.can f9) (by decide) w',
     fun γ w' _ _ => iMul (IsZ.can f5) (by decide) (IsZ.can f11) (by decide) w',
     fun γ w' _ _ => iMul (IsZ.can f2) (by decide) (IsZ.can f13) (by decide) w',
     fun γ w' _ _ => iSub (IsZ.can f12) (by decide) (IsZ.can f14) (by decide) w',
     fun γ w' _ _ => iMul (IsZ.can f16) (by decide) (IsZ.can f15) (by decide) w',
     fun γ w' _ _ => iAdd (IsZ.can f10) (by decide) (IsZ.can f17) (by decide) w',
     fun γ w' _ _ => iMul (IsZ.can f13) (by decide) (IsZ.can f4) (by decide) w',
     fun γ w' _ _ => iMul (IsZ.can f11) (by decide) (IsZ.can f1) (by decide) w',
     fun γ w' _ _ => iSub (IsZ.can f19) (by decide) (IsZ.can f20) (by decide) w',
     fun γ w' _ _ => iMul (IsZ.can f22) (by decide) (IsZ.can f21) (by decide) w',
     fun γ w' _ _ => iAdd (IsZ.can f18) (by decide) (IsZ.can f23) (by decide) w'⟩
theorem inDet_312 {x0 : Z444} {kx0 : Nat} (zx0 : Tk x0 kx0) (lx0 : kx0 ≤ 2000) (w : World) :
    Calls Tryz.prog 33 #[TV x0, .int .i64 3, .int .i64 1, .int .i64 2] w fun e w' => e = .returned (Z (det312 x0)) ∧ Below w.heap.size w w' := by
  replace zx0 := zx0.up lx0
  have f1 : Zk x0.2.1.b 2000 := Zk.up (zx0.2.1.2.1) (by decide)
  have f2 : Zk x0.2.2.c 2000 := Zk.up (zx0.2.2.2.2.1) (by decide)
  have f3 : Zk (x0.2.1.b * x0.2.2.c) 4000 := Zk.up (mg_mul_size f1 f2) (by decide)
  have f4 : Zk x0.2.1.c 2000 := Zk.up (zx0.2.1.2.2.1) (by decide)
  have f5 : Zk x0.2.2.b 2000 := Zk.up (zx0.2.2.2.1) (by decide)
  have f6 : Zk (x0.2.1.c * x0.2.2.b) 4000 := Zk.up (mg_mul_size f4 f5) (by decide)
  have f7 : Zk ((x0.2.1.b * x0.2.2.c) - (x0.2.1.c * x0.2.2.b)) 4001 := Zk.up (Is.sub f3 f6) (by decide)
  have f8 : Zk x0.1.d 2000 := Zk.up (zx0.1.2.2.2) (by decide)
  have f9 : Zk (x0.1.d * ((x0.2.1.b * x0.2.2.c) - (x0.2.1.c * x0.2.2.b))) 6001 := Zk.up (mg_mul_size f8 f7) (by decide)
  have f10 : Zk ((0 : Int) + (x0.1.d * ((x0.2.1.b * x0.2.2.c) - (x0.2.1.c * x0.2.2.b)))) 6002 := Zk.up (Is.add Zk.zero f9) (by decide)
  have f11 : Zk x0.1.c 2000 := Zk.up (zx0.1.2.2.1) (by decide)
  have f12 : Zk (x0.2.2.b * x0.1.c) 4000 := Zk.up (mg_mul_size f5 f11) (by decide)
  have f13 : Zk x0.1.b 2000 := Zk.up (zx0.1.2.1) (by decide)
  have f14 : Zk (x0.2.2.c * x0.1.b) 4000 := Zk.up (mg_mul_size f2 f13) (by decide)
  have f15 : Zk ((x0.2.2.b * x0.1.c) - (x0.2.2.c * x0.1.b)) 4001 := Zk.up (Is.sub f12 f14) (by decide)
  have f16 : Zk x0.2.1.d 2000 := Zk.up (zx0.2.1.2.2.2) (by decide)
  have f17 : Zk (x0.2.1.d * ((x0.2.2.b * x0.1.c) - (x0.2.2.c * x0.1.b))) 6001 := Zk.up (mg_mul_size f16 f15) (by decide)
  have f18 : Zk (((0 : Int) + (x0.1.d * ((x0.2.1.b * x0.2.2.c) - (x0.2.1.c * x0.2.2.b)))) + (x0.2.1.d * ((x0.2.2.b * x0.1.c) - (x0.2.2.c * x0.1.b)))) 6003 := Zk.up (Is.add f10 f17) (by decide)
  have f19 : Zk (x0.1.b * x0.2.1.c) 4000 := Zk.up (mg_mul_size f13 f4) (by decide)
  have f20 : Zk (x0.1.c * x0.2.1.b) 4000 := Zk.up (mg_mul_size f11 f1) (by decide)
  have f21 : Zk ((x0.1.b * x0.2.1.c) - (x0.1.c * x0.2.1.b)) 4001 := Zk.up (Is.sub f19 f20) (by decide)
  have f22 : Zk x0.2.2.d 2000 := Zk.up (zx0.2.2.2.2.2) (by decide)
  have f23 : Zk (x0.2.2.d * ((x0.1.b * x0.2.1.c) - (x0.1.c * x0.2.1.b))) 6001 := Zk.up (mg_mul_size f22 f21) (by decide)
  have f24 : Zk ((((0 : Int) + (x0.1.d * ((x0.2.1.b * x0.2.2.c) - (x0.2.1.c * x0.2.2.b)))) + (x0.2.1.d * ((x0.2.2.b * x0.1.c) - (x0.2.2.c * x0.1.b)))) + (x0.2.2.d * ((x0.1.b * x0.2.1.c) - (x0.1.c * x0.2.1.b)))) 6004 := Zk.up (Is.add f18 f23) (by decide)
  exact SX.runX (w := w) (List.flatten [[.bool (sg x0.1.a), .string (mg x0.1.a), .bool (sg x0.1.b), .string (mg x0.1.b), .bool (sg x0.1.c), .string (mg x0.1.c), .bool (sg x0.1.d), .string (mg x0.1.d), .bool (sg x0.2.1.a), .string (mg x0.2.1.a), .bool (sg x0.2.1.b), .string (mg x0.2.1.b), .bool (sg x0.2.1.c), .string (mg x0.2.1.c), .bool (sg x0.2.1.d), .string (mg x0.2.1.d), .bool (sg x0.2.2.a), .string (mg x0.2.2.a), .bool (sg x0.2.2.b), .string (mg x0.2.2.b), .bool (sg x0.2.2.c), .string (mg x0.2.2.c), .bool (sg x0.2.2.d), .string (mg x0.2.2.d)], zc (x0.2.1.b * x0.2.2.c), zc (x0.2.1.c * x0.2.2.b), zc ((x0.2.1.b * x0.2.2.c) - (x0.2.1.c * x0.2.2.b)), zc (x0.1.d * ((x0.2.1.b * x0.2.2.c) - (x0.2.1.c * x0.2.2.b))), zc ((0 : Int) + (x0.1.d * ((x0.2.1.b * x0.2.2.c) - (x0.2.1.c * x0.2.2.b)))), zc (x0.2.2.b * x0.1.c), zc (x0.2.2.c * x0.1.b), zc ((x0.2.2.b * x0.1.c) - (x0.2.2.c * x0.1.b)), zc (x0.2.1.d * ((x0.2.2.b * x0.1.c) - (x0.2.2.c * x0.1.b))), zc (((0 : Int) + (x0.1.d * ((x0.2.1.b * x0.2.2.c) - (x0.2.1.c * x0.2.2.b)))) + (x0.2.1.d * ((x0.2.2.b * x0.1.c) - (x0.2.2.c * x0.1.b)))), zc (x0.1.b * x0.2.1.c), zc (x0.1.c * x0.2.1.b), zc ((x0.1.b * x0.2.1.c) - (x0.1.c * x0.2.1.b)), zc (x0.2.2.d * ((x0.1.b * x0.2.1.c) - (x0.1.c * x0.2.1.b))), zc ((((0 : Int) + (x0.1.d * ((x0.2.1.b * x0.2.2.c) - (x0.2.1.c * x0.2.2.b)))) + (x0.2.1.d * ((x0.2.2.b * x0.1.c) - (x0.2.2.c * x0.1.b)))) + (x0.2.2.d * ((x0.1.b * x0.2.1.c) - (x0.1.c * x0.2.1.b))))]) [] [] [.agg [.p (.at 0), .p (.at 1), .p (.at 2), .p (.at 3), .p (.at 4), .p (.at 5), .p (.at 6), .p (.at 7), .p (.at 8), .p (.at 9), .p (.at 10), .p (.at 11), .p (.at 12), .p (.at 13), .p (.at 14), .p (.at 15), .p (.at 16), .p (.at 17), .p (.at 18), .p (.at 19), .p (.at 20), .p (.at 21), .p (.at 22), .p (.at 23)], .c (.p (.lit (.int .i64 (3)))), .c (.p (.lit (.int .i64 (1)))), .c (.p (.lit (.int .i64 (2))))] 24 [] (.one (.ga 52 2)) [.call 52 [.ga 10 2, .ga 20 2] (.one (.ga 24 2)) [], .call 52 [.ga 12 2, .ga 18 2] (.one (.ga 26 2)) [], .call 51 [.ga 24 2, .ga 26 2] (.one (.ga 28 2)) [], .call 52 [.ga 6 2, .ga 28 2] (.one (.ga 30 2)) [], .call 72 [.agg [.p (.lit (.bool false)), .p (.lit (.string ⟨#[]⟩))], .ga 30 2] (.one (.ga 32 2)) [], .call 52 [.ga 18 2, .ga 4 2] (.one (.ga 34 2)) [], .call 52 [.ga 20 2, .ga 2 2] (.one (.ga 36 2)) [], .call 51 [.ga 34 2, .ga 36 2] (.one (.ga 38 2)) [], .call 52 [.ga 14 2, .ga 38 2] (.one (.ga 40 2)) [], .call 72 [.ga 32 2, .ga 40 2] (.one (.ga 42 2)) [], .call 52 [.ga 2 2, .ga 12 2] (.one (.ga 44 2)) [], .call 52 [.ga 4 2, .ga 10 2] (.one (.ga 46 2)) [], .call 51 [.ga 44 2, .ga 46 2] (.one (.ga 48 2)) [], .call 52 [.ga 22 2, .ga 48 2] (.one (.ga 50 2)) [], .call 72 [.ga 42 2, .ga 50 2] (.one (.ga 52 2)) []] ⟨rfl, fun b t l h => by simp at h⟩ Tryz.func33 (by kernel_rfl) rfl rfl (by kernel_rfl)
    ⟨fun γ w' _ _ => iMul (IsZ.can f1) (by decide) (IsZ.can f2) (by decide) w',
     fun γ w' _ _ => iMul (IsZ.can f4) (by decide) (IsZ.can f5) (by decide) w',
     fun γ w' _ _ => iSub (IsZ.can f3) (by decide) (IsZ.can f6) (by decide) w',
     fun γ w' _ _ => iMul (IsZ.can f8) (by decide) (IsZ.can f7) (by decide) w',
     fun γ w' _ _ => iAdd IsZ.zero (by decide) (IsZ.can f9) (by decide) w',
     fun γ w' _ _ => iMul (IsZ.can f5) (by decide) (IsZ.can f11) (by decide) w',
     fun γ w' _ _ => iMul (IsZ.can f2) (by decide) (IsZ.can f13) (by decide) w',
     fun γ w' _ _ => iSub (IsZ.can f12) (by decide) (IsZ.can f14) (by decide) w',
     fun γ w' _ _ => iMul (IsZ.can f16) (by decide) (IsZ.can f15) (by decide) w',
     fun γ w' _ _ => iAdd (IsZ.can f10) (by decide) (IsZ.can f17) (by decide) w',
     fun γ w' _ _ => iMul (IsZ.can f13) (by decide) (IsZ.can f4) (by decide) w',
     fun γ w' _ _ => iMul (IsZ.can f11) (by decide) (IsZ.can f1) (by decide) w',
     fun γ w' _ _ => iSub (IsZ.can f19) (by decide) (IsZ.can f20) (by decide) w',
     fun γ w' _ _ => iMul (IsZ.can f22) (by decide) (IsZ.can f21) (by decide) w',
     fun γ w' _ _ => iAdd (IsZ.can f18) (by decide) (IsZ.can f23) (by decide) w'⟩
theorem inDet_320 {x0 : Z444} {kx0 : Nat} (zx0 : Tk x0 kx0) (lx0 : kx0 ≤ 2000) (w : World) :
    Calls Tryz.prog 33 #[TV x0, .int .i64 3, .int .i64 2, .int .i64 0] w fun e w' => e = .returned (Z (det320 x0)) ∧ Below w.heap.size w w' := by
  replace zx0 := zx0.up lx0
  have f1 : Zk x0.2.1.c 2000 := Zk.up (zx0.2.1.2.2.1) (by decide)
  have f2 : Zk x0.2.2.a 2000 := Zk.up (zx0.2.2.1) (by decide)
  have f3 : Zk (x0.2.1.c * x0.2.2.a) 4000 := Zk.up (mg_mul_size f1 f2) (by decide)
  have f4 : Zk x0.2.1.a 2000 := Zk.up (zx0.2.1.1) (by decide)
  have f5 : Zk x0.2.2.c 2000 := Zk.up (zx0.2.2.2.2.1) (by decide)
  have f6 : Zk (x0.2.1.a * x0.2.2.c) 4000 := Zk.up (mg_mul_size f4 f5) (by decide)
  have f7 : Zk ((x0.2.1.c * x0.2.2.a) - (x0.2.1.a * x0.2.2.c)) 4001 := Zk.up (Is.sub f3 f6) (by decide)
  have f8 : Zk x0.1.d 2000 := Zk.up (zx0.1.2.2.2) (by decide)
  have f9 : Zk (x0.1.d * ((x0.2.1.c * x0.2.2.a) - (x0.2.1.a * x0.2.2.c))) 6001 := Zk.up (mg_mul_size f8 f7) (by decide)
  have f10 : Zk ((0 : Int) + (x0.1.d * ((x0.2.1.c * x0.2.2.a) - (x0.2.1.a * x0.2.2.c)))) 6002 := Zk.up (Is.add Zk.zero f9) (by decide)
  have f11 : Zk x0.1.a 2000 := Zk.up (zx0.1.1) (by decide)
  have f12 : Zk (x0.2.2.c * x0.1.a) 4000 := Zk.up (mg_mul_size f5 f11) (by decide)
  have f13 : Zk x0.1.c 2000 := Zk.up (zx0.1.2.2.1) (by decide)
  have f14 : Zk (x0.2.2.a * x0.1.c) 4000 := Zk.up (mg_mul_size f2 f13) (by decide)
  have f15 : Zk ((x0.2.2.c * x0.1.a) - (x0.2.2.a * x0.1.c)) 4001 := Zk.up (Is.sub f12 f14) (by decide)
  have f16 : Zk x0.2.1.d 2000 := Zk.up (zx0.2.1.2.2.2) (by decide)
  have f17 : Zk (x0.2.1.d * ((x0.2.2.c * x0.1.a) - (x0.2.2.a * x0.1.c))) 6001 := Zk.up (mg_mul_size f16 f15) (by decide)
  have f18 : Zk (((0 : Int) + (x0.1.d * ((x0.2.1.c * x0.2.2.a) - (x0.2.1.a * x0.2.2.c)))) + (x0.2.1.d * ((x0.2.2.c * x0.1.a) - (x0.2.2.a * x0.1.c)))) 6003 := Zk.up (Is.add f10 f17) (by decide)
  have f19 : Zk (x0.1.c * x0.2.1.a) 4000 := Zk.up (mg_mul_size f13 f4) (by decide)
  have f20 : Zk (x0.1.a * x0.2.1.c) 4000 := Zk.up (mg_mul_size f11 f1) (by decide)
  have f21 : Zk ((x0.1.c * x0.2.1.a) - (x0.1.a * x0.2.1.c)) 4001 := Zk.up (Is.sub f19 f20) (by decide)
  have f22 : Zk x0.2.2.d 2000 := Zk.up (zx0.2.2.2.2.2) (by decide)
  have f23 : Zk (x0.2.2.d * ((x0.1.c * x0.2.1.a) - (x0.1.a * x0.2.1.c))) 6001 := Zk.up (mg_mul_size f22 f21) (by decide)
  have f24 : Zk ((((0 : Int) + (x0.1.d * ((x0.2.1.c * x0.2.2.a) - (x0.2.1.a * x0.2.2.c)))) + (x0.2.1.d * ((x0.2.2.c * x0.1.a) - (x0.2.2.a * x0.1.c)))) + (x0.2.2.d * ((x0.1.c * x0.2.1.a) - (x0.1.a * x0.2.1.c)))) 6004 := Zk.up (Is.add f18 f23) (by decide)
  exact SX.runX (w := w) (List.flatten [[.bool (sg x0.1.a), .string (mg x0.1.a), .bool (sg x0.1.b), .string (mg x0.1.b), .bool (sg x0.1.c), .string (mg x0.1.c), .bool (sg x0.1.d), .string (mg x0.1.d), .bool (sg x0.2.1.a), .string (mg x0.2.1.a), .bool (sg x0.2.1.b), .string (mg x0.2.1.b), .bool (sg x0.2.1.c), .string (mg x0.2.1.c), .bool (sg x0.2.1.d), .string (mg x0.2.1.d), .bool (sg x0.2.2.a), .string (mg x0.2.2.a), .bool (sg x0.2.2.b), .string (mg x0.2.2.b), .bool (sg x0.2.2.c), .string (mg x0.2.2.c), .bool (sg x0.2.2.d), .string (mg x0.2.2.d)], zc (x0.2.1.c * x0.2.2.a), zc (x0.2.1.a * x0.2.2.c), zc ((x0.2.1.c * x0.2.2.a) - (x0.2.1.a * x0.2.2.c)), zc (x0.1.d * ((x0.2.1.c * x0.2.2.a) - (x0.2.1.a * x0.2.2.c))), zc ((0 : Int) + (x0.1.d * ((x0.2.1.c * x0.2.2.a) - (x0.2.1.a * x0.2.2.c)))), zc (x0.2.2.c * x0.1.a), zc (x0.2.2.a * x0.1.c), zc ((x0.2.2.c * x0.1.a) - (x0.2.2.a * x0.1.c)), zc (x0.2.1.d * ((x0.2.2.c * x0.1.a) - (x0.2.2.a * x0.1.c))), zc (((0 : Int) + (x0.1.d * ((x0.2.1.c * x0.2.2.a) - (x0.2.1.a * x0.2.2.c)))) + (x0.2.1.d * ((x0.2.2.c * x0.1.a) - (x0.2.2.a * x0.1.c)))), zc (x0.1.c * x0.2.1.a), zc (x0.1.a * x0.2.1.c), zc ((x0.1.c * x0.2.1.a) - (x0.1.a * x0.2.1.c)), zc (x0.2.2.d * ((x0.1.c * x0.2.1.a) - (x0.1.a * x0.2.1.c))), zc ((((0 : Int) + (x0.1.d * ((x0.2.1.c * x0.2.2.a) - (x0.2.1.a * x0.2.2.c)))) + (x0.2.1.d * ((x0.2.2.c * x0.1.a) - (x0.2.2.a * x0.1.c)))) + (x0.2.2.d * ((x0.1.c * x0.2.1.a) - (x0.1.a * x0.2.1.c))))]) [] [] [.agg [.p (.at 0), .p (.at 1), .p (.at 2), .p (.at 3), .p (.at 4), .p (.at 5), .p (.at 6), .p (.at 7), .p (.at 8), .p (.at 9), .p (.at 10), .p (.at 11), .p (.at 12), .p (.at 13), .p (.at 14), .p (.at 15), .p (.at 16), .p (.at 17), .p (.at 18), .p (.at 19), .p (.at 20), .p (.at 21), .p (.at 22), .p (.at 23)], .c (.p (.lit (.int .i64 (3)))), .c (.p (.lit (.int .i64 (2)))), .c (.p (.lit (.int .i64 (0))))] 24 [] (.one (.ga 52 2)) [.call 52 [.ga 12 2, .ga 16 2] (.one (.ga 24 2)) [], .call 52 [.ga 8 2, .ga 20 2] (.one (.ga 26 2)) [], .call 51 [.ga 24 2, .ga 26 2] (.one (.ga 28 2)) [], .call 52 [.ga 6 2, .ga 28 2] (.one (.ga 30 2)) [], .call 72 [.agg [.p (.lit (.bool false)), .p (.lit (.string ⟨#[]⟩))], .ga 30 2] (.one (.ga 32 2)) [], .call 52 [.ga 20 2, .ga 0 2] (.one (.ga 34 2)) [], .call 52 [.ga 16 2, .ga 4 2] (.one (.ga 36 2)) [], .call 51 [.ga 34 2, .ga 36 2] (.one (.ga 38 2)) [], .call 52 [.ga 14 2, .ga 38 2] (.one (.ga 40 2)) [], .call 72 [.ga 32 2, .ga 40 2] (.one (.ga 42 2)) [], .call 52 [.ga 4 2, .ga 8 2] (.one (.ga 44 2)) [], .call 52 [.ga 0 2, .ga 12 2] (.one (.ga 46 2)) [], .call 51 [.ga 44 2, .ga 46 2] (.one (.ga 48 2)) [], .call 52 [.ga 22 2, .ga 48 2] (.one (.ga 50 2)) [], .call 72 [.ga 42 2, .ga 50 2] (.one (.ga 52 2)) []] ⟨rfl, fun b t l h => by simp at h⟩ Tryz.func33 (by kernel_rfl) rfl rfl (by kernel_rfl)
    ⟨fun γ w' _ _ => iMul (IsZ.can f1) (by decide) (IsZ.can f2) (by decide) w',
     fun γ w' _ _ => iMul (IsZ.can f4) (by decide) (IsZ.can f5) (by decide) w',
     fun γ w' _ _ => iSub (IsZ.can f3) (by decide) (IsZ.can f6) (by decide) w',
     fun γ w' _ _ => iMul (IsZ.can f8) (by decide) (IsZ.can f7) (by decide) w',
     fun γ w' _ _ => iAdd IsZ.zero (by decide) (IsZ.can f9) (by decide) w',
     fun γ w' _ _ => iMul (IsZ.can f5) (by decide) (IsZ.can f11) (by decide) w',
     fun γ w' _ _ => iMul (IsZ.can f2) (by decide) (IsZ.can f13) (by decide) w',
     fun γ w' _ _ => iSub (IsZ.can f12) (by decide) (IsZ.can f14) (by decide) w',
     fun γ w' _ _ => iMul (IsZ.can f16) (by decide) (IsZ.can f15) (by decide) w',
     fun γ w' _ _ => iAdd (IsZ.can f10) (by decide) (IsZ.can f17) (by decide) w',
     fun γ w' _ _ => iMul (IsZ.can f13) (by decide) (IsZ.can f4) (by decide) w',
     fun γ w' _ _ => iMul (IsZ.can f11) (by decide) (IsZ.can f1) (by decide) w',
     fun γ w' _ _ => iSub (IsZ.can f19) (by decide) (IsZ.can f20) (by decide) w',
     fun γ w' _ _ => iMul (IsZ.can f22) (by decide) (IsZ.can f21) (by decide) w',
     fun γ w' _ _ => iAdd (IsZ.can f18) (by decide) (IsZ.can f23) (by decide) w'⟩
theorem inDet_301 {x0 : Z444} {kx0 : Nat} (zx0 : Tk x0 kx0) (lx0 : kx0 ≤ 2000) (w : World) :
    Calls Tryz.prog 33 #[TV x0, .int .i64 3, .int .i64 0, .int .i64 1] w fun e w' => e = .returned (Z (det301 x0)) ∧ Below w.heap.size w w' := by
  replace zx0 := zx0.up lx0
  have f1 : Zk x0.2.1.a 2000 := Zk.up (zx0.2.1.1) (by decide)
  have f2 : Zk x0.2.2.b 2000 := Zk.up (zx0.2.2.2.1) (by decide)
  have f3 : Zk (x0.2.1.a * x0.2.2.b) 4000 := Zk.up (mg_mul_size f1 f2) (by decide)
  have f4 : Zk x0.2.1.b 2000 := Zk.up (zx0.2.1.2.1) (by decide)
  have f5 : Zk x0.2.2.a 2000 := Zk.up (zx0.2.2.1) (by decide)
  have f6 : Zk (x0.2.1.b * x0.2.2.a) 4000 := Zk.up (mg_mul_size f4 f5) (by decide)
  have f7 : Zk ((x0.2.1.a * x0.2.2.b) - (x0.2.1.b * x0.2.2.a)) 4001 := Zk.up (Is.sub f3 f6) (by decide)
  have f8 : Zk x0.1.d 2000 := Zk.up (zx0.1.2.2.2) (by decide)
  have f9 : Zk (x0.1.d * ((x0.2.1.a * x0.2.2.b) - (x0.2.1.b * x0.2.2.a))) 6001 := Zk.up (mg_mul_size f8 f7) (by decide)
  have f10 : Zk ((0 : Int) + (x0.1.d * ((x0.2.1.a * x0.2.2.b) - (x0.2.1.b * x0.2.2.a)))) 6002 := Zk.up (Is.add Zk.zero f9) (by decide)
  have f11 : Zk x0.1.b 2000 := Zk.up (zx0.1.2.1) (by decide)
  have f12 : Zk (x0.2.2.a * x0.1.b) 4000 := Zk.up (mg_mul_size f5 f11) (by decide)
  have f13 : Zk x0.1.a 2000 := Zk.up (zx0.1.1) (by decide)
  have f14 : Zk (x0.2.2.b * x0.1.a) 4000 := Zk.up (mg_mul_size f2 f13) (by decide)
  have f15 : Zk ((x0.2.2.a * x0.1.b) - (x0.2.2.b * x0.1.a)) 4001 := Zk.up (Is.sub f12 f14) (by decide)
  have f16 : Zk x0.2.1.d 2000 := Zk.up (zx0.2.1.2.2.2) (by decide)
  have f17 : Zk (x0.2.1.d * ((x0.2.2.a * x0.1.b) - (x0.2.2.b * x0.1.a))) 6001 := Zk.up (mg_mul_size f16 f15) (by decide)
  have f18 : Zk (((0 : Int) + (x0.1.d * ((x0.2.1.a * x0.2.2.b) - (x0.2.1.b * x0.2.2.a)))) + (x0.2.1.d * ((x0.2.2.a * x0.1.b) - (x0.2.2.b * x0.1.a)))) 6003 := Zk.up (Is.add f10 f17) (by decide)
  have f19 : Zk (x0.1.a * x0.2.1.b) 4000 := Zk.up (mg_mul_size f13 f4) (by decide)
  have f20 : Zk (x0.1.b * x0.2.1.a) 4000 := Zk.up (mg_mul_size f11 f1) (by decide)
  have f21 : Zk ((x0.1.a * x0.2.1.b) - (x0.1.b * x0.2.1.a)) 4001 := Zk.up (Is.sub f19 f20) (by decide)
  have f22 : Zk x0.2.2.d 2000 := Zk.up (zx0.2.2.2.2.2) (by decide)
  have f23 : Zk (x0.2.2.d * ((x0.1.a * x0.2.1.b) - (x0.1.b * x0.2.1.a))) 6001 := Zk.up (mg_mul_size f22 f21) (by decide)
  have f24 : Zk ((((0 : Int) + (x0.1.d * ((x0.2.1.a * x0.2.2.b) - (x0.2.1.b * x0.2.2.a)))) + (x0.2.1.d * ((x0.2.2.a * x0.1.b) - (x0.2.2.b * x0.1.a)))) + (x0.2.2.d * ((x0.1.a * x0.2.1.b) - (x0.1.b * x0.2.1.a)))) 6004 := Zk.up (Is.add f18 f23) (by decide)
  exact SX.runX (w := w) (List.flatten [[.bool (sg x0.1.a), .string (mg x0.1.a), .bool (sg x0.1.b), .string (mg x0.1.b), .bool (sg x0.1.c), .string (mg x0.1.c), .bool (sg x0.1.d), .string (mg x0.1.d), .bool (sg x0.2.1.a), .string (mg x0.2.1.a), .bool (sg x0.2.1.b), .string (mg x0.2.1.b), .bool (sg x0.2.1.c), .string (mg x0.2.1.c), .bool (sg x0.2.1.d), .string (mg x0.2.1.d), .bool (sg x0.2.2.a), .string (mg x0.2.2.a), .bool (sg x0.2.2.b), .string (mg x0.2.2.b), .bool (sg x0.2.2.c), .string (mg x0.2.2.c), .bool (sg x0.2.2.d), .string (mg x0.2.2.d)], zc (x0.2.1.a * x0.2.2.b), zc (x0.2.1.b * x0.2.2.a), zc ((x0.2.1.a * x0.2.2.b) - (x0.2.1.b * x0.2.2.a)), zc (x0.1.d * ((x0.2.1.a * x0.2.2.b) - (x0.2.1.b * x0.2.2.a))), zc ((0 : Int) + (x0.1.d * ((x0.2.1.a * x0.2.2.b) - (x0.2.1.b * x0.2.2.a)))), zc (x0.2.2.a * x0.1.b), zc (x0.2.2.b * x0.1.a), zc ((x0.2.2.a * x0.1.b) - (x0.2.2.b * x0.1.a)), zc (x0.2.1.d * ((x0.2.2.a * x0.1.b) - (x0.2.2.b * x0.1.a))), zc (((0 : Int) + (x0.1.d * ((x0.2.1.a * x0.2.2.b) - (x0.2.1.b * x0.2.2.a)))) + (x0.2.1.d * ((x0.2.2.a * x0.1.b) - (x0.2.2.b * x0.1.a)))), zc (x0.1.a * x0.2.1.b), zc (x0.1.b * x0.2.1.a), zc ((x0.1.a * x0.2.1.b) - (x0.1.b * x0.2.1.a)), zc (x0.2.2.d * ((x0.1.a * x0.2.1.b) - (x0.1.b * x0.2.1.a))), zc ((((0 : Int) + (x0.1.d * ((x0.2.1.a * x0.2.2.b) - (x0.2.1.b * x0.2.2.a)))) + (x0.2.1.d * ((x0.2.2.a * x0.1.b) - (x0.2.2.b * x0.1.a)))) + (x0.2.2.d * ((x0.1.a * x0.2.1.b) - (x0.1.b * x0.2.1.a))))]) [] [] [.agg [.p (.at 0), .p (.at 1), .p (.at 2), .p (.at 3), .p (.at 4), .p (.at 5), .p (.at 6), .p (.at 7), .p (.at 8), .p (.at 9), .p (.at 10), .p (.at 11), .p (.at 12), .p (.at 13), .p (.at 14), .p (.at 15), .p (.at 16), .p (.at 17), .p (.at 18), .p (.at 19), .p (.at 20), .p (.at 21), .p (.at 22), .p (.at 23)], .c (.p (.lit (.int .i64 (3)))), .c (.p (.lit (.int .i64 (0)))), .c (.p (.lit (.int .i64 (1))))] 24 [] (.one (.ga 52 2)) [.call 52 [.ga 8 2, .ga 18 2] (.one (.ga 24 2)) [], .call 52 [.ga 10 2, .ga 16 2] (.one (.ga 26 2)) [], .call 51 [.ga 24 2, .ga 26 2] (.one (.ga 28 2)) [], .call 52 [.ga 6 2, .ga 28 2] (.one (.ga 30 2)) [], .call 72 [.agg [.p (.lit (.bool false)), .p (.lit (.string ⟨#[]⟩))], .ga 30 2] (.one (.ga 32 2)) [], .call 52 [.ga 16 2, .ga 2 2] (.one (.ga 34 2)) [], .call 52 [.ga 18 2, .ga 0 2] (.one (.ga 36 2)) [], .call 51 [.ga 34 2, .ga 36 2] (.one (.ga 38 2)) [], .call 52 [.ga 14 2, .ga 38 2] (.one (.ga 40 2)) [], .call 72 [.ga 32 2, .ga 40 2] (.one (.ga 42 2)) [], .call 52 [.ga 0 2, .ga 10 2] (.one (.ga 44 2)) [], .call 52 [.ga 2 2, .ga 8 2] (.one (.ga 46 2)) [], .call 51 [.ga 44 2, .ga 46 2] (.one (.ga 48 2)) [], .call 52 [.ga 22 2, .ga 48 2] (.one (.ga 50 2)) [], .call 72 [.ga 42 2, .ga 50 2] (.one (.ga 52 2)) []] ⟨rfl, fun b t l h => by simp at h⟩ Tryz.func33 (by kernel_rfl) rfl rfl (by kernel_rfl)
    ⟨fun γ w' _ _ => iMul (IsZ.can f1) (by decide) (IsZ.can f2) (by decide) w',
     fun γ w' _ _ => iMul (IsZ.can f4) (by decide) (IsZ.can f5) (by decide) w',
     fun γ w' _ _ => iSub (IsZ.can f3) (by decide) (IsZ.can f6) (by decide) w',
     fun γ w' _ _ => iMul (IsZ.can f8) (by decide) (IsZ.can f7) (by decide) w',
     fun γ w' _ _ => iAdd IsZ.zero (by decide) (IsZ.can f9) (by decide) w',
     fun γ w' _ _ => iMul (IsZ.can f5) (by decide) (IsZ.can f11) (by decide) w',
     fun γ w' _ _ => iMul (IsZ.can f2) (by decide) (IsZ.can f13) (by decide) w',
     fun γ w' _ _ => iSub (IsZ.can f12) (by decide) (IsZ.can f14) (by decide) w',
     fun γ w' _ _ => iMul (IsZ.can f16) (by decide) (IsZ.can f15) (by decide) w',
     fun γ w' _ _ => iAdd (IsZ.can f10) (by decide) (IsZ.can f17) (by decide) w',
     fun γ w' _ _ => iMul (IsZ.can f13) (by decide) (IsZ.can f4) (by decide) w',
     fun γ w' _ _ => iMul (IsZ.can f11) (by decide) (IsZ.can f1) (by decide) w',
     fun γ w' _ _ => iSub (IsZ.can f19) (by decide) (IsZ.can f20) (by decide) w',
     fun γ w' _ _ => iMul (IsZ.can f22) (by decide) (IsZ.can f21) (by decide) w',
     fun γ w' _ _ => iAdd (IsZ.can f18) (by decide) (IsZ.can f23) (by decide) w'⟩
theorem inExcess {x0 : Z4} {kx0 : Nat} (zx0 : Fk x0 kx0) (lx0 : kx0 ≤ 10000) {x1 : Z4} {kx1 : Nat} (zx1 : Fk x1 kx1) (lx1 : kx1 ≤ 10000) (w : World) :
    Calls Tryz.prog 50 #[FV x0, FV x1] w fun e w' => e = .returned (Z (exF x0 x1)) ∧ Below w.heap.size w w' := by
  replace zx0 := zx0.up lx0
  replace zx1 := zx1.up lx1
  have f1 : Zk x0.d 10000 := Zk.up (zx0.2.2.2) (by decide)
  have f2 : Zk x1.d 10000 := Zk.up (zx1.2.2.2) (by decide)
  have f3 : Zk (x0.d * x1.d) 20000 := Zk.up (mg_mul_size f1 f2) (by decide)
  have f4 : Zk (-(x0.d * x1.d)) 20000 := Zk.up (mg_neg_size f3) (by decide)
  have f5 : Zk x0.a 10000 := Zk.up (zx0.1) (by decide)
  have f6 : Zk x1.a 10000 := Zk.up (zx1.1) (by decide)
  have f7 : Zk (x0.a * x1.a) 20000 := Zk.up (mg_mul_size f5 f6) (by decide)
  have f8 : Zk ((-(x0.d * x1.d)) + (x0.a * x1.a)) 20001 := Zk.up (Is.add f4 f7) (by decide)
  have f9 : Zk x0.b 10000 := Zk.up (zx0.2.1) (by decide)
  have f10 : Zk x1.b 10000 := Zk.up (zx1.2.1) (by decide)
  have f11 : Zk (x0.b * x1.b) 20000 := Zk.up (mg_mul_size f9 f10) (by decide)
  have f12 : Zk (((-(x0.d * x1.d)) + (x0.a * x1.a)) + (x0.b * x1.b)) 20002 := Zk.up (Is.add f8 f11) (by decide)
  have f13 : Zk x0.c 10000 := Zk.up (zx0.2.2.1) (by decide)
  have f14 : Zk x1.c 10000 := Zk.up (zx1.2.2.1) (by decide)
  have f15 : Zk (x0.c * x1.c) 20000 := Zk.up (mg_mul_size f13 f14) (by decide)
  have f16 : Zk ((((-(x0.d * x1.d)) + (x0.a * x1.a)) + (x0.b * x1.b)) + (x0.c * x1.c)) 20003 := Zk.up (Is.add f12 f15) (by decide)
  exact SX.run (w := w) (List.flatten [fc x0, fc x1, zc (x0.d * x1.d), zc (-(x0.d * x1.d)), zc (x0.a * x1.a), zc ((-(x0.d * x1.d)) + (x0.a * x1.a)), zc (x0.b * x1.b), zc (((-(x0.d * x1.d)) + (x0.a * x1.a)) + (x0.b * x1.b)), zc (x0.c * x1.c), zc ((((-(x0.d * x1.d)) + (x0.a * x1.a)) + (x0.b * x1.b)) + (x0.c * x1.c))]) [] [.ga 0 8, .ga 8 8] 16 (.one (.ga 30 2)) [.call 52 [.ga 6 2, .ga 14 2] (.one (.ga 16 2)) [], .call 89 [.ga 16 2] (.one (.ga 18 2)) [], .call 52 [.ga 0 2, .ga 8 2] (.one (.ga 20 2)) [], .call 72 [.ga 18 2, .ga 20 2] (.one (.ga 22 2)) [], .call 52 [.ga 2 2, .ga 10 2] (.one (.ga 24 2)) [], .call 72 [.ga 22 2, .ga 24 2] (.one (.ga 26 2)) [], .call 52 [.ga 4 2, .ga 12 2] (.one (.ga 28 2)) [], .call 72 [.ga 26 2, .ga 28 2] (.one (.ga 30 2)) []] Tryz.func50 (by kernel_rfl) rfl (by kernel_rfl) rfl (by kernel_rfl)
    ⟨fun γ w' _ _ => iMul (IsZ.can f1) (by decide) (IsZ.can f2) (by decide) w',
     fun γ w' _ _ => iNeg (IsZ.can f3) (by decide) w',
     fun γ w' _ _ => iMul (IsZ.can f5) (by decide) (IsZ.can f6) (by decide) w',
     fun γ w' _ _ => iAdd (IsZ.can f4) (by decide) (IsZ.can f7) (by decide) w',
     fun γ w' _ _ => iMul (IsZ.can f9) (by decide) (IsZ.can f10) (by decide) w',
     fun γ w' _ _ => iAdd (IsZ.can f8) (by decide) (IsZ.can f11) (by decide) w',
     fun γ w' _ _ => iMul (IsZ.can f13) (by decide) (IsZ.can f14) (by decide) w',
     fun γ w' _ _ => iAdd (IsZ.can f12) (by decide) (IsZ.can f15) (by decide) w'⟩
theorem inMeet_0 {x0 : Z4} {kx0 : Nat} (zx0 : Fk x0 kx0) (lx0 : kx0 ≤ 40000) (w : World) (hT : TabC w) (hd : x0.d = 0) :
    Calls Tryz.prog 34 #[FV x0] w fun e w' => e = .returned (.tuple #[.agg #[.bool false, .string ⟨#[]⟩, .bool false, .string ⟨#[]⟩, .bool false, .string ⟨#[]⟩, .bool false, .string ⟨#[]⟩], .bool false]) ∧ Below w.heap.size w w' := by
  replace zx0 := zx0.up lx0
  have f1 : Zk x0.d 40000 := Zk.up (zx0.2.2.2) (by decide)
  exact SX.run (w := w) (List.flatten [fc x0, [.int .i64 (cmpZ x0.d 0), .bool true]]) [.b true] [.ga 0 8] 8 (.tup [.agg [.p (.lit (.bool false)), .p (.lit (.string ⟨#[]⟩)), .p (.lit (.bool false)), .p (.lit (.string ⟨#[]⟩)), .p (.lit (.bool false)), .p (.lit (.string ⟨#[]⟩)), .p (.lit (.bool false)), .p (.lit (.string ⟨#[]⟩))], .c (.p (.lit (.bool false)))]) [.call 63 [.ga 6 2] (.one (.ca 8)) [], .op2 false .eql (.pa 8) (.p (.lit (.int .i64 0))) 9, .isB 9 true] Tryz.func34 (by kernel_rfl) rfl (by kernel_rfl) rfl (by kernel_rfl)
    ⟨fun γ w' _ _ => iSign (IsZ.can f1) (by decide) w',
     congrArg (fun z => some (Value.bool z)) (by rw [cmpZ_eq0]; exact decide_eq_true hd : ((cmpZ x0.d 0) == (0 : Int)) = true),
     rfl⟩
theorem inMeet_1 {x0 : Z4} {kx0 : Nat} (zx0 : Fk x0 kx0) (lx0 : kx0 ≤ 40000) (w : World) (hT : TabC w) (hd : x0.d ≠ 0) :
    Calls Tryz.prog 34 #[FV x0] w fun e w' => e = .returned (.tuple #[PV (pt x0), .bool true]) ∧ Below w.heap.size w w' := by
  replace zx0 := zx0.up lx0
  have f1 : Zk x0.d 40000 := Zk.up (zx0.2.2.2) (by decide)
  have f2 : Pk (pt x0) 40000 := Pk.up ((Pk.pt zx0 (by decide))) (by decide)
  exact SX.run (w := w) (List.flatten [fc x0, [.int .i64 (cmpZ x0.d 0), .bool false], pc (pt x0)]) [.b false] [.ga 0 8] 8 (.tup [.ga 10 8, .c (.p (.lit (.bool true)))]) [.call 63 [.ga 6 2] (.one (.ca 8)) [], .op2 false .eql (.pa 8) (.p (.lit (.int .i64 0))) 9, .isB 9 false, .call 73 [.ga 0 8] (.one (.ga 10 8)) []] Tryz.func34 (by kernel_rfl) rfl (by kernel_rfl) rfl (by kernel_rfl)
    ⟨fun γ w' _ _ => iSign (IsZ.can f1) (by decide) w',
     congrArg (fun z => some (Value.bool z)) (by rw [cmpZ_eq0]; exact decide_eq_false hd : ((cmpZ x0.d 0) == (0 : Int)) = false),
     rfl,
     fun γ w' bw _ => pNormalize (IsF.pt (IsF.can zx0)) (by decide) w' (hT.later bw)⟩
theorem inThree_0 {x0 : Z4} {kx0 : Nat} (zx0 : Fk x0 kx0) (lx0 : kx0 ≤ 300) {x1 : Z4} {kx1 : Nat} (zx1 : Fk x1 kx1) (lx1 : kx1 ≤ 300) {x2 : Z4} {kx2 : Nat} (zx2 : Fk x2 kx2) (lx2 : kx2 ≤ 300) (w : World) (hT : TabC w) (hd : detF x0 x1 x2 = 0) :
    Calls Tryz.prog 11 #[FV x0, FV x1, FV x2] w fun e w' => e = .returned (.tuple #[.agg #[.bool false, .string ⟨#[]⟩, .bool false, .string ⟨#[]⟩, .bool false, .string ⟨#[]⟩, .bool false, .string ⟨#[]⟩], .bool false]) ∧ Below w.heap.size w w' := by
  replace zx0 := zx0.up lx0
  replace zx1 := zx1.up lx1
  replace zx2 := zx2.up lx2
  have f1 : Zk (det012 (x0, x1, x2)) 904 := Zk.up ((Zk.det012 (Tk.mk zx0 zx1 zx2))) (by decide)
  have f2 : Zk (det312 (x0, x1, x2)) 904 := Zk.up ((Zk.det312 (Tk.mk zx0 zx1 zx2))) (by decide)
  have f3 : Zk (det320 (x0, x1, x2)) 904 := Zk.up ((Zk.det320 (Tk.mk zx0 zx1 zx2))) (by decide)
  have f4 : Zk (det301 (x0, x1, x2)) 904 := Zk.up ((Zk.det301 (Tk.mk zx0 zx1 zx2))) (by decide)
  exact SX.run (w := w) (List.flatten [fc x0, fc x1, fc x2, fc x0, fc x1, fc x2, zc (det012 (x0, x1, x2)), zc (det312 (x0, x1, x2)), zc (det320 (x0, x1, x2)), zc (det301 (x0, x1, x2)), [.bool false, .string ⟨#[]⟩, .bool false, .string ⟨#[]⟩, .bool false, .string ⟨#[]⟩, .bool false, .string ⟨#[]⟩, .bool false]]) [] [.ga 0 8, .ga 8 8, .ga 16 8] 24 (.tup [.ga 56 8, .ca 64]) [.call 32 [.ga 0 8] (.one (.ga 24 8)) [], .call 32 [.ga 8 8] (.one (.ga 32 8)) [], .call 32 [.ga 16 8] (.one (.ga 40 8)) [], .call 33 [.ga 24 24, .c (.p (.lit (.int .i64 0))), .c (.p (.lit (.int .i64 1))), .c (.p (.lit (.int .i64 2)))] (.one (.ga 48 2)) [], .call 33 [.ga 24 24, .c (.p (.lit (.int .i64 3))), .c (.p (.lit (.int .i64 1))), .c (.p (.lit (.int .i64 2)))] (.one (.ga 50 2)) [], .call 33 [.ga 24 24, .c (.p (.lit (.int .i64 3))), .c (.p (.lit (.int .i64 2))), .c (.p (.lit (.int .i64 0)))] (.one (.ga 52 2)) [], .call 33 [.ga 24 24, .c (.p (.lit (.int .i64 3))), .c (.p (.lit (.int .i64 0))), .c (.p (.lit (.int .i64 1)))] (.one (.ga 54 2)) [], .call 34 [.agg [.pa 50, .pa 51, .pa 52, .pa 53, .pa 54, .pa 55, .pa 48, .pa 49]] (.tup [.ga 56 8, .ca 64]) []] Tryz.func11 (by kernel_rfl) rfl (by kernel_rfl) rfl (by kernel_rfl)
    ⟨fun γ w' _ _ => inCo (sg x0.a) (mg x0.a) (sg x0.b) (mg x0.b) (sg x0.c) (mg x0.c) (sg x0.d) (mg x0.d) w',
     fun γ w' _ _ => inCo (sg x1.a) (mg x1.a) (sg x1.b) (mg x1.b) (sg x1.c) (mg x1.c) (sg x1.d) (mg x1.d) w',
     fun γ w' _ _ => inCo (sg x2.a) (mg x2.a) (sg x2.b) (mg x2.b) (sg x2.c) (mg x2.c) (sg x2.d) (mg x2.d) w',
     fun γ w' _ _ => inDet_012 (Tk.mk zx0 zx1 zx2) (by decide) w',
     fun γ w' _ _ => inDet_312 (Tk.mk zx0 zx1 zx2) (by decide) w',
     fun γ w' _ _ => inDet_320 (Tk.mk zx0 zx1 zx2) (by decide) w',
     fun γ w' _ _ => inDet_301 (Tk.mk zx0 zx1 zx2) (by decide) w',
     fun γ w' bw _ => by have h := inMeet_0 (x0 := ⟨det312 (x0, x1, x2), det320 (x0, x1, x2), det301 (x0, x1, x2), det012 (x0, x1, x2)⟩) (Fk.mk f2 f3 f4 f1) (by decide) w' (hT.later bw) (det_zero.2 hd); exact h⟩
theorem inThree_1 {x0 : Z4} {kx0 : Nat} (zx0 : Fk x0 kx0) (lx0 : kx0 ≤ 300) {x1 : Z4} {kx1 : Nat} (zx1 : Fk x1 kx1) (lx1 : kx1 ≤ 300) {x2 : Z4} {kx2 : Nat} (zx2 : Fk x2 kx2) (lx2 : kx2 ≤ 300) (w : World) (hT : TabC w) (hd : detF x0 x1 x2 ≠ 0) :
    Calls Tryz.prog 11 #[FV x0, FV x1, FV x2] w fun e w' => e = .returned (.tuple #[PV (threeF x0 x1 x2), .bool true]) ∧ Below w.heap.size w w' := by
  replace zx0 := zx0.up lx0
  replace zx1 := zx1.up lx1
  replace zx2 := zx2.up lx2
  have f1 : Zk (det012 (x0, x1, x2)) 904 := Zk.up ((Zk.det012 (Tk.mk zx0 zx1 zx2))) (by decide)
  have f2 : Zk (det312 (x0, x1, x2)) 904 := Zk.up ((Zk.det312 (Tk.mk zx0 zx1 zx2))) (by decide)
  have f3 : Zk (det320 (x0, x1, x2)) 904 := Zk.up ((Zk.det320 (Tk.mk zx0 zx1 zx2))) (by decide)
  have f4 : Zk (det301 (x0, x1, x2)) 904 := Zk.up ((Zk.det301 (Tk.mk zx0 zx1 zx2))) (by decide)
  exact SX.run (w := w) (List.flatten [fc x0, fc x1, fc x2, fc x0, fc x1, fc x2, zc (det012 (x0, x1, x2)), zc (det312 (x0, x1, x2)), zc (det320 (x0, x1, x2)), zc (det301 (x0, x1, x2)), pc (threeF x0 x1 x2), [.bool true]]) [] [.ga 0 8, .ga 8 8, .ga 16 8] 24 (.tup [.ga 56 8, .ca 64]) [.call 32 [.ga 0 8] (.one (.ga 24 8)) [], .call 32 [.ga 8 8] (.one (.ga 32 8)) [], .call 32 [.ga 16 8] (.one (.ga 40 8)) [], .call 33 [.ga 24 24, .c (.p (.lit (.int .i64 0))), .c (.p (.lit (.int .i64 1))), .c (.p (.lit (.int .i64 2)))] (.one (.ga 48 2)) [], .call 33 [.ga 24 24, .c (.p (.lit (.int .i64 3))), .c (.p (.lit (.int .i64 1))), .c (.p (.lit (.int .i64 2)))] (.one (.ga 50 2)) [], .call 33 [.ga 24 24, .c (.p (.lit (.int .i64 3))), .c (.p (.lit (.int .i64 2))), .c (.p (.lit (.int .i64 0)))] (.one (.ga 52 2)) [], .call 33 [.ga 24 24, .c (.p (.lit (.int .i64 3))), .c (.p (.lit (.int .i64 0))), .c (.p (.lit (.int .i64 1)))] (.one (.ga 54 2)) [], .call 34 [.agg [.pa 50, .pa 51, .pa 52, .pa 53, .pa 54, .pa 55, .pa 48, .pa 49]] (.tup [.ga 56 8, .ca 64]) []] Tryz.func11 (by kernel_rfl) rfl (by kernel_rfl) rfl (by kernel_rfl)
    ⟨fun γ w' _ _ => inCo (sg x0.a) (mg x0.a) (sg x0.b) (mg x0.b) (sg x0.c) (mg x0.c) (sg x0.d) (mg x0.d) w',
     fun γ w' _ _ => inCo (sg x1.a) (mg x1.a) (sg x1.b) (mg x1.b) (sg x1.c) (mg x1.c) (sg x1.d) (mg x1.d) w',
     fun γ w' _ _ => inCo (sg x2.a) (mg x2.a) (sg x2.b) (mg x2.b) (sg x2.c) (mg x2.c) (sg x2.d) (mg x2.d) w',
     fun γ w' _ _ => inDet_012 (Tk.mk zx0 zx1 zx2) (by decide) w',
     fun γ w' _ _ => inDet_312 (Tk.mk zx0 zx1 zx2) (by decide) w',
     fun γ w' _ _ => inDet_320 (Tk.mk zx0 zx1 zx2) (by decide) w',
     fun γ w' _ _ => inDet_301 (Tk.mk zx0 zx1 zx2) (by decide) w',
     fun γ w' bw _ => by have h := inMeet_1 (x0 := ⟨det312 (x0, x1, x2), det320 (x0, x1, x2), det301 (x0, x1, x2), det012 (x0, x1, x2)⟩) (Fk.mk f2 f3 f4 f1) (by decide) w' (hT.later bw) (fun e => hd (det_zero.1 e)); rw [three_prog hd] at h; exact h⟩
theorem inThree_any {x0 : Z4} {kx0 : Nat} (zx0 : Fk x0 kx0) (lx0 : kx0 ≤ 300) {x1 : Z4} {kx1 : Nat} (zx1 : Fk x1 kx1) (lx1 : kx1 ≤ 300) {x2 : Z4} {kx2 : Nat} (zx2 : Fk x2 kx2) (lx2 : kx2 ≤ 300) (w : World) (hT : TabC w) (_n0 : ¬ flatF x0) (_n1 : ¬ flatF x1) (_n2 : ¬ flatF x2) :
    Calls Tryz.prog 11 #[FV x0, FV x1, FV x2] w fun e w' => e = .returned (threeV x0 x1 x2) ∧ Below w.heap.size w w' := by
  unfold threeV
  by_cases hd : detF x0 x1 x2 = 0
  · rw [if_pos hd]; exact inThree_0 zx0 lx0 zx1 lx1 zx2 lx2 w hT hd
  · rw [if_neg hd]; exact inThree_1 zx0 lx0 zx1 lx1 zx2 lx2 w hT hd
theorem inLine_0 {x0 : Z4} {kx0 : Nat} (zx0 : Fk x0 kx0) (lx0 : kx0 ≤ 300) {x1 : P3} {kx1 : Nat} (zx1 : Pk x1 kx1) (lx1 : kx1 ≤ 300) {x2 : P3} {kx2 : Nat} (zx2 : Pk x2 kx2) (lx2 : kx2 ≤ 300) (w : World) (hT : TabC w) (hd : byF x0 x1 x2 = 0) :
    Calls Tryz.prog 15 #[FV x0, PV x1, PV x2] w fun e w' => e = .returned (.tuple #[.agg #[.bool false, .string ⟨#[]⟩, .bool false, .string ⟨#[]⟩, .bool false, .string ⟨#[]⟩, .bool false, .string ⟨#[]⟩], .bool false]) ∧ Below w.heap.size w w' := by
  replace zx0 := zx0.up lx0
  replace zx1 := zx1.up lx1
  replace zx2 := zx2.up lx2
  have f1 : Fk (can4 x1) 300 := Fk.up (zx1) (by decide)
  have f2 : Fk (can4 x2) 300 := Fk.up (zx2) (by decide)
  have f3 : Zk (exF x0 (can4 x1)) 603 := Zk.up ((Zk.exF zx0 f1)) (by decide)
  have f4 : Zk (exF x0 (can4 x2)) 603 := Zk.up ((Zk.exF zx0 f2)) (by decide)
  have f5 : Zk (can4 x2).a 300 := Zk.up (f2.1) (by decide)
  have f6 : Zk ((exF x0 (can4 x1)) * (can4 x2).a) 903 := Zk.up (mg_mul_size f3 f5) (by decide)
  have f7 : Zk (can4 x1).a 300 := Zk.up (f1.1) (by decide)
  have f8 : Zk ((exF x0 (can4 x2)) * (can4 x1).a) 903 := Zk.up (mg_mul_size f4 f7) (by decide)
  have f9 : Zk (((exF x0 (can4 x1)) * (can4 x2).a) - ((exF x0 (can4 x2)) * (can4 x1).a)) 904 := Zk.up (Is.sub f6 f8) (by decide)
  have f10 : Zk (can4 x2).b 300 := Zk.up (f2.2.1) (by decide)
  have f11 : Zk ((exF x0 (can4 x1)) * (can4 x2).b) 903 := Zk.up (mg_mul_size f3 f10) (by decide)
  have f12 : Zk (can4 x1).b 300 := Zk.up (f1.2.1) (by decide)
  have f13 : Zk ((exF x0 (can4 x2)) * (can4 x1).b) 903 := Zk.up (mg_mul_size f4 f12) (by decide)
  have f14 : Zk (((exF x0 (can4 x1)) * (can4 x2).b) - ((exF x0 (can4 x2)) * (can4 x1).b)) 904 := Zk.up (Is.sub f11 f13) (by decide)
  have f15 : Zk (can4 x2).c 300 := Zk.up (f2.2.2.1) (by decide)
  have f16 : Zk ((exF x0 (can4 x1)) * (can4 x2).c) 903 := Zk.up (mg_mul_size f3 f15) (by decide)
  have f17 : Zk (can4 x1).c 300 := Zk.up (f1.2.2.1) (by decide)
  have f18 : Zk ((exF x0 (can4 x2)) * (can4 x1).c) 903 := Zk.up (mg_mul_size f4 f17) (by decide)
  have f19 : Zk (((exF x0 (can4 x1)) * (can4 x2).c) - ((exF x0 (can4 x2)) * (can4 x1).c)) 904 := Zk.up (Is.sub f16 f18) (by decide)
  have f20 : Zk (can4 x2).d 300 := Zk.up (f2.2.2.2) (by decide)
  have f21 : Zk ((exF x0 (can4 x1)) * (can4 x2).d) 903 := Zk.up (mg_mul_size f3 f20) (by decide)
  have f22 : Zk (can4 x1).d 300 := Zk.up (f1.2.2.2) (by decide)
  have f23 : Zk ((exF x0 (can4 x2)) * (can4 x1).d) 903 := Zk.up (mg_mul_size f4 f22) (by decide)
  have f24 : Zk (((exF x0 (can4 x1)) * (can4 x2).d) - ((exF x0 (can4 x2)) * (can4 x1).d)) 904 := Zk.up (Is.sub f21 f23) (by decide)
  exact SX.run (w := w) (List.flatten [fc x0, pc x1, pc x2, fc x0, fc (can4 x1), fc (can4 x2), zc (exF x0 (can4 x1)), zc (exF x0 (can4 x2)), zc ((exF x0 (can4 x1)) * (can4 x2).a), zc ((exF x0 (can4 x2)) * (can4 x1).a), zc (((exF x0 (can4 x1)) * (can4 x2).a) - ((exF x0 (can4 x2)) * (can4 x1).a)), zc ((exF x0 (can4 x1)) * (can4 x2).b), zc ((exF x0 (can4 x2)) * (can4 x1).b), zc (((exF x0 (can4 x1)) * (can4 x2).b) - ((exF x0 (can4 x2)) * (can4 x1).b)), zc ((exF x0 (can4 x1)) * (can4 x2).c), zc ((exF x0 (can4 x2)) * (can4 x1).c), zc (((exF x0 (can4 x1)) * (can4 x2).c) - ((exF x0 (can4 x2)) * (can4 x1).c)), zc ((exF x0 (can4 x1)) * (can4 x2).d), zc ((exF x0 (can4 x2)) * (can4 x1).d), zc (((exF x0 (can4 x1)) * (can4 x2).d) - ((exF x0 (can4 x2)) * (can4 x1).d)), [.bool false, .string ⟨#[]⟩, .bool false, .string ⟨#[]⟩, .bool false, .string ⟨#[]⟩, .bool false, .string ⟨#[]⟩, .bool false]]) [] [.ga 0 8, .ga 8 8, .ga 16 8] 24 (.tup [.ga 76 8, .ca 84]) [.call 32 [.ga 0 8] (.one (.ga 24 8)) [], .call 49 [.ga 8 8] (.one (.ga 32 8)) [], .call 49 [.ga 16 8] (.one (.ga 40 8)) [], .call 50 [.ga 24 8, .ga 32 8] (.one (.ga 48 2)) [], .call 50 [.ga 24 8, .ga 40 8] (.one (.ga 50 2)) [], .call 52 [.ga 48 2, .ga 40 2] (.one (.ga 52 2)) [], .call 52 [.ga 50 2, .ga 32 2] (.one (.ga 54 2)) [], .call 51 [.ga 52 2, .ga 54 2] (.one (.ga 56 2)) [], .call 52 [.ga 48 2, .ga 42 2] (.one (.ga 58 2)) [], .call 52 [.ga 50 2, .ga 34 2] (.one (.ga 60 2)) [], .call 51 [.ga 58 2, .ga 60 2] (.one (.ga 62 2)) [], .call 52 [.ga 48 2, .ga 44 2] (.one (.ga 64 2)) [], .call 52 [.ga 50 2, .ga 36 2] (.one (.ga 66 2)) [], .call 51 [.ga 64 2, .ga 66 2] (.one (.ga 68 2)) [], .call 52 [.ga 48 2, .ga 46 2] (.one (.ga 70 2)) [], .call 52 [.ga 50 2, .ga 38 2] (.one (.ga 72 2)) [], .call 51 [.ga 70 2, .ga 72 2] (.one (.ga 74 2)) [], .call 34 [.agg [.pa 56, .pa 57, .pa 62, .pa 63, .pa 68, .pa 69, .pa 74, .pa 75]] (.tup [.ga 76 8, .ca 84]) []] Tryz.func15 (by kernel_rfl) rfl (by kernel_rfl) rfl (by kernel_rfl)
    ⟨fun γ w' _ _ => inCo (sg x0.a) (mg x0.a) (sg x0.b) (mg x0.b) (sg x0.c) (mg x0.c) (sg x0.d) (mg x0.d) w',
     fun γ w' _ _ => inXy (sg (can4 x1).a) (mg (can4 x1).a) (sg (can4 x1).b) (mg (can4 x1).b) (sg (can4 x1).c) (mg (can4 x1).c) (sg (can4 x1).d) (mg (can4 x1).d) w',
     fun γ w' _ _ => inXy (sg (can4 x2).a) (mg (can4 x2).a) (sg (can4 x2).b) (mg (can4 x2).b) (sg (can4 x2).c) (mg (can4 x2).c) (sg (can4 x2).d) (mg (can4 x2).d) w',
     fun γ w' _ _ => inExcess zx0 (by decide) f1 (by decide) w',
     fun γ w' _ _ => inExcess zx0 (by decide) f2 (by decide) w',
     fun γ w' _ _ => iMul (IsZ.can f3) (by decide) (IsZ.can f5) (by decide) w',
     fun γ w' _ _ => iMul (IsZ.can f4) (by decide) (IsZ.can f7) (by decide) w',
     fun γ w' _ _ => iSub (IsZ.can f6) (by decide) (IsZ.can f8) (by decide) w',
     fun γ w' _ _ => iMul (IsZ.can f3) (by decide) (IsZ.can f10) (by decide) w',
     fun γ w' _ _ => iMul (IsZ.can f4) (by decide) (IsZ.can f12) (by decide) w',
     fun γ w' _ _ => iSub (IsZ.can f11) (by decide) (IsZ.can f13) (by decide) w',
     fun γ w' _ _ => iMul (IsZ.can f3) (by decide) (IsZ.can f15) (by decide) w',
     fun γ w' _ _ => iMul (IsZ.can f4) (by decide) (IsZ.can f17) (by decide) w',
     fun γ w' _ _ => iSub (IsZ.can f16) (by decide) (IsZ.can f18) (by decide) w',
     fun γ w' _ _ => iMul (IsZ.can f3) (by decide) (IsZ.can f20) (by decide) w',
     fun γ w' _ _ => iMul (IsZ.can f4) (by decide) (IsZ.can f22) (by decide) w',
     fun γ w' _ _ => iSub (IsZ.can f21) (by decide) (IsZ.can f23) (by decide) w',
     fun γ w' bw _ => by have h := inMeet_0 (x0 := (crF x0 x1 x2)) (Fk.mk f9 f14 f19 f24) (by decide) w' (hT.later bw) (cr_zero.2 hd); exact h⟩
theorem inLine_1 {x0 : Z4} {kx0 : Nat} (zx0 : Fk x0 kx0) (lx0 : kx0 ≤ 300) {x1 : P3} {kx1 : Nat} (zx1 : Pk x1 kx1) (lx1 : kx1 ≤ 300) {x2 : P3} {kx2 : Nat} (zx2 : Pk x2 kx2) (lx2 : kx2 ≤ 300) (w : World) (hT : TabC w) (hd : byF x0 x1 x2 ≠ 0) :
    Calls Tryz.prog 15 #[FV x0, PV x1, PV x2] w fun e w' => e = .returned (.tuple #[PV (lineF x0 x1 x2), .bool true]) ∧ Below w.heap.size w w' := by
  replace zx0 := zx0.up lx0
  replace zx1 := zx1.up lx1
  replace zx2 := zx2.up lx2
  have f1 : Fk (can4 x1) 300 := Fk.up (zx1) (by decide)
  have f2 : Fk (can4 x2) 300 := Fk.up (zx2) (by decide)
  have f3 : Zk (exF x0 (can4 x1)) 603 := Zk.up ((Zk.exF zx0 f1)) (by decide)
  have f4 : Zk (exF x0 (can4 x2)) 603 := Zk.up ((Zk.exF zx0 f2)) (by decide)
  have f5 : Zk (can4 x2).a 300 := Zk.up (f2.1) (by decide)
  have f6 : Zk ((exF x0 (can4 x1)) * (can4 x2).a) 903 := Zk.up (mg_mul_size f3 f5) (by decide)
  have f7 : Zk (can4 x1).a 300 := Zk.up (f1.1) (by decide)
  have f8 : Zk ((exF x0 (can4 x2)) * (can4 x1).a) 903 := Zk.up (mg_mul_size f4 f7) (by decide)
  have f9 : Zk (((exF x0 (can4 x1)) * (can4 x2).a) - ((exF x0 (can4 x2)) * (can4 x1).a)) 904 := Zk.up (Is.sub f6 f8) (by decide)
  have f10 : Zk (can4 x2).b 300 := Zk.up (f2.2.1) (by decide)
  have f11 : Zk ((exF x0 (can4 x1)) * (can4 x2).b) 903 := Zk.up (mg_mul_size f3 f10) (by decide)
  have f12 : Zk (can4 x1).b 300 := Zk.up (f1.2.1) (by decide)
  have f13 : Zk ((exF x0 (can4 x2)) * (can4 x1).b) 903 := Zk.up (mg_mul_size f4 f12) (by decide)
  have f14 : Zk (((exF x0 (can4 x1)) * (can4 x2).b) - ((exF x0 (can4 x2)) * (can4 x1).b)) 904 := Zk.up (Is.sub f11 f13) (by decide)
  have f15 : Zk (can4 x2).c 300 := Zk.up (f2.2.2.1) (by decide)
  have f16 : Zk ((exF x0 (can4 x1)) * (can4 x2).c) 903 := Zk.up (mg_mul_size f3 f15) (by decide)
  have f17 : Zk (can4 x1).c 300 := Zk.up (f1.2.2.1) (by decide)
  have f18 : Zk ((exF x0 (can4 x2)) * (can4 x1).c) 903 := Zk.up (mg_mul_size f4 f17) (by decide)
  have f19 : Zk (((exF x0 (can4 x1)) * (can4 x2).c) - ((exF x0 (can4 x2)) * (can4 x1).c)) 904 := Zk.up (Is.sub f16 f18) (by decide)
  have f20 : Zk (can4 x2).d 300 := Zk.up (f2.2.2.2) (by decide)
  have f21 : Zk ((exF x0 (can4 x1)) * (can4 x2).d) 903 := Zk.up (mg_mul_size f3 f20) (by decide)
  have f22 : Zk (can4 x1).d 300 := Zk.up (f1.2.2.2) (by decide)
  have f23 : Zk ((exF x0 (can4 x2)) * (can4 x1).d) 903 := Zk.up (mg_mul_size f4 f22) (by decide)
  have f24 : Zk (((exF x0 (can4 x1)) * (can4 x2).d) - ((exF x0 (can4 x2)) * (can4 x1).d)) 904 := Zk.up (Is.sub f21 f23) (by decide)
  exact SX.run (w := w) (List.flatten [fc x0, pc x1, pc x2, fc x0, fc (can4 x1), fc (can4 x2), zc (exF x0 (can4 x1)), zc (exF x0 (can4 x2)), zc ((exF x0 (can4 x1)) * (can4 x2).a), zc ((exF x0 (can4 x2)) * (can4 x1).a), zc (((exF x0 (can4 x1)) * (can4 x2).a) - ((exF x0 (can4 x2)) * (can4 x1).a)), zc ((exF x0 (can4 x1)) * (can4 x2).b), zc ((exF x0 (can4 x2)) * (can4 x1).b), zc (((exF x0 (can4 x1)) * (can4 x2).b) - ((exF x0 (can4 x2)) * (can4 x1).b)), zc ((exF x0 (can4 x1)) * (can4 x2).c), zc ((exF x0 (can4 x2)) * (can4 x1).c), zc (((exF x0 (can4 x1)) * (can4 x2).c) - ((exF x0 (can4 x2)) * (can4 x1).c)), zc ((exF x0 (can4 x1)) * (can4 x2).d), zc ((exF x0 (can4 x2)) * (can4 x1).d), zc (((exF x0 (can4 x1)) * (can4 x2).d) - ((exF x0 (can4 x2)) * (can4 x1).d)), pc (lineF x0 x1 x2), [.bool true]]) [] [.ga 0 8, .ga 8 8, .ga 16 8] 24 (.tup [.ga 76 8, .ca 84]) [.call 32 [.ga 0 8] (.one (.ga 24 8)) [], .call 49 [.ga 8 8] (.one (.ga 32 8)) [], .call 49 [.ga 16 8] (.one (.ga 40 8)) [], .call 50 [.ga 24 8, .ga 32 8] (.one (.ga 48 2)) [], .call 50 [.ga 24 8, .ga 40 8] (.one (.ga 50 2)) [], .call 52 [.ga 48 2, .ga 40 2] (.one (.ga 52 2)) [], .call 52 [.ga 50 2, .ga 32 2] (.one (.ga 54 2)) [], .call 51 [.ga 52 2, .ga 54 2] (.one (.ga 56 2)) [], .call 52 [.ga 48 2, .ga 42 2] (.one (.ga 58 2)) [], .call 52 [.ga 50 2, .ga 34 2] (.one (.ga 60 2)) [], .call 51 [.ga 58 2, .ga 60 2] (.one (.ga 62 2)) [], .call 52 [.ga 48 2, .ga 44 2] (.one (.ga 64 2)) [], .call 52 [.ga 50 2, .ga 36 2] (.one (.ga 66 2)) [], .call 51 [.ga 64 2, .ga 66 2] (.one (.ga 68 2)) [], .call 52 [.ga 48 2, .ga 46 2] (.one (.ga 70 2)) [], .call 52 [.ga 50 2, .ga 38 2] (.one (.ga 72 2)) [], .call 51 [.ga 70 2, .ga 72 2] (.one (.ga 74 2)) [], .call 34 [.agg [.pa 56, .pa 57, .pa 62, .pa 63, .pa 68, .pa 69, .pa 74, .pa 75]] (.tup [.ga 76 8, .ca 84]) []] Tryz.func15 (by kernel_rfl) rfl (by kernel_rfl) rfl (by kernel_rfl)
    ⟨fun γ w' _ _ => inCo (sg x0.a) (mg x0.a) (sg x0.b) (mg x0.b) (sg x0.c) (mg x0.c) (sg x0.d) (mg x0.d) w',
     fun γ w' _ _ => inXy (sg (can4 x1).a) (mg (can4 x1).a) (sg (can4 x1).b) (mg (can4 x1).b) (sg (can4 x1).c) (mg (can4 x1).c) (sg (can4 x1).d) (mg (can4 x1).d) w',
     fun γ w' _ _ => inXy (sg (can4 x2).a) (mg (can4 x2).a) (sg (can4 x2).b) (mg (can4 x2).b) (sg (can4 x2).c) (mg (can4 x2).c) (sg (can4 x2).d) (mg (can4 x2).d) w',
     fun γ w' _ _ => inExcess zx0 (by decide) f1 (by decide) w',
     fun γ w' _ _ => inExcess zx0 (by decide) f2 (by decide) w',
     fun γ w' _ _ => iMul (IsZ.can f3) (by decide) (IsZ.can f5) (by decide) w',
     fun γ w' _ _ => iMul (IsZ.can f4) (by decide) (IsZ.can f7) (by decide) w',
     fun γ w' _ _ => iSub (IsZ.can f6) (by decide) (IsZ.can f8) (by decide) w',
     fun γ w' _ _ => iMul (IsZ.can f3) (by decide) (IsZ.can f10) (by decide) w',
     fun γ w' _ _ => iMul (IsZ.can f4) (by decide) (IsZ.can f12) (by decide) w',
     fun γ w' _ _ => iSub (IsZ.can f11) (by decide) (IsZ.can f13) (by decide) w',
     fun γ w' _ _ => iMul (IsZ.can f3) (by decide) (IsZ.can f15) (by decide) w',
     fun γ w' _ _ => iMul (IsZ.can f4) (by decide) (IsZ.can f17) (by decide) w',
     fun γ w' _ _ => iSub (IsZ.can f16) (by decide) (IsZ.can f18) (by decide) w',
     fun γ w' _ _ => iMul (IsZ.can f3) (by decide) (IsZ.can f20) (by decide) w',
     fun γ w' _ _ => iMul (IsZ.can f4) (by decide) (IsZ.can f22) (by decide) w',
     fun γ w' _ _ => iSub (IsZ.can f21) (by decide) (IsZ.can f23) (by decide) w',
     fun γ w' bw _ => by have h := inMeet_1 (x0 := (crF x0 x1 x2)) (Fk.mk f9 f14 f19 f24) (by decide) w' (hT.later bw) (fun e => hd (cr_zero.1 e)); rw [line_prog hd] at h; exact h⟩
theorem inLine_any {x0 : Z4} {kx0 : Nat} (zx0 : Fk x0 kx0) (lx0 : kx0 ≤ 300) {x1 : P3} {kx1 : Nat} (zx1 : Pk x1 kx1) (lx1 : kx1 ≤ 300) {x2 : P3} {kx2 : Nat} (zx2 : Pk x2 kx2) (lx2 : kx2 ≤ 300) (w : World) (hT : TabC w) (_n0 : ¬ flatF x0) :
    Calls Tryz.prog 15 #[FV x0, PV x1, PV x2] w fun e w' => e = .returned (lineV x0 x1 x2) ∧ Below w.heap.size w w' := by
  unfold lineV
  by_cases hd : byF x0 x1 x2 = 0
  · rw [if_pos hd]; exact inLine_0 zx0 lx0 zx1 lx1 zx2 lx2 w hT hd
  · rw [if_neg hd]; exact inLine_1 zx0 lx0 zx1 lx1 zx2 lx2 w hT hd
theorem inOrient_f {x0 : P3} {kx0 : Nat} (zx0 : Pk x0 kx0) (lx0 : kx0 ≤ 90) {x1 : P3} {kx1 : Nat} (zx1 : Pk x1 kx1) (lx1 : kx1 ≤ 90) {x2 : P3} {kx2 : Nat} (zx2 : Pk x2 kx2) (lx2 : kx2 ≤ 90) {x3 : P3} {kx3 : Nat} (zx3 : Pk x3 kx3) (lx3 : kx3 ≤ 90) (w : World) (hT : TabC w) (hf : straightP x0 x1 x2) :
    Calls Tryz.prog 17 #[PV x0, PV x1, PV x2, PV x3] w fun e w' => e = .returned (.int .i64 0) ∧ Below w.heap.size w w' := by
  replace zx0 := zx0.up lx0
  replace zx1 := zx1.up lx1
  replace zx2 := zx2.up lx2
  replace zx3 := zx3.up lx3
  exact SX.run (w := w) (List.flatten [pc x0, pc x1, pc x2, pc x3, [.bool false, .string ⟨#[]⟩, .bool false, .string ⟨#[]⟩, .bool false, .string ⟨#[]⟩, .bool false, .string ⟨#[]⟩, .bool false, .bool true]]) [.b true] [.ga 0 8, .ga 8 8, .ga 16 8, .ga 24 8] 32 (.one (.c (.p (.lit (.int .i64 0))))) [.call 56 [.ga 0 8, .ga 8 8, .ga 16 8] (.tup [.ga 32 8, .ca 40]) [], .op1 .not (.pa 40) 41, .isB 41 true] Tryz.func17 (by kernel_rfl) rfl (by kernel_rfl) rfl (by kernel_rfl)
    ⟨fun γ w' bw _ => by have h := plThrough_any zx0 (by decide) zx1 (by decide) zx2 (by decide) w' (hT.later bw); rw [planeV, if_pos ((straight_thr _ _ _).1 hf)] at h; exact h,
     congrArg (fun z => some (Value.bool z)) (by first | rfl | assumption | decide | simp [*] : (!false) = true),
     rfl⟩
theorem inOrient_n {x0 : P3} {kx0 : Nat} (zx0 : Pk x0 kx0) (lx0 : kx0 ≤ 90) {x1 : P3} {kx1 : Nat} (zx1 : Pk x1 kx1) (lx1 : kx1 ≤ 90) {x2 : P3} {kx2 : Nat} (zx2 : Pk x2 kx2) (lx2 : kx2 ≤ 90) {x3 : P3} {kx3 : Nat} (zx3 : Pk x3 kx3) (lx3 : kx3 ≤ 90) (w : World) (hT : TabC w) (hf : ¬ straightP x0 x1 x2) :
    Calls Tryz.prog 17 #[PV x0, PV x1, PV x2, PV x3] w fun e w' => e = .returned (.int .i64 (sideF (canQ (thrQ x0 x1 x2)) x3)) ∧ Below w.heap.size w w' := by
  replace zx0 := zx0.up lx0
  replace zx1 := zx1.up lx1
  replace zx2 := zx2.up lx2
  replace zx3 := zx3.up lx3
  have f1 : Fk (canQ (thrQ x0 x1 x2)) 9796 := Fk.up ((Fk.thr6 (k := 90) (Pk.up zx0 (by decide)) (Pk.up zx1 (by decide)) (Pk.up zx2 (by decide)) (by decide))) (by decide)
  exact SX.run (w := w) (List.flatten [pc x0, pc x1, pc x2, pc x3, fc (canQ (thrQ x0 x1 x2)), [.bool true, .bool false, .int .i64 (sideF (canQ (thrQ x0 x1 x2)) x3)]]) [.b false] [.ga 0 8, .ga 8 8, .ga 16 8, .ga 24 8] 32 (.one (.ca 42)) [.call 56 [.ga 0 8, .ga 8 8, .ga 16 8] (.tup [.ga 32 8, .ca 40]) [], .op1 .not (.pa 40) 41, .isB 41 false, .call 57 [.ga 32 8, .ga 24 8] (.one (.ca 42)) []] Tryz.func17 (by kernel_rfl) rfl (by kernel_rfl) rfl (by kernel_rfl)
    ⟨fun γ w' bw _ => by have h := plThrough_any zx0 (by decide) zx1 (by decide) zx2 (by decide) w' (hT.later bw); rw [planeV, if_neg (fun e => hf ((straight_thr _ _ _).2 e))] at h; exact h,
     congrArg (fun z => some (Value.bool z)) (by first | rfl | assumption | decide | simp [*] : (!true) = false),
     rfl,
     fun γ w' _ _ => plSide f1 (by decide) zx3 (by decide) w'⟩
theorem inOrient {x0 : P3} {kx0 : Nat} (zx0 : Pk x0 kx0) (lx0 : kx0 ≤ 90) {x1 : P3} {kx1 : Nat} (zx1 : Pk x1 kx1) (lx1 : kx1 ≤ 90) {x2 : P3} {kx2 : Nat} (zx2 : Pk x2 kx2) (lx2 : kx2 ≤ 90) {x3 : P3} {kx3 : Nat} (zx3 : Pk x3 kx3) (lx3 : kx3 ≤ 90) (w : World) (hT : TabC w) :
    Calls Tryz.prog 17 #[PV x0, PV x1, PV x2, PV x3] w fun e w' => e = .returned (.int .i64 (orientP x0 x1 x2 x3)) ∧ Below w.heap.size w w' := by
  by_cases hf : straightP x0 x1 x2
  · rw [orient_flat hf]; exact inOrient_f zx0 lx0 zx1 lx1 zx2 lx2 zx3 lx3 w hT hf
  · rw [← orient_side hf]; exact inOrient_n zx0 lx0 zx1 lx1 zx2 lx2 zx3 lx3 w hT hf
theorem inCol_f {x0 : P3} {kx0 : Nat} (zx0 : Pk x0 kx0) (lx0 : kx0 ≤ 10000) {x1 : P3} {kx1 : Nat} (zx1 : Pk x1 kx1) (lx1 : kx1 ≤ 10000) {x2 : P3} {kx2 : Nat} (zx2 : Pk x2 kx2) (lx2 : kx2 ≤ 10000) (w : World) (hT : TabC w) (hf : straightP x0 x1 x2) :
    Calls Tryz.prog 19 #[PV x0, PV x1, PV x2] w fun e w' => e = .returned (.bool true) ∧ Below w.heap.size w w' := by
  replace zx0 := zx0.up lx0
  replace zx1 := zx1.up lx1
  replace zx2 := zx2.up lx2
  exact SX.run (w := w) (List.flatten [pc x0, pc x1, pc x2, [.bool false, .string ⟨#[]⟩, .bool false, .string ⟨#[]⟩, .bool false, .string ⟨#[]⟩, .bool false, .string ⟨#[]⟩, .bool false, .bool true]]) [] [.ga 0 8, .ga 8 8, .ga 16 8] 24 (.one (.ca 33)) [.call 56 [.ga 0 8, .ga 8 8, .ga 16 8] (.tup [.ga 24 8, .ca 32]) [], .op1 .not (.pa 32) 33] Tryz.func19 (by kernel_rfl) rfl (by kernel_rfl) rfl (by kernel_rfl)
    ⟨fun γ w' bw _ => by have h := plThrough_any zx0 (by decide) zx1 (by decide) zx2 (by decide) w' (hT.later bw); rw [planeV, if_pos ((straight_thr _ _ _).1 hf)] at h; exact h,
     congrArg (fun z => some (Value.bool z)) (by first | rfl | assumption | decide | simp [*] : (!false) = true)⟩
theorem inCol_n {x0 : P3} {kx0 : Nat} (zx0 : Pk x0 kx0) (lx0 : kx0 ≤ 10000) {x1 : P3} {kx1 : Nat} (zx1 : Pk x1 kx1) (lx1 : kx1 ≤ 10000) {x2 : P3} {kx2 : Nat} (zx2 : Pk x2 kx2) (lx2 : kx2 ≤ 10000) (w : World) (hT : TabC w) (hf : ¬ straightP x0 x1 x2) :
    Calls Tryz.prog 19 #[PV x0, PV x1, PV x2] w fun e w' => e = .returned (.bool false) ∧ Below w.heap.size w w' := by
  replace zx0 := zx0.up lx0
  replace zx1 := zx1.up lx1
  replace zx2 := zx2.up lx2
  have f1 : Fk (canQ (thrQ x0 x1 x2)) 1080076 := Fk.up ((Fk.thr6 (k := 10000) (Pk.up zx0 (by decide)) (Pk.up zx1 (by decide)) (Pk.up zx2 (by decide)) (by decide))) (by decide)
  exact SX.run (w := w) (List.flatten [pc x0, pc x1, pc x2, fc (canQ (thrQ x0 x1 x2)), [.bool true, .bool false]]) [] [.ga 0 8, .ga 8 8, .ga 16 8] 24 (.one (.ca 33)) [.call 56 [.ga 0 8, .ga 8 8, .ga 16 8] (.tup [.ga 24 8, .ca 32]) [], .op1 .not (.pa 32) 33] Tryz.func19 (by kernel_rfl) rfl (by kernel_rfl) rfl (by kernel_rfl)
    ⟨fun γ w' bw _ => by have h := plThrough_any zx0 (by decide) zx1 (by decide) zx2 (by decide) w' (hT.later bw); rw [planeV, if_neg (fun e => hf ((straight_thr _ _ _).2 e))] at h; exact h,
     congrArg (fun z => some (Value.bool z)) (by first | rfl | assumption | decide | simp [*] : (!true) = false)⟩
theorem inCollinear {x0 : P3} {kx0 : Nat} (zx0 : Pk x0 kx0) (lx0 : kx0 ≤ 10000) {x1 : P3} {kx1 : Nat} (zx1 : Pk x1 kx1) (lx1 : kx1 ≤ 10000) {x2 : P3} {kx2 : Nat} (zx2 : Pk x2 kx2) (lx2 : kx2 ≤ 10000) (w : World) (hT : TabC w) :
    Calls Tryz.prog 19 #[PV x0, PV x1, PV x2] w fun e w' => e = .returned (.bool (decide (straightP x0 x1 x2))) ∧ Below w.heap.size w w' := by
  by_cases hf : straightP x0 x1 x2
  · rw [decide_eq_true hf]; exact inCol_f zx0 lx0 zx1 lx1 zx2 lx2 w hT hf
  · rw [decide_eq_false hf]; exact inCol_n zx0 lx0 zx1 lx1 zx2 lx2 w hT hf
theorem inBet_0 {x0 : P3} {kx0 : Nat} (zx0 : Pk x0 kx0) (lx0 : kx0 ≤ 10000) {x1 : P3} {kx1 : Nat} (zx1 : Pk x1 kx1) (lx1 : kx1 ≤ 10000) {x2 : P3} {kx2 : Nat} (zx2 : Pk x2 kx2) (lx2 : kx2 ≤ 10000) (w : World) (hT : TabC w) (h0 : cmpP x0 x2 = 0) :
    Calls Tryz.prog 21 #[PV x0, PV x1, PV x2] w fun e w' => e = .returned (.bool false) ∧ Below w.heap.size w w' := by
  replace zx0 := zx0.up lx0
  replace zx1 := zx1.up lx1
  replace zx2 := zx2.up lx2
  exact SX.run (w := w) (List.flatten [pc x0, pc x1, pc x2, [.int .i64 (cmpP x0 x2), .bool false]]) [.b false] [.ga 0 8, .ga 8 8, .ga 16 8] 24 (.one (.c (.p (.lit (.bool false))))) [.call 28 [.ga 0 8, .ga 16 8] (.one (.ca 24)) [], .op2 false .neq (.pa 24) (.p (.lit (.int .i64 0))) 25, .isB 25 false] Tryz.func21 (by kernel_rfl) rfl (by kernel_rfl) rfl (by kernel_rfl)
    ⟨fun γ w' _ _ => pCmp (IsP.can zx0) (by decide) (IsP.can zx2) (by decide) w',
     congrArg (fun z => some (Value.bool z)) (bne_eq_false_iff_eq.2 h0 : ((cmpP x0 x2) != (0 : Int)) = false),
     rfl⟩
theorem inBet_1 {x0 : P3} {kx0 : Nat} (zx0 : Pk x0 kx0) (lx0 : kx0 ≤ 10000) {x1 : P3} {kx1 : Nat} (zx1 : Pk x1 kx1) (lx1 : kx1 ≤ 10000) {x2 : P3} {kx2 : Nat} (zx2 : Pk x2 kx2) (lx2 : kx2 ≤ 10000) (w : World) (hT : TabC w) (h0 : cmpP x0 x2 ≠ 0) (h1 : cmpP x0 x2 ≠ cmpP x2 x1) :
    Calls Tryz.prog 21 #[PV x0, PV x1, PV x2] w fun e w' => e = .returned (.bool false) ∧ Below w.heap.size w w' := by
  replace zx0 := zx0.up lx0
  replace zx1 := zx1.up lx1
  replace zx2 := zx2.up lx2
  exact SX.run (w := w) (List.flatten [pc x0, pc x1, pc x2, [.int .i64 (cmpP x0 x2), .bool true, .int .i64 (cmpP x2 x1), .bool false]]) [.b true, .b false] [.ga 0 8, .ga 8 8, .ga 16 8] 24 (.one (.c (.p (.lit (.bool false))))) [.call 28 [.ga 0 8, .ga 16 8] (.one (.ca 24)) [], .op2 false .neq (.pa 24) (.p (.lit (.int .i64 0))) 25, .isB 25 true, .call 28 [.ga 16 8, .ga 8 8] (.one (.ca 26)) [], .op2 false .eql (.pa 24) (.pa 26) 27, .isB 27 false] Tryz.func21 (by kernel_rfl) rfl (by kernel_rfl) rfl (by kernel_rfl)
    ⟨fun γ w' _ _ => pCmp (IsP.can zx0) (by decide) (IsP.can zx2) (by decide) w',
     congrArg (fun z => some (Value.bool z)) (bne_iff_ne.2 h0 : ((cmpP x0 x2) != (0 : Int)) = true),
     rfl,
     fun γ w' _ _ => pCmp (IsP.can zx2) (by decide) (IsP.can zx1) (by decide) w',
     congrArg (fun z => some (Value.bool z)) (beq_eq_false_iff_ne.2 h1 : ((cmpP x0 x2) == (cmpP x2 x1)) = false),
     rfl⟩
theorem inBet_2 {x0 : P3} {kx0 : Nat} (zx0 : Pk x0 kx0) (lx0 : kx0 ≤ 10000) {x1 : P3} {kx1 : Nat} (zx1 : Pk x1 kx1) (lx1 : kx1 ≤ 10000) {x2 : P3} {kx2 : Nat} (zx2 : Pk x2 kx2) (lx2 : kx2 ≤ 10000) (w : World) (hT : TabC w) (h0 : cmpP x0 x2 ≠ 0) (h1 : cmpP x0 x2 = cmpP x2 x1) :
    Calls Tryz.prog 21 #[PV x0, PV x1, PV x2] w fun e w' => e = .returned (.bool (decide (straightP x0 x1 x2))) ∧ Below w.heap.size w w' := by
  replace zx0 := zx0.up lx0
  replace zx1 := zx1.up lx1
  replace zx2 := zx2.up lx2
  exact SX.run (w := w) (List.flatten [pc x0, pc x1, pc x2, [.int .i64 (cmpP x0 x2), .bool true, .int .i64 (cmpP x2 x1), .bool true, .bool (decide (straightP x0 x1 x2))]]) [.b true, .b true] [.ga 0 8, .ga 8 8, .ga 16 8] 24 (.one (.ca 28)) [.call 28 [.ga 0 8, .ga 16 8] (.one (.ca 24)) [], .op2 false .neq (.pa 24) (.p (.lit (.int .i64 0))) 25, .isB 25 true, .call 28 [.ga 16 8, .ga 8 8] (.one (.ca 26)) [], .op2 false .eql (.pa 24) (.pa 26) 27, .isB 27 true, .call 19 [.ga 0 8, .ga 8 8, .ga 16 8] (.one (.ca 28)) []] Tryz.func21 (by kernel_rfl) rfl (by kernel_rfl) rfl (by kernel_rfl)
    ⟨fun γ w' _ _ => pCmp (IsP.can zx0) (by decide) (IsP.can zx2) (by decide) w',
     congrArg (fun z => some (Value.bool z)) (bne_iff_ne.2 h0 : ((cmpP x0 x2) != (0 : Int)) = true),
     rfl,
     fun γ w' _ _ => pCmp (IsP.can zx2) (by decide) (IsP.can zx1) (by decide) w',
     congrArg (fun z => some (Value.bool z)) (beq_iff_eq.2 h1 : ((cmpP x0 x2) == (cmpP x2 x1)) = true),
     rfl,
     fun γ w' bw _ => inCollinear zx0 (by decide) zx1 (by decide) zx2 (by decide) w' (hT.later bw)⟩
theorem inBetween {x0 : P3} {kx0 : Nat} (zx0 : Pk x0 kx0) (lx0 : kx0 ≤ 10000) {x1 : P3} {kx1 : Nat} (zx1 : Pk x1 kx1) (lx1 : kx1 ≤ 10000) {x2 : P3} {kx2 : Nat} (zx2 : Pk x2 kx2) (lx2 : kx2 ≤ 10000) (w : World) (hT : TabC w) :
    Calls Tryz.prog 21 #[PV x0, PV x1, PV x2] w fun e w' => e = .returned (.bool (decide (betP x0 x1 x2))) ∧ Below w.heap.size w w' := by
  by_cases h0 : cmpP x0 x2 = 0
  · rw [decide_eq_false (fun h => (bet_order.2 h).1.1 h0)]; exact inBet_0 zx0 lx0 zx1 lx1 zx2 lx2 w hT h0
  · by_cases h1 : cmpP x0 x2 = cmpP x2 x1
    · rw [show decide (betP x0 x1 x2) = decide (straightP x0 x1 x2) from decide_eq_decide.2 ⟨fun h => (bet_order.2 h).2, fun h => bet_order.1 ⟨⟨h0, h1⟩, h⟩⟩]
      exact inBet_2 zx0 lx0 zx1 lx1 zx2 lx2 w hT h0 h1
    · rw [decide_eq_false (fun h => h1 (bet_order.2 h).1.2)]; exact inBet_1 zx0 lx0 zx1 lx1 zx2 lx2 w hT h0 h1
theorem inOrd_g {x0 : P3} {kx0 : Nat} (zx0 : Pk x0 kx0) (lx0 : kx0 ≤ 40000) {x1 : P3} {kx1 : Nat} (zx1 : Pk x1 kx1) (lx1 : kx1 ≤ 40000) (w : World) (h : 0 < cmpP x0 x1) :
    Calls Tryz.prog 62 #[PV x0, PV x1] w fun e w' => e = .returned (.tuple #[PV x1, PV x0]) ∧ Below w.heap.size w w' := by
  replace zx0 := zx0.up lx0
  replace zx1 := zx1.up lx1
  exact SX.run (w := w) (List.flatten [pc x0, pc x1, [.int .i64 (cmpP x0 x1), .bool true]]) [.b true] [.ga 0 8, .ga 8 8] 16 (.tup [.ga 8 8, .ga 0 8]) [.call 28 [.ga 0 8, .ga 8 8] (.one (.ca 16)) [], .op2 false .gtr (.pa 16) (.p (.lit (.int .i64 0))) 17, .isB 17 true] Tryz.func62 (by kernel_rfl) rfl (by kernel_rfl) rfl (by kernel_rfl)
    ⟨fun γ w' _ _ => pCmp (IsP.can zx0) (by decide) (IsP.can zx1) (by decide) w',
     congrArg (fun z => some (Value.bool z)) (decide_eq_true h : decide ((cmpP x0 x1) > (0 : Int)) = true),
     rfl⟩
theorem inOrd_l {x0 : P3} {kx0 : Nat} (zx0 : Pk x0 kx0) (lx0 : kx0 ≤ 40000) {x1 : P3} {kx1 : Nat} (zx1 : Pk x1 kx1) (lx1 : kx1 ≤ 40000) (w : World) (h : ¬ 0 < cmpP x0 x1) :
    Calls Tryz.prog 62 #[PV x0, PV x1] w fun e w' => e = .returned (.tuple #[PV x0, PV x1]) ∧ Below w.heap.size w w' := by
  replace zx0 := zx0.up lx0
  replace zx1 := zx1.up lx1
  exact SX.run (w := w) (List.flatten [pc x0, pc x1, [.int .i64 (cmpP x0 x1), .bool false]]) [.b false] [.ga 0 8, .ga 8 8] 16 (.tup [.ga 0 8, .ga 8 8]) [.call 28 [.ga 0 8, .ga 8 8] (.one (.ca 16)) [], .op2 false .gtr (.pa 16) (.p (.lit (.int .i64 0))) 17, .isB 17 false] Tryz.func62 (by kernel_rfl) rfl (by kernel_rfl) rfl (by kernel_rfl)
    ⟨fun γ w' _ _ => pCmp (IsP.can zx0) (by decide) (IsP.can zx1) (by decide) w',
     congrArg (fun z => some (Value.bool z)) (decide_eq_false h : decide ((cmpP x0 x1) > (0 : Int)) = false),
     rfl⟩
theorem inOrdered {x0 : P3} {kx0 : Nat} (zx0 : Pk x0 kx0) (lx0 : kx0 ≤ 40000) {x1 : P3} {kx1 : Nat} (zx1 : Pk x1 kx1) (lx1 : kx1 ≤ 40000) (w : World) :
    Calls Tryz.prog 62 #[PV x0, PV x1] w fun e w' => e = .returned (.tuple #[PV (lowP x0 x1), PV (topP x0 x1)]) ∧ Below w.heap.size w w' := by
  unfold lowP topP
  by_cases h : 0 < cmpP x0 x1
  · rw [if_pos h, if_pos h]; exact inOrd_g zx0 lx0 zx1 lx1 w h
  · rw [if_neg h, if_neg h]; exact inOrd_l zx0 lx0 zx1 lx1 w h
theorem inOver_a {x0 : P3} {kx0 : Nat} (zx0 : Pk x0 kx0) (lx0 : kx0 ≤ 300) {x1 : P3} {kx1 : Nat} (zx1 : Pk x1 kx1) (lx1 : kx1 ≤ 300) {x2 : P3} {kx2 : Nat} (zx2 : Pk x2 kx2) (lx2 : kx2 ≤ 300) {x3 : P3} {kx3 : Nat} (zx3 : Pk x3 kx3) (lx3 : kx3 ≤ 300) (w : World) (hT : TabC w) (h0 : ¬ straightP x0 x1 x2) :
    Calls Tryz.prog 23 #[PV x0, PV x1, PV x2, PV x3] w fun e w' => e = .returned (.tuple #[.agg #[.bool false, .string ⟨#[]⟩, .bool false, .string ⟨#[]⟩, .bool false, .string ⟨#[]⟩, .bool false, .string ⟨#[]⟩], .agg #[.bool false, .string ⟨#[]⟩, .bool false, .string ⟨#[]⟩, .bool false, .string ⟨#[]⟩, .bool false, .string ⟨#[]⟩], .bool false]) ∧ Below w.heap.size w w' := by
  replace zx0 := zx0.up lx0
  replace zx1 := zx1.up lx1
  replace zx2 := zx2.up lx2
  replace zx3 := zx3.up lx3
  exact SX.run (w := w) (List.flatten [pc x0, pc x1, pc x2, pc x3, [.bool false, .bool true]]) [.b true] [.ga 0 8, .ga 8 8, .ga 16 8, .ga 24 8] 32 (.tup [.agg [.p (.lit (.bool false)), .p (.lit (.string ⟨#[]⟩)), .p (.lit (.bool false)), .p (.lit (.string ⟨#[]⟩)), .p (.lit (.bool false)), .p (.lit (.string ⟨#[]⟩)), .p (.lit (.bool false)), .p (.lit (.string ⟨#[]⟩))], .agg [.p (.lit (.bool false)), .p (.lit (.string ⟨#[]⟩)), .p (.lit (.bool false)), .p (.lit (.string ⟨#[]⟩)), .p (.lit (.bool false)), .p (.lit (.string ⟨#[]⟩)), .p (.lit (.bool false)), .p (.lit (.string ⟨#[]⟩))], .c (.p (.lit (.bool false)))]) [.call 19 [.ga 0 8, .ga 8 8, .ga 16 8] (.one (.ca 32)) [], .op1 .not (.pa 32) 33, .isB 33 true] Tryz.func23 (by kernel_rfl) rfl (by kernel_rfl) rfl (by kernel_rfl)
    ⟨fun γ w' bw _ => by have h := inCollinear zx0 (by decide) zx1 (by decide) zx2 (by decide) w' (hT.later bw); rw [decide_eq_false h0] at h; exact h,
     congrArg (fun z => some (Value.bool z)) (by first | rfl | assumption | decide | simp [*] : (!false) = true),
     rfl⟩
theorem inOver_b {x0 : P3} {kx0 : Nat} (zx0 : Pk x0 kx0) (lx0 : kx0 ≤ 300) {x1 : P3} {kx1 : Nat} (zx1 : Pk x1 kx1) (lx1 : kx1 ≤ 300) {x2 : P3} {kx2 : Nat} (zx2 : Pk x2 kx2) (lx2 : kx2 ≤ 300) {x3 : P3} {kx3 : Nat} (zx3 : Pk x3 kx3) (lx3 : kx3 ≤ 300) (w : World) (hT : TabC w) (h0 : straightP x0 x1 x2) (h1 : ¬ straightP x0 x1 x3) :
    Calls Tryz.prog 23 #[PV x0, PV x1, PV x2, PV x3] w fun e w' => e = .returned (.tuple #[.agg #[.bool false, .string ⟨#[]⟩, .bool false, .string ⟨#[]⟩, .bool false, .string ⟨#[]⟩, .bool false, .string ⟨#[]⟩], .agg #[.bool false, .string ⟨#[]⟩, .bool false, .string ⟨#[]⟩, .bool false, .string ⟨#[]⟩, .bool false, .string ⟨#[]⟩], .bool false]) ∧ Below w.heap.size w w' := by
  replace zx0 := zx0.up lx0
  replace zx1 := zx1.up lx1
  replace zx2 := zx2.up lx2
  replace zx3 := zx3.up lx3
  exact SX.run (w := w) (List.flatten [pc x0, pc x1, pc x2, pc x3, [.bool true, .bool false, .bool false, .bool true]]) [.b false, .b true] [.ga 0 8, .ga 8 8, .ga 16 8, .ga 24 8] 32 (.tup [.agg [.p (.lit (.bool false)), .p (.lit (.string ⟨#[]⟩)), .p (.lit (.bool false)), .p (.lit (.string ⟨#[]⟩)), .p (.lit (.bool false)), .p (.lit (.string ⟨#[]⟩)), .p (.lit (.bool false)), .p (.lit (.string ⟨#[]⟩))], .agg [.p (.lit (.bool false)), .p (.lit (.string ⟨#[]⟩)), .p (.lit (.bool false)), .p (.lit (.string ⟨#[]⟩)), .p (.lit (.bool false)), .p (.lit (.string ⟨#[]⟩)), .p (.lit (.bool false)), .p (.lit (.string ⟨#[]⟩))], .c (.p (.lit (.bool false)))]) [.call 19 [.ga 0 8, .ga 8 8, .ga 16 8] (.one (.ca 32)) [], .op1 .not (.pa 32) 33, .isB 33 false, .call 19 [.ga 0 8, .ga 8 8, .ga 24 8] (.one (.ca 34)) [], .op1 .not (.pa 34) 35, .isB 35 true] Tryz.func23 (by kernel_rfl) rfl (by kernel_rfl) rfl (by kernel_rfl)
    ⟨fun γ w' bw _ => by have h := inCollinear zx0 (by decide) zx1 (by decide) zx2 (by decide) w' (hT.later bw); rw [decide_eq_true h0] at h; exact h,
     congrArg (fun z => some (Value.bool z)) (by first | rfl | assumption | decide | simp [*] : (!true) = false),
     rfl,
     fun γ w' bw _ => by have h := inCollinear zx0 (by decide) zx1 (by decide) zx3 (by decide) w' (hT.later bw); rw [decide_eq_false h1] at h; exact h,
     congrArg (fun z => some (Value.bool z)) (by first | rfl | assumption | decide | simp [*] : (!false) = true),
     rfl⟩
theorem inOver_c {x0 : P3} {kx0 : Nat} (zx0 : Pk x0 kx0) (lx0 : kx0 ≤ 300) {x1 : P3} {kx1 : Nat} (zx1 : Pk x1 kx1) (lx1 : kx1 ≤ 300) {x2 : P3} {kx2 : Nat} (zx2 : Pk x2 kx2) (lx2 : kx2 ≤ 300) {x3 : P3} {kx3 : Nat} (zx3 : Pk x3 kx3) (lx3 : kx3 ≤ 300) (w : World) (hT : TabC w) (h0 : straightP x0 x1 x2) (h1 : straightP x0 x1 x3) (h : ¬ cmpP (topP (lowP x0 x1) (lowP x2 x3)) (lowP (topP x0 x1) (topP x2 x3)) < 0) :
    Calls Tryz.prog 23 #[PV x0, PV x1, PV x2, PV x3] w fun e w' => e = .returned (.tuple #[.agg #[.bool false, .string ⟨#[]⟩, .bool false, .string ⟨#[]⟩, .bool false, .string ⟨#[]⟩, .bool false, .string ⟨#[]⟩], .agg #[.bool false, .string ⟨#[]⟩, .bool false, .string ⟨#[]⟩, .bool false, .string ⟨#[]⟩, .bool false, .string ⟨#[]⟩], .bool false]) ∧ Below w.heap.size w w' := by
  replace zx0 := zx0.up lx0
  replace zx1 := zx1.up lx1
  replace zx2 := zx2.up lx2
  replace zx3 := zx3.up lx3
  have f1 : Pk (lowP x0 x1) 300 := Pk.up ((Pk.low zx0 zx1)) (by decide)
  have f2 : Pk (topP x0 x1) 300 := Pk.up ((Pk.top zx0 zx1)) (by decide)
  have f3 : Pk (lowP x2 x3) 300 := Pk.up ((Pk.low zx2 zx3)) (by decide)
  have f4 : Pk (topP x2 x3) 300 := Pk.up ((Pk.top zx2 zx3)) (by decide)
  have f5 : Pk (lowP (lowP x0 x1) (lowP x2 x3)) 300 := Pk.up ((Pk.low f1 f3)) (by decide)
  have f6 : Pk (topP (lowP x0 x1) (lowP x2 x3)) 300 := Pk.up ((Pk.top f1 f3)) (by decide)
  have f7 : Pk (lowP (topP x0 x1) (topP x2 x3)) 300 := Pk.up ((Pk.low f2 f4)) (by decide)
  have f8 : Pk (topP (topP x0 x1) (topP x2 x3)) 300 := Pk.up ((Pk.top f2 f4)) (by decide)
  exact SX.run (w := w) (List.flatten [pc x0, pc x1, pc x2, pc x3, [.bool true, .bool false, .bool true, .bool false], pc (lowP x0 x1), pc (topP x0 x1), pc (lowP x2 x3), pc (topP x2 x3), pc (lowP (lowP x0 x1) (lowP x2 x3)), pc (topP (lowP x0 x1) (lowP x2 x3)), pc (lowP (topP x0 x1) (topP x2 x3)), pc (topP (topP x0 x1) (topP x2 x3)), [.int .i64 (cmpP (topP (lowP x0 x1) (lowP x2 x3)) (lowP (topP x0 x1) (topP x2 x3))), .bool true]]) [.b false, .b false, .b true] [.ga 0 8, .ga 8 8, .ga 16 8, .ga 24 8] 32 (.tup [.agg [.p (.lit (.bool false)), .p (.lit (.string ⟨#[]⟩)), .p (.lit (.bool false)), .p (.lit (.string ⟨#[]⟩)), .p (.lit (.bool false)), .p (.lit (.string ⟨#[]⟩)), .p (.lit (.bool false)), .p (.lit (.string ⟨#[]⟩))], .agg [.p (.lit (.bool false)), .p (.lit (.string ⟨#[]⟩)), .p (.lit (.bool false)), .p (.lit (.string ⟨#[]⟩)), .p (.lit (.bool false)), .p (.lit (.string ⟨#[]⟩)), .p (.lit (.bool false)), .p (.lit (.string ⟨#[]⟩))], .c (.p (.lit (.bool false)))]) [.call 19 [.ga 0 8, .ga 8 8, .ga 16 8] (.one (.ca 32)) [], .op1 .not (.pa 32) 33, .isB 33 false, .call 19 [.ga 0 8, .ga 8 8, .ga 24 8] (.one (.ca 34)) [], .op1 .not (.pa 34) 35, .isB 35 false, .call 62 [.ga 0 8, .ga 8 8] (.tup [.ga 36 8, .ga 44 8]) [], .call 62 [.ga 16 8, .ga 24 8] (.tup [.ga 52 8, .ga 60 8]) [], .call 62 [.ga 36 8, .ga 52 8] (.tup [.ga 68 8, .ga 76 8]) [], .call 62 [.ga 44 8, .ga 60 8] (.tup [.ga 84 8, .ga 92 8]) [], .call 28 [.ga 76 8, .ga 84 8] (.one (.ca 100)) [], .op2 false .geq (.pa 100) (.p (.lit (.int .i64 0))) 101, .isB 101 true] Tryz.func23 (by kernel_rfl) rfl (by kernel_rfl) rfl (by kernel_rfl)
    ⟨fun γ w' bw _ => by have h := inCollinear zx0 (by decide) zx1 (by decide) zx2 (by decide) w' (hT.later bw); rw [decide_eq_true h0] at h; exact h,
     congrArg (fun z => some (Value.bool z)) (by first | rfl | assumption | decide | simp [*] : (!true) = false),
     rfl,
     fun γ w' bw _ => by have h := inCollinear zx0 (by decide) zx1 (by decide) zx3 (by decide) w' (hT.later bw); rw [decide_eq_true h1] at h; exact h,
     congrArg (fun z => some (Value.bool z)) (by first | rfl | assumption | decide | simp [*] : (!true) = false),
     rfl,
     fun γ w' _ _ => inOrdered zx0 (by decide) zx1 (by decide) w',
     fun γ w' _ _ => inOrdered zx2 (by decide) zx3 (by decide) w',
     fun γ w' _ _ => inOrdered f1 (by decide) f3 (by decide) w',
     fun γ w' _ _ => inOrdered f2 (by decide) f4 (by decide) w',
     fun γ w' _ _ => pCmp (IsP.can f6) (by decide) (IsP.can f7) (by decide) w',
     congrArg (fun z => some (Value.bool z)) (decide_eq_true (Int.not_lt.1 h) : decide ((cmpP (topP (lowP x0 x1) (lowP x2 x3)) (lowP (topP x0 x1) (topP x2 x3))) ≥ (0 : Int)) = true),
     rfl⟩
theorem inOver_d {x0 : P3} {kx0 : Nat} (zx0 : Pk x0 kx0) (lx0 : kx0 ≤ 300) {x1 : P3} {kx1 : Nat} (zx1 : Pk x1 kx1) (lx1 : kx1 ≤ 300) {x2 : P3} {kx2 : Nat} (zx2 : Pk x2 kx2) (lx2 : kx2 ≤ 300) {x3 : P3} {kx3 : Nat} (zx3 : Pk x3 kx3) (lx3 : kx3 ≤ 300) (w : World) (hT : TabC w) (h0 : straightP x0 x1 x2) (h1 : straightP x0 x1 x3) (h : cmpP (topP (lowP x0 x1) (lowP x2 x3)) (lowP (topP x0 x1) (topP x2 x3)) < 0) :
    Calls Tryz.prog 23 #[PV x0, PV x1, PV x2, PV x3] w fun e w' => e = .returned (.tuple #[PV (topP (lowP x0 x1) (lowP x2 x3)), PV (lowP (topP x0 x1) (topP x2 x3)), .bool true]) ∧ Below w.heap.size w w' := by
  replace zx0 := zx0.up lx0
  replace zx1 := zx1.up lx1
  replace zx2 := zx2.up lx2
  replace zx3 := zx3.up lx3
  have f1 : Pk (lowP x0 x1) 300 := Pk.up ((Pk.low zx0 zx1)) (by decide)
  have f2 : Pk (topP x0 x1) 300 := Pk.up ((Pk.top zx0 zx1)) (by decide)
  have f3 : Pk (lowP x2 x3) 300 := Pk.up ((Pk.low zx2 zx3)) (by decide)
  have f4 : Pk (topP x2 x3) 300 := Pk.up ((Pk.top zx2 zx3)) (by decide)
  have f5 : Pk (lowP (lowP x0 x1) (lowP x2 x3)) 300 := Pk.up ((Pk.low f1 f3)) (by decide)
  have f6 : Pk (topP (lowP x0 x1) (lowP x2 x3)) 300 := Pk.up ((Pk.top f1 f3)) (by decide)
  have f7 : Pk (lowP (topP x0 x1) (topP x2 x3)) 300 := Pk.up ((Pk.low f2 f4)) (by decide)
  have f8 : Pk (topP (topP x0 x1) (topP x2 x3)) 300 := Pk.up ((Pk.top f2 f4)) (by decide)
  exact SX.run (w := w) (List.flatten [pc x0, pc x1, pc x2, pc x3, [.bool true, .bool false, .bool true, .bool false], pc (lowP x0 x1), pc (topP x0 x1), pc (lowP x2 x3), pc (topP x2 x3), pc (lowP (lowP x0 x1) (lowP x2 x3)), pc (topP (lowP x0 x1) (lowP x2 x3)), pc (lowP (topP x0 x1) (topP x2 x3)), pc (topP (topP x0 x1) (topP x2 x3)), [.int .i64 (cmpP (topP (lowP x0 x1) (lowP x2 x3)) (lowP (topP x0 x1) (topP x2 x3))), .bool false]]) [.b false, .b false, .b false] [.ga 0 8, .ga 8 8, .ga 16 8, .ga 24 8] 32 (.tup [.ga 76 8, .ga 84 8, .c (.p (.lit (.bool true)))]) [.call 19 [.ga 0 8, .ga 8 8, .ga 16 8] (.one (.ca 32)) [], .op1 .not (.pa 32) 33, .isB 33 false, .call 19 [.ga 0 8, .ga 8 8, .ga 24 8] (.one (.ca 34)) [], .op1 .not (.pa 34) 35, .isB 35 false, .call 62 [.ga 0 8, .ga 8 8] (.tup [.ga 36 8, .ga 44 8]) [], .call 62 [.ga 16 8, .ga 24 8] (.tup [.ga 52 8, .ga 60 8]) [], .call 62 [.ga 36 8, .ga 52 8] (.tup [.ga 68 8, .ga 76 8]) [], .call 62 [.ga 44 8, .ga 60 8] (.tup [.ga 84 8, .ga 92 8]) [], .call 28 [.ga 76 8, .ga 84 8] (.one (.ca 100)) [], .op2 false .geq (.pa 100) (.p (.lit (.int .i64 0))) 101, .isB 101 false] Tryz.func23 (by kernel_rfl) rfl (by kernel_rfl) rfl (by kernel_rfl)
    ⟨fun γ w' bw _ => by have h := inCollinear zx0 (by decide) zx1 (by decide) zx2 (by decide) w' (hT.later bw); rw [decide_eq_true h0] at h; exact h,
     congrArg (fun z => some (Value.bool z)) (by first | rfl | assumption | decide | simp [*] : (!true) = false),
     rfl,
     fun γ w' bw _ => by have h := inCollinear zx0 (by decide) zx1 (by decide) zx3 (by decide) w' (hT.later bw); rw [decide_eq_true h1] at h; exact h,
     congrArg (fun z => some (Value.bool z)) (by first | rfl | assumption | decide | simp [*] : (!true) = false),
     rfl,
     fun γ w' _ _ => inOrdered zx0 (by decide) zx1 (by decide) w',
     fun γ w' _ _ => inOrdered zx2 (by decide) zx3 (by decide) w',
     fun γ w' _ _ => inOrdered f1 (by decide) f3 (by decide) w',
     fun γ w' _ _ => inOrdered f2 (by decide) f4 (by decide) w',
     fun γ w' _ _ => pCmp (IsP.can f6) (by decide) (IsP.can f7) (by decide) w',
     congrArg (fun z => some (Value.bool z)) (decide_eq_false (Int.not_le.2 h) : decide ((cmpP (topP (lowP x0 x1) (lowP x2 x3)) (lowP (topP x0 x1) (topP x2 x3))) ≥ (0 : Int)) = false),
     rfl⟩
theorem inOverlap_any {x0 : P3} {kx0 : Nat} (zx0 : Pk x0 kx0) (lx0 : kx0 ≤ 300) {x1 : P3} {kx1 : Nat} (zx1 : Pk x1 kx1) (lx1 : kx1 ≤ 300) {x2 : P3} {kx2 : Nat} (zx2 : Pk x2 kx2) (lx2 : kx2 ≤ 300) {x3 : P3} {kx3 : Nat} (zx3 : Pk x3 kx3) (lx3 : kx3 ≤ 300) (w : World) (hT : TabC w) :
    Calls Tryz.prog 23 #[PV x0, PV x1, PV x2, PV x3] w fun e w' => e = .returned (shareV x0 x1 x2 x3) ∧ Below w.heap.size w w' := by
  unfold shareV
  by_cases h0 : straightP x0 x1 x2
  · by_cases h1 : straightP x0 x1 x3
    · by_cases h : cmpP (topP (lowP x0 x1) (lowP x2 x3)) (lowP (topP x0 x1) (topP x2 x3)) < 0
      · have hs : shareP x0 x1 x2 x3 := share_iff.1 ⟨⟨h0, h1⟩, by rwa [← lo_low, ← hi_top]⟩
        rw [if_pos hs, ← lo_low, ← hi_top]; exact inOver_d zx0 lx0 zx1 lx1 zx2 lx2 zx3 lx3 w hT h0 h1 h
      · have hs : ¬ shareP x0 x1 x2 x3 := fun e => h (by rw [lo_low, hi_top]; exact (share_iff.2 e).2)
        rw [if_neg hs]; exact inOver_c zx0 lx0 zx1 lx1 zx2 lx2 zx3 lx3 w hT h0 h1 h
    · rw [if_neg (fun e => h1 (share_iff.2 e).1.2)]; exact inOver_b zx0 lx0 zx1 lx1 zx2 lx2 zx3 lx3 w hT h0 h1
  · rw [if_neg (fun e => h0 (share_iff.2 e).1.1)]; exact inOver_a zx0 lx0 zx1 lx1 zx2 lx2 zx3 lx3 w hT h0
end Go.Proofs.YtfapglafeghggaaGreatDoor
