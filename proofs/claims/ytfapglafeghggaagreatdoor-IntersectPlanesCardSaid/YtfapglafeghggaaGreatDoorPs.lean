/- voussoirref04: coordinates, order, sums, texts; what the laws reject. -/
import Derived.Test.YtfapglafeghggaaGreatDoorPr
import Derived.Test.YtfapglafeghggaaGreatDoorIs
import Derived.Test.YtfapglafeghggaaGreatDoorQd
import Derived.Test.YtfapglafeghggaaGreatDoorPq
import Derived.Test.YtfapglafeghggaaGreatDoorShelf
import Derived.Test.YtfapglafeghggaaGreatDoorN4
import Derived.Lib.Repeat
import Derived.Test.YtfapglafeghggaaGreatDoorQr
import Derived.Test.YtfapglafeghggaaGreatDoorSx
import Derived.Test.YtfapglafeghggaaGreatDoorN1
set_option linter.unusedVariables false
set_option linter.unusedSimpArgs false
namespace Go.Proofs.YtfapglafeghggaaGreatDoor
open Go.RowKit NM SX
theorem p4Norm {ux0 : Value} {x0 : P3} {kx0 : Nat} (hx0 : IsP ux0 x0 kx0) (lx0 : kx0 ≤ 200000) (w : World) :
    Calls Tryz.prog 14 #[ux0] w fun e w' => e = .returned (PV x0) ∧ Below w.heap.size w w' := by
  obtain ⟨q, hq, rfl⟩ := hx0
  exact p4Norm_F hq lx0 w
theorem p4Make {ux0 : Value} {x0 : P3} {kx0 : Nat} (hx0 : IsV ux0 x0 kx0) (lx0 : kx0 ≤ 50000) (w : World) :
    Calls Tryz.prog 42 #[ux0] w fun e w' => e = .returned (PV x0) ∧ Below w.heap.size w w' := by
  replace hx0 := hx0.up lx0
  have zx0 := hx0.sz (by decide)
  obtain ⟨x00, x01, x02, x03, x04, x05, x06, x07, x08, rfl, ex00, sx01, sx02, ex01, sx04, sx05, ex02, sx07, sx08⟩ := id hx0
  have wx00 : IsQ (.agg #[.bool x00, .string x01, .string x02]) x0.x 50000 := ⟨x00, x01, x02, rfl, ex00, sx01, sx02⟩
  have zx00 := wx00.sz (by decide)
  have wx01 : IsQ (.agg #[.bool x03, .string x04, .string x05]) x0.y 50000 := ⟨x03, x04, x05, rfl, ex01, sx04, sx05⟩
  have zx01 := wx01.sz (by decide)
  have wx02 : IsQ (.agg #[.bool x06, .string x07, .string x08]) x0.z 50000 := ⟨x06, x07, x08, rfl, ex02, sx07, sx08⟩
  have zx02 := wx02.sz (by decide)
  have f1 : Zk x0.x.num 50000 := Zk.up (zx00.1) (by decide)
  have f2 : Zk (x0.x.den : Int) 50000 := Zk.up (zx00.2) (by decide)
  have f3 : Zk x0.y.num 50000 := Zk.up (zx01.1) (by decide)
  have f4 : Zk (x0.y.den : Int) 50000 := Zk.up (zx01.2) (by decide)
  have f5 : Zk x0.z.num 50000 := Zk.up (zx02.1) (by decide)
  have f6 : Zk (x0.z.den : Int) 50000 := Zk.up (zx02.2) (by decide)
  have f7 : Zk ((x0.x.den : Int) * (x0.y.den : Int)) 100000 := Zk.up (mg_mul_size f2 f4) (by decide)
  have f8 : Zk ((x0.y.den : Int) * (x0.z.den : Int)) 100000 := Zk.up (mg_mul_size f4 f6) (by decide)
  have f9 : Zk (x0.x.num * ((x0.y.den : Int) * (x0.z.den : Int))) 150000 := Zk.up (mg_mul_size f1 f8) (by decide)
  have f10 : Zk ((x0.x.den : Int) * (x0.z.den : Int)) 100000 := Zk.up (mg_mul_size f2 f6) (by decide)
  have f11 : Zk (x0.y.num * ((x0.x.den : Int) * (x0.z.den : Int))) 150000 := Zk.up (mg_mul_size f3 f10) (by decide)
  have f12 : Zk (x0.z.num * ((x0.x.den : Int) * (x0.y.den : Int))) 150000 := Zk.up (mg_mul_size f5 f7) (by decide)
  have f13 : Zk (((x0.x.den : Int) * (x0.y.den : Int)) * (x0.z.den : Int)) 150000 := Zk.up (mg_mul_size f7 f6) (by decide)
  have f14 : Pk x0 150000 := Pk.up (Pk.red (pt_hom x0) (Fk.mk f9 f11 f12 f13) (by decide)) (by decide)
  exact SX.run (w := w) (List.flatten [[.bool x00, .string x01, .string x02, .bool x03, .string x04, .string x05, .bool x06, .string x07, .string x08], zc x0.x.num, zc (x0.x.den : Int), zc x0.y.num, zc (x0.y.den : Int), zc x0.z.num, zc (x0.z.den : Int), zc ((x0.x.den : Int) * (x0.y.den : Int)), zc ((x0.y.den : Int) * (x0.z.den : Int)), zc (x0.x.num * ((x0.y.den : Int) * (x0.z.den : Int))), zc ((x0.x.den : Int) * (x0.z.den : Int)), zc (x0.y.num * ((x0.x.den : Int) * (x0.z.den : Int))), zc (x0.z.num * ((x0.x.den : Int) * (x0.y.den : Int))), zc (((x0.x.den : Int) * (x0.y.den : Int)) * (x0.z.den : Int)), pc x0]) [] [.ga 0 9] 9 (.one (.ga 35 8)) [.call 81 [.ga 0 3] (.tup [.ga 9 2, .ga 11 2]) [], .call 81 [.ga 3 3] (.tup [.ga 13 2, .ga 15 2]) [], .call 81 [.ga 6 3] (.tup [.ga 17 2, .ga 19 2]) [], .call 79 [.ga 11 2, .ga 15 2] (.one (.ga 21 2)) [], .call 79 [.ga 15 2, .ga 19 2] (.one (.ga 23 2)) [], .call 79 [.ga 9 2, .ga 23 2] (.one (.ga 25 2)) [], .call 79 [.ga 11 2, .ga 19 2] (.one (.ga 27 2)) [], .call 79 [.ga 13 2, .ga 27 2] (.one (.ga 29 2)) [], .call 79 [.ga 17 2, .ga 21 2] (.one (.ga 31 2)) [], .call 79 [.ga 21 2, .ga 19 2] (.one (.ga 33 2)) [], .call 14 [.agg [.pa 25, .pa 26, .pa 29, .pa 30, .pa 31, .pa 32, .pa 33, .pa 34]] (.one (.ga 35 8)) []] Tryz.func42 (by kernel_rfl) rfl (by kernel_rfl) rfl (by kernel_rfl)
    ⟨fun γ w' _ _ => rParts wx00 (by decide) w',
     fun γ w' _ _ => rParts wx01 (by decide) w',
     fun γ w' _ _ => rParts wx02 (by decide) w',
     fun γ w' _ _ => jMul (IsZ.can f2) (by decide) (IsZ.can f4) (by decide) w',
     fun γ w' _ _ => jMul (IsZ.can f4) (by decide) (IsZ.can f6) (by decide) w',
     fun γ w' _ _ => jMul (IsZ.can f1) (by decide) (IsZ.can f8) (by decide) w',
     fun γ w' _ _ => jMul (IsZ.can f2) (by decide) (IsZ.can f6) (by decide) w',
     fun γ w' _ _ => jMul (IsZ.can f3) (by decide) (IsZ.can f10) (by decide) w',
     fun γ w' _ _ => jMul (IsZ.can f5) (by decide) (IsZ.can f7) (by decide) w',
     fun γ w' _ _ => jMul (IsZ.can f7) (by decide) (IsZ.can f6) (by decide) w',
     fun γ w' _ _ => by have h := p4Norm (IsF.pt (IsF.mk (IsZ.can f9) (IsZ.can f11) (IsZ.can f12) (IsZ.can f13))) (by decide) w'; rw [show pt (Z4.mk (x0.x.num * ((x0.y.den : Int) * (x0.z.den : Int))) (x0.y.num * ((x0.x.den : Int) * (x0.z.den : Int))) (x0.z.num * ((x0.x.den : Int) * (x0.y.den : Int))) (((x0.x.den : Int) * (x0.y.den : Int)) * (x0.z.den : Int))) = x0 from pt_hom x0] at h; exact h⟩
theorem p4Coords {ux0 : Value} {x0 : P3} {kx0 : Nat} (hx0 : IsP ux0 x0 kx0) (lx0 : kx0 ≤ 50000) (w : World) :
    Calls Tryz.prog 55 #[ux0] w fun e w' => e = .returned (VV x0) ∧ Below w.heap.size w w' := by
  replace hx0 := hx0.up lx0
  have zx0 := hx0.sz (by decide)
  obtain ⟨x0q, hx0q, ex0⟩ := id hx0
  obtain ⟨x00, x01, x02, x03, x04, x05, x06, x07, rfl, ex00, sx01, ex01, sx03, ex02, sx05, ex03, sx07⟩ := id hx0q
  have wx00 : IsZ (.agg #[.bool x00, .string x01]) x0q.a 50000 := ⟨x00, x01, rfl, ex00, sx01⟩
  have zx00 := wx00.sz
  have wx01 : IsZ (.agg #[.bool x02, .string x03]) x0q.b 50000 := ⟨x02, x03, rfl, ex01, sx03⟩
  have zx01 := wx01.sz
  have wx02 : IsZ (.agg #[.bool x04, .string x05]) x0q.c 50000 := ⟨x04, x05, rfl, ex02, sx05⟩
  have zx02 := wx02.sz
  have wx03 : IsZ (.agg #[.bool x06, .string x07]) x0q.d 50000 := ⟨x06, x07, rfl, ex03, sx07⟩
  have zx03 := wx03.sz
  have f1 : Pk x0 50000 := Pk.up (zx0) (by decide)
  have f2 : Zk (can4 x0).a 50000 := Zk.up (f1.1) (by decide)
  have f3 : Zk (can4 x0).d 50000 := Zk.up (f1.2.2.2) (by decide)
  have f4 : Rk x0.x 50000 := Rk.up ((Vk.ofP1 zx0).1) (by decide)
  have f5 : Zk (can4 x0).b 50000 := Zk.up (f1.2.1) (by decide)
  have f6 : Rk x0.y 50000 := Rk.up ((Vk.ofP1 zx0).2.1) (by decide)
  have f7 : Zk (can4 x0).c 50000 := Zk.up (f1.2.2.1) (by decide)
  have f8 : Rk x0.z 50000 := Rk.up ((Vk.ofP1 zx0).2.2) (by decide)
  exact SX.run (w := w) (List.flatten [[.bool x00, .string x01, .bool x02, .string x03, .bool x04, .string x05, .bool x06, .string x07], pc x0, qc x0.x, [.bool (decide ((can4 x0).d ≠ 0))], qc x0.y, [.bool (decide ((can4 x0).d ≠ 0))], qc x0.z, [.bool (decide ((can4 x0).d ≠ 0))]]) [] [.ga 0 8] 8 (.one (.agg [.pa 16, .pa 17, .pa 18, .pa 20, .pa 21, .pa 22, .pa 24, .pa 25, .pa 26])) [.call 14 [.ga 0 8] (.one (.ga 8 8)) [], .call 78 [.ga 8 2, .ga 14 2] (.tup [.ga 16 3, .ca 19]) [], .call 78 [.ga 10 2, .ga 14 2] (.tup [.ga 20 3, .ca 23]) [], .call 78 [.ga 12 2, .ga 14 2] (.tup [.ga 24 3, .ca 27]) []] Tryz.func55 (by kernel_rfl) rfl (by kernel_rfl) rfl (by kernel_rfl)
    ⟨fun γ w' _ _ => p4Norm hx0 (by decide) w',
     fun γ w' _ _ => by have h := rMake (IsZ.can f2) (by decide) (IsZ.can f3) (by decide) w'; rw [can4_x] at h; exact h,
     fun γ w' _ _ => by have h := rMake (IsZ.can f5) (by decide) (IsZ.can f3) (by decide) w'; rw [can4_y] at h; exact h,
     fun γ w' _ _ => by have h := rMake (IsZ.can f7) (by decide) (IsZ.can f3) (by decide) w'; rw [can4_z] at h; exact h⟩
theorem p4Cmp_x {ux0 : Value} {x0 : P3} {kx0 : Nat} (hx0 : IsP ux0 x0 kx0) (lx0 : kx0 ≤ 20000) {ux1 : Value} {x1 : P3} {kx1 : Nat} (hx1 : IsP ux1 x1 kx1) (lx1 : kx1 ≤ 20000) (w : World) (h1 : cmpQ x0.x x1.x ≠ 0) :
    Calls Tryz.prog 61 #[ux0, ux1] w fun e w' => e = .returned (.int .i64 (cmpQ x0.x x1.x)) ∧ Below w.heap.size w w' := by
  replace hx0 := hx0.up lx0
  have zx0 := hx0.sz (by decide)
  obtain ⟨x0q, hx0q, ex0⟩ := id hx0
  obtain ⟨x00, x01, x02, x03, x04, x05, x06, x07, rfl, ex00, sx01, ex01, sx03, ex02, sx05, ex03, sx07⟩ := id hx0q
  have wx00 : IsZ (.agg #[.bool x00, .string x01]) x0q.a 20000 := ⟨x00, x01, rfl, ex00, sx01⟩
  have zx00 := wx00.sz
  have wx01 : IsZ (.agg #[.bool x02, .string x03]) x0q.b 20000 := ⟨x02, x03, rfl, ex01, sx03⟩
  have zx01 := wx01.sz
  have wx02 : IsZ (.agg #[.bool x04, .string x05]) x0q.c 20000 := ⟨x04, x05, rfl, ex02, sx05⟩
  have zx02 := wx02.sz
  have wx03 : IsZ (.agg #[.bool x06, .string x07]) x0q.d 20000 := ⟨x06, x07, rfl, ex03, sx07⟩
  have zx03 := wx03.sz
  replace hx1 := hx1.up lx1
  have zx1 := hx1.sz (by decide)
  obtain ⟨x1q, hx1q, ex1⟩ := id hx1
  obtain ⟨x10, x11, x12, x13, x14, x15, x16, x17, rfl, ex10, sx11, ex11, sx13, ex12, sx15, ex13, sx17⟩ := id hx1q
  have wx10 : IsZ (.agg #[.bool x10, .string x11]) x1q.a 20000 := ⟨x10, x11, rfl, ex10, sx11⟩
  have zx10 := wx10.sz
  have wx11 : IsZ (.agg #[.bool x12, .string x13]) x1q.b 20000 := ⟨x12, x13, rfl, ex11, sx13⟩
  have zx11 := wx11.sz
  have wx12 : IsZ (.agg #[.bool x14, .string x15]) x1q.c 20000 := ⟨x14, x15, rfl, ex12, sx15⟩
  have zx12 := wx12.sz
  have wx13 : IsZ (.agg #[.bool x16, .string x17]) x1q.d 20000 := ⟨x16, x17, rfl, ex13, sx17⟩
  have zx13 := wx13.sz
  have f1 : Vk x0 20000 := Vk.up ((Vk.ofP1 zx0)) (by decide)
  have f2 : Vk x1 20000 := Vk.up ((Vk.ofP1 zx1)) (by decide)
  have f3 : Rk x0.x 20000 := Rk.up (f1.1) (by decide)
  have f4 : Rk x1.x 20000 := Rk.up (f2.1) (by decide)
  exact SX.run (w := w) (List.flatten [[.bool x00, .string x01, .bool x02, .string x03, .bool x04, .string x05, .bool x06, .string x07, .bool x10, .string x11, .bool x12, .string x13, .bool x14, .string x15, .bool x16, .string x17], vc x0, vc x1, [.int .i64 (cmpQ x0.x x1.x), .bool true]]) [.b true] [.ga 0 8, .ga 8 8] 16 (.one (.ca 34)) [.call 55 [.ga 0 8] (.one (.ga 16 9)) [], .call 55 [.ga 8 8] (.one (.ga 25 9)) [], .call 102 [.ga 16 3, .ga 25 3] (.one (.ca 34)) [], .op2 false .neq (.pa 34) (.p (.lit (.int .i64 0))) 35, .isB 35 true] Tryz.func61 (by kernel_rfl) rfl (by kernel_rfl) rfl (by kernel_rfl)
    ⟨fun γ w' _ _ => p4Coords hx0 (by decide) w',
     fun γ w' _ _ => p4Coords hx1 (by decide) w',
     fun γ w' _ _ => rCmp (IsQ.can f3) (by decide) (IsQ.can f4) (by decide) w',
     congrArg (fun z => some (Value.bool z)) (bne_iff_ne.2 h1 : ((cmpQ x0.x x1.x) != (0 : Int)) = true),
     rfl⟩
theorem p4Cmp_y {ux0 : Value} {x0 : P3} {kx0 : Nat} (hx0 : IsP ux0 x0 kx0) (lx0 : kx0 ≤ 20000) {ux1 : Value} {x1 : P3} {kx1 : Nat} (hx1 : IsP ux1 x1 kx1) (lx1 : kx1 ≤ 20000) (w : World) (h1 : cmpQ x0.x x1.x = 0) (h2 : cmpQ x0.y x1.y ≠ 0) :
    Calls Tryz.prog 61 #[ux0, ux1] w fun e w' => e = .returned (.int .i64 (cmpQ x0.y x1.y)) ∧ Below w.heap.size w w' := by
  replace hx0 := hx0.up lx0
  have zx0 := hx0.sz (by decide)
  obtain ⟨x0q, hx0q, ex0⟩ := id hx0
  obtain ⟨x00, x01, x02, x03, x04, x05, x06, x07, rfl, ex00, sx01, ex01, sx03, ex02, sx05, ex03, sx07⟩ := id hx0q
  have wx00 : IsZ (.agg #[.bool x00, .string x01]) x0q.a 20000 := ⟨x00, x01, rfl, ex00, sx01⟩
  have zx00 := wx00.sz
  have wx01 : IsZ (.agg #[.bool x02, .string x03]) x0q.b 20000 := ⟨x02, x03, rfl, ex01, sx03⟩
  have zx01 := wx01.sz
  have wx02 : IsZ (.agg #[.bool x04, .string x05]) x0q.c 20000 := ⟨x04, x05, rfl, ex02, sx05⟩
  have zx02 := wx02.sz
  have wx03 : IsZ (.agg #[.bool x06, .string x07]) x0q.d 20000 := ⟨x06, x07, rfl, ex03, sx07⟩
  have zx03 := wx03.sz
  replace hx1 := hx1.up lx1
  have zx1 := hx1.sz (by decide)
  obtain ⟨x1q, hx1q, ex1⟩ := id hx1
  obtain ⟨x10, x11, x12, x13, x14, x15, x16, x17, rfl, ex10, sx11, ex11, sx13, ex12, sx15, ex13, sx17⟩ := id hx1q
  have wx10 : IsZ (.agg #[.bool x10, .string x11]) x1q.a 20000 := ⟨x10, x11, rfl, ex10, sx11⟩
  have zx10 := wx10.sz
  have wx11 : IsZ (.agg #[.bool x12, .string x13]) x1q.b 20000 := ⟨x12, x13, rfl, ex11, sx13⟩
  have zx11 := wx11.sz
  have wx12 : IsZ (.agg #[.bool x14, .string x15]) x1q.c 20000 := ⟨x14, x15, rfl, ex12, sx15⟩
  have zx12 := wx12.sz
  have wx13 : IsZ (.agg #[.bool x16, .string x17]) x1q.d 20000 := ⟨x16, x17, rfl, ex13, sx17⟩
  have zx13 := wx13.sz
  have f1 : Vk x0 20000 := Vk.up ((Vk.ofP1 zx0)) (by decide)
  have f2 : Vk x1 20000 := Vk.up ((Vk.ofP1 zx1)) (by decide)
  have f3 : Rk x0.x 20000 := Rk.up (f1.1) (by decide)
  have f4 : Rk x1.x 20000 := Rk.up (f2.1) (by decide)
  have f5 : Rk x0.y 20000 := Rk.up (f1.2.1) (by decide)
  have f6 : Rk x1.y 20000 := Rk.up (f2.2.1) (by decide)
  exact SX.run (w := w) (List.flatten [[.bool x00, .string x01, .bool x02, .string x03, .bool x04, .string x05, .bool x06, .string x07, .bool x10, .string x11, .bool x12, .string x13, .bool x14, .string x15, .bool x16, .string x17], vc x0, vc x1, [.int .i64 (cmpQ x0.x x1.x), .bool false, .int .i64 (cmpQ x0.y x1.y), .bool true]]) [.b false, .b true] [.ga 0 8, .ga 8 8] 16 (.one (.ca 36)) [.call 55 [.ga 0 8] (.one (.ga 16 9)) [], .call 55 [.ga 8 8] (.one (.ga 25 9)) [], .call 102 [.ga 16 3, .ga 25 3] (.one (.ca 34)) [], .op2 false .neq (.pa 34) (.p (.lit (.int .i64 0))) 35, .isB 35 false, .call 102 [.ga 19 3, .ga 28 3] (.one (.ca 36)) [], .op2 false .neq (.pa 36) (.p (.lit (.int .i64 0))) 37, .isB 37 true] Tryz.func61 (by kernel_rfl) rfl (by kernel_rfl) rfl (by kernel_rfl)
    ⟨fun γ w' _ _ => p4Coords hx0 (by decide) w',
     fun γ w' _ _ => p4Coords hx1 (by decide) w',
     fun γ w' _ _ => rCmp (IsQ.can f3) (by decide) (IsQ.can f4) (by decide) w',
     congrArg (fun z => some (Value.bool z)) (bne_eq_false_iff_eq.2 h1 : ((cmpQ x0.x x1.x) != (0 : Int)) = false),
     rfl,
     fun γ w' _ _ => rCmp (IsQ.can f5) (by decide) (IsQ.can f6) (by decide) w',
     congrArg (fun z => some (Value.bool z)) (bne_iff_ne.2 h2 : ((cmpQ x0.y x1.y) != (0 : Int)) = true),
     rfl⟩
theorem p4Cmp_z {ux0 : Value} {x0 : P3} {kx0 : Nat} (hx0 : IsP ux0 x0 kx0) (lx0 : kx0 ≤ 20000) {ux1 : Value} {x1 : P3} {kx1 : Nat} (hx1 : IsP ux1 x1 kx1) (lx1 : kx1 ≤ 20000) (w : World) (h1 : cmpQ x0.x x1.x = 0) (h2 : cmpQ x0.y x1.y = 0) (h3 : cmpQ x0.z x1.z ≠ 0) :
    Calls Tryz.prog 61 #[ux0, ux1] w fun e w' => e = .returned (.int .i64 (cmpQ x0.z x1.z)) ∧ Below w.heap.size w w' := by
  replace hx0 := hx0.up lx0
  have zx0 := hx0.sz (by decide)
  obtain ⟨x0q, hx0q, ex0⟩ := id hx0
  obtain ⟨x00, x01, x02, x03, x04, x05, x06, x07, rfl, ex00, sx01, ex01, sx03, ex02, sx05, ex03, sx07⟩ := id hx0q
  have wx00 : IsZ (.agg #[.bool x00, .string x01]) x0q.a 20000 := ⟨x00, x01, rfl, ex00, sx01⟩
  have zx00 := wx00.sz
  have wx01 : IsZ (.agg #[.bool x02, .string x03]) x0q.b 20000 := ⟨x02, x03, rfl, ex01, sx03⟩
  have zx01 := wx01.sz
  have wx02 : IsZ (.agg #[.bool x04, .string x05]) x0q.c 20000 := ⟨x04, x05, rfl, ex02, sx05⟩
  have zx02 := wx02.sz
  have wx03 : IsZ (.agg #[.bool x06, .string x07]) x0q.d 20000 := ⟨x06, x07, rfl, ex03, sx07⟩
  have zx03 := wx03.sz
  replace hx1 := hx1.up lx1
  have zx1 := hx1.sz (by decide)
  obtain ⟨x1q, hx1q, ex1⟩ := id hx1
  obtain ⟨x10, x11, x12, x13, x14, x15, x16, x17, rfl, ex10, sx11, ex11, sx13, ex12, sx15, ex13, sx17⟩ := id hx1q
  have wx10 : IsZ (.agg #[.bool x10, .string x11]) x1q.a 20000 := ⟨x10, x11, rfl, ex10, sx11⟩
  have zx10 := wx10.sz
  have wx11 : IsZ (.agg #[.bool x12, .string x13]) x1q.b 20000 := ⟨x12, x13, rfl, ex11, sx13⟩
  have zx11 := wx11.sz
  have wx12 : IsZ (.agg #[.bool x14, .string x15]) x1q.c 20000 := ⟨x14, x15, rfl, ex12, sx15⟩
  have zx12 := wx12.sz
  have wx13 : IsZ (.agg #[.bool x16, .string x17]) x1q.d 20000 := ⟨x16, x17, rfl, ex13, sx17⟩
  have zx13 := wx13.sz
  have f1 : Vk x0 20000 := Vk.up ((Vk.ofP1 zx0)) (by decide)
  have f2 : Vk x1 20000 := Vk.up ((Vk.ofP1 zx1)) (by decide)
  have f3 : Rk x0.x 20000 := Rk.up (f1.1) (by decide)
  have f4 : Rk x1.x 20000 := Rk.up (f2.1) (by decide)
  have f5 : Rk x0.y 20000 := Rk.up (f1.2.1) (by decide)
  have f6 : Rk x1.y 20000 := Rk.up (f2.2.1) (by decide)
  have f7 : Rk x0.z 20000 := Rk.up (f1.2.2) (by decide)
  have f8 : Rk x1.z 20000 := Rk.up (f2.2.2) (by decide)
  exact SX.run (w := w) (List.flatten [[.bool x00, .string x01, .bool x02, .string x03, .bool x04, .string x05, .bool x06, .string x07, .bool x10, .string x11, .bool x12, .string x13, .bool x14, .string x15, .bool x16, .string x17], vc x0, vc x1, [.int .i64 (cmpQ x0.x x1.x), .bool false, .int .i64 (cmpQ x0.y x1.y), .bool false, .int .i64 (cmpQ x0.z x1.z), .bool true]]) [.b false, .b false, .b true] [.ga 0 8, .ga 8 8] 16 (.one (.ca 38)) [.call 55 [.ga 0 8] (.one (.ga 16 9)) [], .call 55 [.ga 8 8] (.one (.ga 25 9)) [], .call 102 [.ga 16 3, .ga 25 3] (.one (.ca 34)) [], .op2 false .neq (.pa 34) (.p (.lit (.int .i64 0))) 35, .isB 35 false, .call 102 [.ga 19 3, .ga 28 3] (.one (.ca 36)) [], .op2 false .neq (.pa 36) (.p (.lit (.int .i64 0))) 37, .isB 37 false, .call 102 [.ga 22 3, .ga 31 3] (.one (.ca 38)) [], .op2 false .neq (.pa 38) (.p (.lit (.int .i64 0))) 39, .isB 39 true] Tryz.func61 (by kernel_rfl) rfl (by kernel_rfl) rfl (by kernel_rfl)
    ⟨fun γ w' _ _ => p4Coords hx0 (by decide) w',
     fun γ w' _ _ => p4Coords hx1 (by decide) w',
     fun γ w' _ _ => rCmp (IsQ.can f3) (by decide) (IsQ.can f4) (by decide) w',
     congrArg (fun z => some (Value.bool z)) (bne_eq_false_iff_eq.2 h1 : ((cmpQ x0.x x1.x) != (0 : Int)) = false),
     rfl,
     fun γ w' _ _ => rCmp (IsQ.can f5) (by decide) (IsQ.can f6) (by decide) w',
     congrArg (fun z => some (Value.bool z)) (bne_eq_false_iff_eq.2 h2 : ((cmpQ x0.y x1.y) != (0 : Int)) = false),
     rfl,
     fun γ w' _ _ => rCmp (IsQ.can f7) (by decide) (IsQ.can f8) (by decide) w',
     congrArg (fun z => some (Value.bool z)) (bne_iff_ne.2 h3 : ((cmpQ x0.z x1.z) != (0 : Int)) = true),
     rfl⟩
theorem p4Cmp_w {ux0 : Value} {x0 : P3} {kx0 : Nat} (hx0 : IsP ux0 x0 kx0) (lx0 : kx0 ≤ 20000) {ux1 : Value} {x1 : P3} {kx1 : Nat} (hx1 : IsP ux1 x1 kx1) (lx1 : kx1 ≤ 20000) (w : World) (h1 : cmpQ x0.x x1.x = 0) (h2 : cmpQ x0.y x1.y = 0) (h3 : cmpQ x0.z x1.z = 0) :
    Calls Tryz.prog 61 #[ux0, ux1] w fun e w' => e = .returned (.int .i64 0) ∧ Below w.heap.size w w' := by
  replace hx0 := hx0.up lx0
  have zx0 := hx0.sz (by decide)
  obtain ⟨x0q, hx0q, ex0⟩ := id hx0
  obtain ⟨x00, x01, x02, x03, x04, x05, x06, x07, rfl, ex00, sx01, ex01, sx03, ex02, sx05, ex03, sx07⟩ := id hx0q
  have wx00 : IsZ (.agg #[.bool x00, .string x01]) x0q.a 20000 := ⟨x00, x01, rfl, ex00, sx01⟩
  have zx00 := wx00.sz
  have wx01 : IsZ (.agg #[.bool x02, .string x03]) x0q.b 20000 := ⟨x02, x03, rfl, ex01, sx03⟩
  have zx01 := wx01.sz
  have wx02 : IsZ (.agg #[.bool x04, .string x05]) x0q.c 20000 := ⟨x04, x05, rfl, ex02, sx05⟩
  have zx02 := wx02.sz
  have wx03 : IsZ (.agg #[.bool x06, .string x07]) x0q.d 20000 := ⟨x06, x07, rfl, ex03, sx07⟩
  have zx03 := wx03.sz
  replace hx1 := hx1.up lx1
  have zx1 := hx1.sz (by decide)
  obtain ⟨x1q, hx1q, ex1⟩ := id hx1
  obtain ⟨x10, x11, x12, x13, x14, x15, x16, x17, rfl, ex10, sx11, ex11, sx13, ex12, sx15, ex13, sx17⟩ := id hx1q
  have wx10 : IsZ (.agg #[.bool x10, .string x11]) x1q.a 20000 := ⟨x10, x11, rfl, ex10, sx11⟩
  have zx10 := wx10.sz
  have wx11 : IsZ (.agg #[.bool x12, .string x13]) x1q.b 20000 := ⟨x12, x13, rfl, ex11, sx13⟩
  have zx11 := wx11.sz
  have wx12 : IsZ (.agg #[.bool x14, .string x15]) x1q.c 20000 := ⟨x14, x15, rfl, ex12, sx15⟩
  have zx12 := wx12.sz
  have wx13 : IsZ (.agg #[.bool x16, .string x17]) x1q.d 20000 := ⟨x16, x17, rfl, ex13, sx17⟩
  have zx13 := wx13.sz
  have f1 : Vk x0 20000 := Vk.up ((Vk.ofP1 zx0)) (by decide)
  have f2 : Vk x1 20000 := Vk.up ((Vk.ofP1 zx1)) (by decide)
  have f3 : Rk x0.x 20000 := Rk.up (f1.1) (by decide)
  have f4 : Rk x1.x 20000 := Rk.up (f2.1) (by decide)
  have f5 : Rk x0.y 20000 := Rk.up (f1.2.1) (by decide)
  have f6 : Rk x1.y 20000 := Rk.up (f2.2.1) (by decide)
  have f7 : Rk x0.z 20000 := Rk.up (f1.2.2) (by decide)
  have f8 : Rk x1.z 20000 := Rk.up (f2.2.2) (by decide)
  exact SX.run (w := w) (List.flatten [[.bool x00, .string x01, .bool x02, .string x03, .bool x04, .string x05, .bool x06, .string x07, .bool x10, .string x11, .bool x12, .string x13, .bool x14, .string x15, .bool x16, .string x17], vc x0, vc x1, [.int .i64 (cmpQ x0.x x1.x), .bool false, .int .i64 (cmpQ x0.y x1.y), .bool false, .int .i64 (cmpQ x0.z x1.z), .bool false]]) [.b false, .b false, .b false] [.ga 0 8, .ga 8 8] 16 (.one (.c (.p (.lit (.int .i64 0))))) [.call 55 [.ga 0 8] (.one (.ga 16 9)) [], .call 55 [.ga 8 8] (.one (.ga 25 9)) [], .call 102 [.ga 16 3, .ga 25 3] (.one (.ca 34)) [], .op2 false .neq (.pa 34) (.p (.lit (.int .i64 0))) 35, .isB 35 false, .call 102 [.ga 19 3, .ga 28 3] (.one (.ca 36)) [], .op2 false .neq (.pa 36) (.p (.lit (.int .i64 0))) 37, .isB 37 false, .call 102 [.ga 22 3, .ga 31 3] (.one (.ca 38)) [], .op2 false .neq (.pa 38) (.p (.lit (.int .i64 0))) 39, .isB 39 false] Tryz.func61 (by kernel_rfl) rfl (by kernel_rfl) rfl (by kernel_rfl)
    ⟨fun γ w' _ _ => p4Coords hx0 (by decide) w',
     fun γ w' _ _ => p4Coords hx1 (by decide) w',
     fun γ w' _ _ => rCmp (IsQ.can f3) (by decide) (IsQ.can f4) (by decide) w',
     congrArg (fun z => some (Value.bool z)) (bne_eq_false_iff_eq.2 h1 : ((cmpQ x0.x x1.x) != (0 : Int)) = false),
     rfl,
     fun γ w' _ _ => rCmp (IsQ.can f5) (by decide) (IsQ.can f6) (by decide) w',
     congrArg (fun z => some (Value.bool z)) (bne_eq_false_iff_eq.2 h2 : ((cmpQ x0.y x1.y) != (0 : Int)) = false),
     rfl,
     fun γ w' _ _ => rCmp (IsQ.can f7) (by decide) (IsQ.can f8) (by decide) w',
     congrArg (fun z => some (Value.bool z)) (bne_eq_false_iff_eq.2 h3 : ((cmpQ x0.z x1.z) != (0 : Int)) = false),
     rfl⟩
theorem p4Cmp {ux0 : Value} {x0 : P3} {kx0 : Nat} (hx0 : IsP ux0 x0 kx0) (lx0 : kx0 ≤ 20000) {ux1 : Value} {x1 : P3} {kx1 : Nat} (hx1 : IsP ux1 x1 kx1) (lx1 : kx1 ≤ 20000) (w : World) :
    Calls Tryz.prog 61 #[ux0, ux1] w fun e w' => e = .returned (.int .i64 (cmpP x0 x1)) ∧ Below w.heap.size w w' := by
  by_cases h1 : cmpQ x0.x x1.x = 0
  · by_cases h2 : cmpQ x0.y x1.y = 0
    · rw [cmpP_z h1 h2]
      by_cases h3 : cmpQ x0.z x1.z = 0
      · rw [h3]; exact p4Cmp_w hx0 lx0 hx1 lx1 w h1 h2 h3
      · exact p4Cmp_z hx0 lx0 hx1 lx1 w h1 h2 h3
    · rw [cmpP_y h1 h2]; exact p4Cmp_y hx0 lx0 hx1 lx1 w h1 h2
  · rw [cmpP_x h1]; exact p4Cmp_x hx0 lx0 hx1 lx1 w h1
end Go.Proofs.YtfapglafeghggaaGreatDoor
