/- voussoirref04: coordinates, order, sums, texts; what the laws reject. -/
import Derived.Test.YtodcomijjmobdaaGreatDoorPr
import Derived.Test.YtodcomijjmobdaaGreatDoorIs
import Derived.Test.YtodcomijjmobdaaGreatDoorQd
import Derived.Test.YtodcomijjmobdaaGreatDoorPq
import Derived.Test.YtodcomijjmobdaaGreatDoorShelf
import Derived.Test.YtodcomijjmobdaaGreatDoorN4
import Derived.Lib.Repeat
import Derived.Test.YtodcomijjmobdaaGreatDoorQr
import Derived.Test.YtodcomijjmobdaaGreatDoorSx
import Derived.Test.YtodcomijjmobdaaGreatDoorN1
set_option linter.unusedVariables false
set_option linter.unusedSimpArgs false
namespace Go.Proofs.YtodcomijjmobdaaGreatDoor
open Go.RowKit NM SX
theorem p4Norm {ux0 : Value} {x0 : P3} {kx0 : Nat} (hx0 : IsP ux0 x0 kx0) (lx0 : kx0 ≤ 200000) (w : World) :
    Calls Tryz.prog 13 #[ux0] w fun e w' => e = .returned (PV x0) ∧ Below w.heap.size w w' := by
  obtain ⟨q, hq, rfl⟩ := hx0
  exact p4Norm_F hq lx0 w
theorem p4Make {ux0 : Value} {x0 : P3} {kx0 : Nat} (hx0 : IsV ux0 x0 kx0) (lx0 : kx0 ≤ 50000) (w : World) :
    Calls Tryz.prog 61 #[ux0] w fun e w' => e = .returned (PV x0) ∧ Below w.heap.size w w' := by
  replace hx0 := hx0.up lx0
  have zx0 := hx0.sz (by decide)
  obtain ⟨x00, x01, x02, x03, x04, x05, x06, x07, x08, rfl, ex00, sx01, sx02, ex01, sx04, sx05, ex02, sx07, sx08⟩ := id hx0
  have wx00 : IsQ (.agg #[.bool x00, .string x01, .string x02]) x0.x 50000 := ⟨x00, x01, x02, rfl, ex00, sx01, sx02⟩
  have zx00 := wx00.sz (by decide)
  have wx01 : IsQ (.agg #[.bool x03, .string x04, .string x05]) x0.y 50000 := ⟨x03, x04, x05, rfl, ex01, sx04, sx05⟩
  have zx01 := wx01.sz (by decide)
  have wx02 : IsQ (.agg #[.bool x06, .string x07, .string x08]) x0.z 50000 := ⟨x06, x07, x08, rfl, ex02, sx07, sx08⟩
  have zx02 := wx02.sz (by decide)
  have f1 : Zk x0.x.num 50000 := Zk.up (zx00.1) (by decide)
  have f2 : Zk (x0.x.den : Int) 50000 := Zk.up (zx00.2) (by decide)
  have f3 : Zk x0.y.num 50000 := Zk.up (zx01.1) (by decide)
  have f4 : Zk (x0.y.den : Int) 50000 := Zk.up (zx01.2) (by decide)
  have f5 : Zk x0.z.num 50000 := Zk.up (zx02.1) (by decide)
  have f6 : Zk (x0.z.den : Int) 50000 := Zk.up (zx02.2) (by decide)
  have f7 : Zk ((x0.x.den : Int) * (x0.y.den : Int)) 100000 := Zk.up (mg_mul_size f2 f4) (by decide)
  have f8 : Zk ((x0.y.den : Int) * (x0.z.den : Int)) 100000 := Zk.up (mg_mul_size f4 f6) (by decide)
  have f9 : Zk (x0.x.num * ((x0.y.den : Int) * (x0.z.den : Int))) 150000 := Zk.up (mg_mul_size f1 f8) (by decide)
  have f10 : Zk ((x0.x.den : Int) * (x0.z.den : Int)) 100000 := Zk.up (mg_mul_size f2 f6) (by decide)
  have f11 : Zk (x0.y.num * ((x0.x.den : Int) * (x0.z.den : Int))) 150000 := Zk.up (mg_mul_size f3 f10) (by decide)
  have f12 : Zk (x0.z.num * ((x0.x.den : Int) * (x0.y.den : Int))) 150000 := Zk.up (mg_mul_size f5 f7) (by decide)
  have f13 : Zk (((x0.x.den : Int) * (x0.y.den : Int)) * (x0.z.den : Int)) 150000 := Zk.up (mg_mul_size f7 f6) (by decide)
  have f14 : Pk x0 150000 := Pk.up (Pk.red (pt_hom x0) (Fk.mk f9 f11 f12 f13) (by decide)) (by decide)
  exact SX.run (w := w) (List.flatten [[.bool x00, .string x01, .string x02, .bool x03, .string x04, .string x05, .bool x06, .string x07, .string x08], zc x0.x.num, zc (x0.x.den : Int), zc x0.y.num, zc (x0.y.den : Int), zc x0.z.num, zc (x0.z.den : Int), zc ((x0.x.den : Int) * (x0.y.den : Int)), zc ((x0.y.den : Int) * (x0.z.den : Int)), zc (x0.x.num * ((x0.y.den : Int) * (x0.z.den : Int))), zc ((x0.x.den : Int) * (x0.z.den : Int)), zc (x0.y.num * ((x0.x.den : Int) * (x0.z.den : Int))), zc (x0.z.num * ((x0.x.den : Int) * (x0.y.den : Int))), zc (((x0.x.den : Int) * (x0.y.den : Int)) * (x0.z.den : Int)), pc x0]) [] [.ga 0 9] 9 (.one (.ga 35 8)) [.call 121 [.ga 0 3] (.tup [.ga 9 2, .ga 11 2]) [], .call 121 [.ga 3 3] (.tup [.ga 13 2, .ga 15 2]) [], .call 121 [.ga 6 3] (.tup [.ga 17 2, .ga 19 2]) [], .call 115 [.ga 11 2, .ga 15 2] (.one (.ga 21 2)) [], .call 115 [.ga 15 2, .ga 19 2] (.one (.ga 23 2)) [], .call 115 [.ga 9 2, .ga 23 2] (.one (.ga 25 2)) [], .call 115 [.ga 11 2, .ga 19 2] (.one (.ga 27 2)) [], .call 115 [.ga 13 2, .ga 27 2] (.one (.ga 29 2)) [], .call 115 [.ga 17 2, .ga 21 2] (.one (.ga 31 2)) [], .call 115 [.ga 21 2, .ga 19 2] (.one (.ga 33 2)) [], .call 13 [.agg [.pa 25, .pa 26, .pa 29, .pa 30, .pa 31, .pa 32, .pa 33, .pa 34]] (.one (.ga 35 8)) []] Tryz.func61 (by kernel_rfl) rfl (by kernel_rfl) rfl (by kernel_rfl)
    ⟨fun γ w' _ _ => rParts wx00 (by decide) w',
     fun γ w' _ _ => rParts wx01 (by decide) w',
     fun γ w' _ _ => rParts wx02 (by decide) w',
     fun γ w' _ _ => jMul (IsZ.can f2) (by decide) (IsZ.can f4) (by decide) w',
     fun γ w' _ _ => jMul (IsZ.can f4) (by decide) (IsZ.can f6) (by decide) w',
     fun γ w' _ _ => jMul (IsZ.can f1) (by decide) (IsZ.can f8) (by decide) w',
     fun γ w' _ _ => jMul (IsZ.can f2) (by decide) (IsZ.can f6) (by decide) w',
     fun γ w' _ _ => jMul (IsZ.can f3) (by decide) (IsZ.can f10) (by decide) w',
     fun γ w' _ _ => jMul (IsZ.can f5) (by decide) (IsZ.can f7) (by decide) w',
     fun γ w' _ _ => jMul (IsZ.can f7) (by decide) (IsZ.can f6) (by decide) w',
     fun γ w' _ _ => by have h := p4Norm (IsF.pt (IsF.mk (IsZ.can f9) (IsZ.can f11) (IsZ.can f12) (IsZ.can f13))) (by decide) w'; rw [show pt (Z4.mk (x0.x.num * ((x0.y.den : Int) * (x0.z.den : Int))) (x0.y.num * ((x0.x.den : Int) * (x0.z.den : Int))) (x0.z.num * ((x0.x.den : Int) * (x0.y.den : Int))) (((x0.x.den : Int) * (x0.y.den : Int)) * (x0.z.den : Int))) = x0 from pt_hom x0] at h; exact h⟩
theorem p4Coords {ux0 : Value} {x0 : P3} {kx0 : Nat} (hx0 : IsP ux0 x0 kx0) (lx0 : kx0 ≤ 50000) (w : World) :
    Calls Tryz.prog 62 #[ux0] w fun e w' => e = .returned (VV x0) ∧ Below w.heap.size w w' := by
  replace hx0 := hx0.up lx0
  have zx0 := hx0.sz (by decide)
  obtain ⟨x0q, hx0q, ex0⟩ := id hx0
  obtain ⟨x00, x01, x02, x03, x04, x05, x06, x07, rfl, ex00, sx01, ex01, sx03, ex02, sx05, ex03, sx07⟩ := id hx0q
  have wx00 : IsZ (.agg #[.bool x00, .string x01]) x0q.a 50000 := ⟨x00, x01, rfl, ex00, sx01⟩
  have zx00 := wx00.sz
  have wx01 : IsZ (.agg #[.bool x02, .string x03]) x0q.b 50000 := ⟨x02, x03, rfl, ex01, sx03⟩
  have zx01 := wx01.sz
  have wx02 : IsZ (.agg #[.bool x04, .string x05]) x0q.c 50000 := ⟨x04, x05, rfl, ex02, sx05⟩
  have zx02 := wx02.sz
  have wx03 : IsZ (.agg #[.bool x06, .string x07]) x0q.d 50000 := ⟨x06, x07, rfl, ex03, sx07⟩
  have zx03 := wx03.sz
  have f1 : Pk x0 50000 := Pk.up (zx0) (by decide)
  have f2 : Zk (can4 x0).a 50000 := Zk.up (f1.1) (by decide)
  have f3 : Zk (can4 x0).d 50000 := Zk.up (f1.2.2.2) (by decide)
  have f4 : Rk x0.x 50000 := Rk.up ((Vk.ofP1 zx0).1) (by decide)
  have f5 : Zk (can4 x0).b 50000 := Zk.up (f1.2.1) (by decide)
  have f6 : Rk x0.y 50000 := Rk.up ((Vk.ofP1 zx0).2.1) (by decide)
  have f7 : Zk (can4 x0).c 50000 := Zk.up (f1.2.2.1) (by decide)
  have f8 : Rk x0.z 50000 := Rk.up ((Vk.ofP1 zx0).2.2) (by decide)
  exact SX.run (w := w) (List.flatten [[.bool x00, .string x01, .bool x02, .string x03, .bool x04, .string x05, .bool x06, .string x07], pc x0, qc x0.x, [.bool (decide ((can4 x0).d ≠ 0))], qc x0.y, [.bool (decide ((can4 x0).d ≠ 0))], qc x0.z, [.bool (decide ((can4 x0).d ≠ 0))]]) [] [.ga 0 8] 8 (.one (.agg [.pa 16, .pa 17, .pa 18, .pa 20, .pa 21, .pa 22, .pa 24, .pa 25, .pa 26])) [.call 13 [.ga 0 8] (.one (.ga 8 8)) [], .call 80 [.ga 8 2, .ga 14 2] (.tup [.ga 16 3, .ca 19]) [], .call 80 [.ga 10 2, .ga 14 2] (.tup [.ga 20 3, .ca 23]) [], .call 80 [.ga 12 2, .ga 14 2] (.tup [.ga 24 3, .ca 27]) []] Tryz.func62 (by kernel_rfl) rfl (by kernel_rfl) rfl (by kernel_rfl)
    ⟨fun γ w' _ _ => p4Norm hx0 (by decide) w',
     fun γ w' _ _ => by have h := rMake (IsZ.can f2) (by decide) (IsZ.can f3) (by decide) w'; rw [can4_x] at h; exact h,
     fun γ w' _ _ => by have h := rMake (IsZ.can f5) (by decide) (IsZ.can f3) (by decide) w'; rw [can4_y] at h; exact h,
     fun γ w' _ _ => by have h := rMake (IsZ.can f7) (by decide) (IsZ.can f3) (by decide) w'; rw [can4_z] at h; exact h⟩
end Go.Proofs.YtodcomijjmobdaaGreatDoor
