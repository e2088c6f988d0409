/- voussoirref06 without Share. -/
import Derived.Test.YtfapglafeghggaaGreatDoorUb
import Derived.Test.YtfapglafeghggaaGreatDoorVr
import Derived.Test.YtfapglafeghggaaGreatDoorPs
set_option linter.unusedVariables false
set_option linter.unusedSimpArgs false
namespace Go.Proofs.YtfapglafeghggaaGreatDoor
open Go.RowKit NM SX
theorem u6whole {ux0 : Value} {x0 : Int} {kx0 : Nat} (hx0 : IsZ ux0 x0 kx0) (lx0 : kx0 ≤ 50000) (w : World) :
    Calls Tryz.prog 74 #[ux0] w fun e w' => e = .returned (QV (x0 : Rat)) ∧ Below w.heap.size w w' := by
  replace hx0 := hx0.up lx0
  have zx0 := hx0.sz
  obtain ⟨x00, x01, rfl, ex00, sx01⟩ := id hx0
  have f1 : Zk (1 : Int) 8 := mg_size_le (k := 8) (by first | decide | omega)
  have f2 : Rk (x0 : Rat) 50000 := Rk.up ((Rk.int zx0)) (by decide)
  exact SX.run (w := w) (List.flatten [[.bool x00, .string x01], zc (1 : Int), qc (x0 : Rat), [.bool (decide ((1 : Int) ≠ 0))]]) [] [.ga 0 2] 2 (.one (.ga 4 3)) [.call 45 [.c (.p (.lit (.int .i64 1)))] (.one (.ga 2 2)) [], .call 78 [.ga 0 2, .ga 2 2] (.tup [.ga 4 3, .ca 7]) []] Tryz.func74 (by kernel_rfl) rfl (by kernel_rfl) rfl (by kernel_rfl)
    ⟨fun γ w' _ _ => From_any 1 w' (by first | decide | omega) (by first | decide | omega),
     fun γ w' _ _ => by have h := rMake hx0 (by decide) (IsZ.can f1) (by decide) w'; rw [divInt_unit] at h; exact h⟩
theorem u6minus {ux0 : Value} {x0 : P3} {kx0 : Nat} (hx0 : IsP ux0 x0 kx0) (lx0 : kx0 ≤ 50000) {ux1 : Value} {x1 : P3} {kx1 : Nat} (hx1 : IsP ux1 x1 kx1) (lx1 : kx1 ≤ 50000) (w : World) :
    Calls Tryz.prog 53 #[ux0, ux1] w fun e w' => e = .returned (VV (subP x0 x1)) ∧ Below w.heap.size w w' := by
  replace hx0 := hx0.up lx0
  have zx0 := hx0.sz (by decide)
  obtain ⟨x0q, hx0q, ex0⟩ := id hx0
  obtain ⟨x00, x01, x02, x03, x04, x05, x06, x07, rfl, ex00, sx01, ex01, sx03, ex02, sx05, ex03, sx07⟩ := id hx0q
  have wx00 : IsZ (.agg #[.bool x00, .string x01]) x0q.a 50000 := ⟨x00, x01, rfl, ex00, sx01⟩
  have zx00 := wx00.sz
  have wx01 : IsZ (.agg #[.bool x02, .string x03]) x0q.b 50000 := ⟨x02, x03, rfl, ex01, sx03⟩
  have zx01 := wx01.sz
  have wx02 : IsZ (.agg #[.bool x04, .string x05]) x0q.c 50000 := ⟨x04, x05, rfl, ex02, sx05⟩
  have zx02 := wx02.sz
  have wx03 : IsZ (.agg #[.bool x06, .string x07]) x0q.d 50000 := ⟨x06, x07, rfl, ex03, sx07⟩
  have zx03 := wx03.sz
  replace hx1 := hx1.up lx1
  have zx1 := hx1.sz (by decide)
  obtain ⟨x1q, hx1q, ex1⟩ := id hx1
  obtain ⟨x10, x11, x12, x13, x14, x15, x16, x17, rfl, ex10, sx11, ex11, sx13, ex12, sx15, ex13, sx17⟩ := id hx1q
  have wx10 : IsZ (.agg #[.bool x10, .string x11]) x1q.a 50000 := ⟨x10, x11, rfl, ex10, sx11⟩
  have zx10 := wx10.sz
  have wx11 : IsZ (.agg #[.bool x12, .string x13]) x1q.b 50000 := ⟨x12, x13, rfl, ex11, sx13⟩
  have zx11 := wx11.sz
  have wx12 : IsZ (.agg #[.bool x14, .string x15]) x1q.c 50000 := ⟨x14, x15, rfl, ex12, sx15⟩
  have zx12 := wx12.sz
  have wx13 : IsZ (.agg #[.bool x16, .string x17]) x1q.d 50000 := ⟨x16, x17, rfl, ex13, sx17⟩
  have zx13 := wx13.sz
  have f1 : Vk x0 50000 := Vk.up ((Vk.ofP1 zx0)) (by decide)
  have f2 : Vk x1 50000 := Vk.up ((Vk.ofP1 zx1)) (by decide)
  have f3 : Rk x0.x 50000 := Rk.up (f1.1) (by decide)
  have f4 : Rk x1.x 50000 := Rk.up (f2.1) (by decide)
  have f5 : Rk (x0.x - x1.x) 100001 := Rk.up (Rk.sub f3 f4) (by decide)
  have f6 : Rk x0.y 50000 := Rk.up (f1.2.1) (by decide)
  have f7 : Rk x1.y 50000 := Rk.up (f2.2.1) (by decide)
  have f8 : Rk (x0.y - x1.y) 100001 := Rk.up (Rk.sub f6 f7) (by decide)
  have f9 : Rk x0.z 50000 := Rk.up (f1.2.2) (by decide)
  have f10 : Rk x1.z 50000 := Rk.up (f2.2.2) (by decide)
  have f11 : Rk (x0.z - x1.z) 100001 := Rk.up (Rk.sub f9 f10) (by decide)
  exact SX.run (w := w) (List.flatten [[.bool x00, .string x01, .bool x02, .string x03, .bool x04, .string x05, .bool x06, .string x07, .bool x10, .string x11, .bool x12, .string x13, .bool x14, .string x15, .bool x16, .string x17], vc x0, vc x1, qc (x0.x - x1.x), qc (x0.y - x1.y), qc (x0.z - x1.z)]) [] [.ga 0 8, .ga 8 8] 16 (.one (.ga 34 9)) [.call 55 [.ga 0 8] (.one (.ga 16 9)) [], .call 55 [.ga 8 8] (.one (.ga 25 9)) [], .call 54 [.ga 16 3, .ga 25 3] (.one (.ga 34 3)) [], .call 54 [.ga 19 3, .ga 28 3] (.one (.ga 37 3)) [], .call 54 [.ga 22 3, .ga 31 3] (.one (.ga 40 3)) []] Tryz.func53 (by kernel_rfl) rfl (by kernel_rfl) rfl (by kernel_rfl)
    ⟨fun γ w' _ _ => p4Coords hx0 (by decide) w',
     fun γ w' _ _ => p4Coords hx1 (by decide) w',
     fun γ w' _ _ => rSub (IsQ.can f3) (by decide) (IsQ.can f4) (by decide) w',
     fun γ w' _ _ => rSub (IsQ.can f6) (by decide) (IsQ.can f7) (by decide) w',
     fun γ w' _ _ => rSub (IsQ.can f9) (by decide) (IsQ.can f10) (by decide) w'⟩
theorem u6Dot {ux0 : Value} {x0 : P3} {kx0 : Nat} (hx0 : IsV ux0 x0 kx0) (lx0 : kx0 ≤ 10000) {ux1 : Value} {x1 : P3} {kx1 : Nat} (hx1 : IsV ux1 x1 kx1) (lx1 : kx1 ≤ 10000) (w : World) :
    Calls Tryz.prog 36 #[ux0, ux1] w fun e w' => e = .returned (QV (dot3 x0 x1)) ∧ Below w.heap.size w w' := by
  replace hx0 := hx0.up lx0
  have zx0 := hx0.sz (by decide)
  obtain ⟨x00, x01, x02, x03, x04, x05, x06, x07, x08, rfl, ex00, sx01, sx02, ex01, sx04, sx05, ex02, sx07, sx08⟩ := id hx0
  have wx00 : IsQ (.agg #[.bool x00, .string x01, .string x02]) x0.x 10000 := ⟨x00, x01, x02, rfl, ex00, sx01, sx02⟩
  have zx00 := wx00.sz (by decide)
  have wx01 : IsQ (.agg #[.bool x03, .string x04, .string x05]) x0.y 10000 := ⟨x03, x04, x05, rfl, ex01, sx04, sx05⟩
  have zx01 := wx01.sz (by decide)
  have wx02 : IsQ (.agg #[.bool x06, .string x07, .string x08]) x0.z 10000 := ⟨x06, x07, x08, rfl, ex02, sx07, sx08⟩
  have zx02 := wx02.sz (by decide)
  replace hx1 := hx1.up lx1
  have zx1 := hx1.sz (by decide)
  obtain ⟨x10, x11, x12, x13, x14, x15, x16, x17, x18, rfl, ex10, sx11, sx12, ex11, sx14, sx15, ex12, sx17, sx18⟩ := id hx1
  have wx10 : IsQ (.agg #[.bool x10, .string x11, .string x12]) x1.x 10000 := ⟨x10, x11, x12, rfl, ex10, sx11, sx12⟩
  have zx10 := wx10.sz (by decide)
  have wx11 : IsQ (.agg #[.bool x13, .string x14, .string x15]) x1.y 10000 := ⟨x13, x14, x15, rfl, ex11, sx14, sx15⟩
  have zx11 := wx11.sz (by decide)
  have wx12 : IsQ (.agg #[.bool x16, .string x17, .string x18]) x1.z 10000 := ⟨x16, x17, x18, rfl, ex12, sx17, sx18⟩
  have zx12 := wx12.sz (by decide)
  have f1 : Rk (x0.x * x1.x) 20000 := Rk.up (Is.mul zx00 zx10) (by decide)
  have f2 : Rk (x0.y * x1.y) 20000 := Rk.up (Is.mul zx01 zx11) (by decide)
  have f3 : Rk ((x0.x * x1.x) + (x0.y * x1.y)) 40001 := Rk.up (Rk.add f1 f2) (by decide)
  have f4 : Rk (x0.z * x1.z) 20000 := Rk.up (Is.mul zx02 zx12) (by decide)
  have f5 : Rk (((x0.x * x1.x) + (x0.y * x1.y)) + (x0.z * x1.z)) 60002 := Rk.up (Rk.add f3 f4) (by decide)
  exact SX.run (w := w) (List.flatten [[.bool x00, .string x01, .string x02, .bool x03, .string x04, .string x05, .bool x06, .string x07, .string x08, .bool x10, .string x11, .string x12, .bool x13, .string x14, .string x15, .bool x16, .string x17, .string x18], qc (x0.x * x1.x), qc (x0.y * x1.y), qc ((x0.x * x1.x) + (x0.y * x1.y)), qc (x0.z * x1.z), qc (((x0.x * x1.x) + (x0.y * x1.y)) + (x0.z * x1.z))]) [] [.ga 0 9, .ga 9 9] 18 (.one (.ga 30 3)) [.call 76 [.ga 0 3, .ga 9 3] (.one (.ga 18 3)) [], .call 76 [.ga 3 3, .ga 12 3] (.one (.ga 21 3)) [], .call 75 [.ga 18 3, .ga 21 3] (.one (.ga 24 3)) [], .call 76 [.ga 6 3, .ga 15 3] (.one (.ga 27 3)) [], .call 75 [.ga 24 3, .ga 27 3] (.one (.ga 30 3)) []] Tryz.func36 (by kernel_rfl) rfl (by kernel_rfl) rfl (by kernel_rfl)
    ⟨fun γ w' _ _ => rMul wx00 (by decide) wx10 (by decide) w',
     fun γ w' _ _ => rMul wx01 (by decide) wx11 (by decide) w',
     fun γ w' _ _ => rAdd (IsQ.can f1) (by decide) (IsQ.can f2) (by decide) w',
     fun γ w' _ _ => rMul wx02 (by decide) wx12 (by decide) w',
     fun γ w' _ _ => rAdd (IsQ.can f3) (by decide) (IsQ.can f4) (by decide) w'⟩
theorem u6Times {ux0 : Value} {x0 : P3} {kx0 : Nat} (hx0 : IsV ux0 x0 kx0) (lx0 : kx0 ≤ 12000) {ux1 : Value} {x1 : P3} {kx1 : Nat} (hx1 : IsV ux1 x1 kx1) (lx1 : kx1 ≤ 12000) (w : World) :
    Calls Tryz.prog 37 #[ux0, ux1] w fun e w' => e = .returned (VV (crossP x0 x1)) ∧ Below w.heap.size w w' := by
  replace hx0 := hx0.up lx0
  have zx0 := hx0.sz (by decide)
  obtain ⟨x00, x01, x02, x03, x04, x05, x06, x07, x08, rfl, ex00, sx01, sx02, ex01, sx04, sx05, ex02, sx07, sx08⟩ := id hx0
  have wx00 : IsQ (.agg #[.bool x00, .string x01, .string x02]) x0.x 12000 := ⟨x00, x01, x02, rfl, ex00, sx01, sx02⟩
  have zx00 := wx00.sz (by decide)
  have wx01 : IsQ (.agg #[.bool x03, .string x04, .string x05]) x0.y 12000 := ⟨x03, x04, x05, rfl, ex01, sx04, sx05⟩
  have zx01 := wx01.sz (by decide)
  have wx02 : IsQ (.agg #[.bool x06, .string x07, .string x08]) x0.z 12000 := ⟨x06, x07, x08, rfl, ex02, sx07, sx08⟩
  have zx02 := wx02.sz (by decide)
  replace hx1 := hx1.up lx1
  have zx1 := hx1.sz (by decide)
  obtain ⟨x10, x11, x12, x13, x14, x15, x16, x17, x18, rfl, ex10, sx11, sx12, ex11, sx14, sx15, ex12, sx17, sx18⟩ := id hx1
  have wx10 : IsQ (.agg #[.bool x10, .string x11, .string x12]) x1.x 12000 := ⟨x10, x11, x12, rfl, ex10, sx11, sx12⟩
  have zx10 := wx10.sz (by decide)
  have wx11 : IsQ (.agg #[.bool x13, .string x14, .string x15]) x1.y 12000 := ⟨x13, x14, x15, rfl, ex11, sx14, sx15⟩
  have zx11 := wx11.sz (by decide)
  have wx12 : IsQ (.agg #[.bool x16, .string x17, .string x18]) x1.z 12000 := ⟨x16, x17, x18, rfl, ex12, sx17, sx18⟩
  have zx12 := wx12.sz (by decide)
  have f1 : Rk (x0.y * x1.z) 24000 := Rk.up (Is.mul zx01 zx12) (by decide)
  have f2 : Rk (x0.z * x1.y) 24000 := Rk.up (Is.mul zx02 zx11) (by decide)
  have f3 : Rk ((x0.y * x1.z) - (x0.z * x1.y)) 48001 := Rk.up (Rk.sub f1 f2) (by decide)
  have f4 : Rk (x0.z * x1.x) 24000 := Rk.up (Is.mul zx02 zx10) (by decide)
  have f5 : Rk (x0.x * x1.z) 24000 := Rk.up (Is.mul zx00 zx12) (by decide)
  have f6 : Rk ((x0.z * x1.x) - (x0.x * x1.z)) 48001 := Rk.up (Rk.sub f4 f5) (by decide)
  have f7 : Rk (x0.x * x1.y) 24000 := Rk.up (Is.mul zx00 zx11) (by decide)
  have f8 : Rk (x0.y * x1.x) 24000 := Rk.up (Is.mul zx01 zx10) (by decide)
  have f9 : Rk ((x0.x * x1.y) - (x0.y * x1.x)) 48001 := Rk.up (Rk.sub f7 f8) (by decide)
  exact SX.run (w := w) (List.flatten [[.bool x00, .string x01, .string x02, .bool x03, .string x04, .string x05, .bool x06, .string x07, .string x08, .bool x10, .string x11, .string x12, .bool x13, .string x14, .string x15, .bool x16, .string x17, .string x18], qc (x0.y * x1.z), qc (x0.z * x1.y), qc ((x0.y * x1.z) - (x0.z * x1.y)), qc (x0.z * x1.x), qc (x0.x * x1.z), qc ((x0.z * x1.x) - (x0.x * x1.z)), qc (x0.x * x1.y), qc (x0.y * x1.x), qc ((x0.x * x1.y) - (x0.y * x1.x))]) [] [.ga 0 9, .ga 9 9] 18 (.one (.agg [.pa 24, .pa 25, .pa 26, .pa 33, .pa 34, .pa 35, .pa 42, .pa 43, .pa 44])) [.call 76 [.ga 3 3, .ga 15 3] (.one (.ga 18 3)) [], .call 76 [.ga 6 3, .ga 12 3] (.one (.ga 21 3)) [], .call 54 [.ga 18 3, .ga 21 3] (.one (.ga 24 3)) [], .call 76 [.ga 6 3, .ga 9 3] (.one (.ga 27 3)) [], .call 76 [.ga 0 3, .ga 15 3] (.one (.ga 30 3)) [], .call 54 [.ga 27 3, .ga 30 3] (.one (.ga 33 3)) [], .call 76 [.ga 0 3, .ga 12 3] (.one (.ga 36 3)) [], .call 76 [.ga 3 3, .ga 9 3] (.one (.ga 39 3)) [], .call 54 [.ga 36 3, .ga 39 3] (.one (.ga 42 3)) []] Tryz.func37 (by kernel_rfl) rfl (by kernel_rfl) rfl (by kernel_rfl)
    ⟨fun γ w' _ _ => rMul wx01 (by decide) wx12 (by decide) w',
     fun γ w' _ _ => rMul wx02 (by decide) wx11 (by decide) w',
     fun γ w' _ _ => rSub (IsQ.can f1) (by decide) (IsQ.can f2) (by decide) w',
     fun γ w' _ _ => rMul wx02 (by decide) wx10 (by decide) w',
     fun γ w' _ _ => rMul wx00 (by decide) wx12 (by decide) w',
     fun γ w' _ _ => rSub (IsQ.can f4) (by decide) (IsQ.can f5) (by decide) w',
     fun γ w' _ _ => rMul wx00 (by decide) wx11 (by decide) w',
     fun γ w' _ _ => rMul wx01 (by decide) wx10 (by decide) w',
     fun γ w' _ _ => rSub (IsQ.can f7) (by decide) (IsQ.can f8) (by decide) w'⟩
theorem u6normal {ux0 : Value} {x0 : Z4} {kx0 : Nat} (hx0 : IsF ux0 x0 kx0) (lx0 : kx0 ≤ 10000) (w : World) :
    Calls Tryz.prog 35 #[ux0] w fun e w' => e = .returned (.tuple #[VV (nrmF x0), QV (x0.d : Rat)]) ∧ Below w.heap.size w w' := by
  replace hx0 := hx0.up lx0
  have zx0 := hx0.sz
  obtain ⟨x00, x01, x02, x03, x04, x05, x06, x07, rfl, ex00, sx01, ex01, sx03, ex02, sx05, ex03, sx07⟩ := id hx0
  have wx00 : IsZ (.agg #[.bool x00, .string x01]) x0.a 10000 := ⟨x00, x01, rfl, ex00, sx01⟩
  have zx00 := wx00.sz
  have wx01 : IsZ (.agg #[.bool x02, .string x03]) x0.b 10000 := ⟨x02, x03, rfl, ex01, sx03⟩
  have zx01 := wx01.sz
  have wx02 : IsZ (.agg #[.bool x04, .string x05]) x0.c 10000 := ⟨x04, x05, rfl, ex02, sx05⟩
  have zx02 := wx02.sz
  have wx03 : IsZ (.agg #[.bool x06, .string x07]) x0.d 10000 := ⟨x06, x07, rfl, ex03, sx07⟩
  have zx03 := wx03.sz
  have f1 : Rk (x0.a : Rat) 10000 := Rk.up ((Rk.int zx00)) (by decide)
  have f2 : Rk (x0.b : Rat) 10000 := Rk.up ((Rk.int zx01)) (by decide)
  have f3 : Rk (x0.c : Rat) 10000 := Rk.up ((Rk.int zx02)) (by decide)
  have f4 : Rk (x0.d : Rat) 10000 := Rk.up ((Rk.int zx03)) (by decide)
  exact SX.run (w := w) (List.flatten [[.bool x00, .string x01, .bool x02, .string x03, .bool x04, .string x05, .bool x06, .string x07], qc (x0.a : Rat), qc (x0.b : Rat), qc (x0.c : Rat), qc (x0.d : Rat)]) [] [.ga 0 8] 8 (.tup [.ga 8 9, .ga 17 3]) [.call 74 [.ga 0 2] (.one (.ga 8 3)) [], .call 74 [.ga 2 2] (.one (.ga 11 3)) [], .call 74 [.ga 4 2] (.one (.ga 14 3)) [], .call 74 [.ga 6 2] (.one (.ga 17 3)) []] Tryz.func35 (by kernel_rfl) rfl (by kernel_rfl) rfl (by kernel_rfl)
    ⟨fun γ w' _ _ => u6whole wx00 (by decide) w',
     fun γ w' _ _ => u6whole wx01 (by decide) w',
     fun γ w' _ _ => u6whole wx02 (by decide) w',
     fun γ w' _ _ => u6whole wx03 (by decide) w'⟩
theorem u6scale {ux0 : Value} {x0 : P3} {kx0 : Nat} (hx0 : IsV ux0 x0 kx0) (lx0 : kx0 ≤ 50000) {ux1 : Value} {x1 : Rat} {kx1 : Nat} (hx1 : IsQ ux1 x1 kx1) (lx1 : kx1 ≤ 50000) (w : World) :
    Calls Tryz.prog 40 #[ux0, ux1] w fun e w' => e = .returned (VV (mulP x0 x1)) ∧ Below w.heap.size w w' := by
  replace hx0 := hx0.up lx0
  have zx0 := hx0.sz (by decide)
  obtain ⟨x00, x01, x02, x03, x04, x05, x06, x07, x08, rfl, ex00, sx01, sx02, ex01, sx04, sx05, ex02, sx07, sx08⟩ := id hx0
  have wx00 : IsQ (.agg #[.bool x00, .string x01, .string x02]) x0.x 50000 := ⟨x00, x01, x02, rfl, ex00, sx01, sx02⟩
  have zx00 := wx00.sz (by decide)
  have wx01 : IsQ (.agg #[.bool x03, .string x04, .string x05]) x0.y 50000 := ⟨x03, x04, x05, rfl, ex01, sx04, sx05⟩
  have zx01 := wx01.sz (by decide)
  have wx02 : IsQ (.agg #[.bool x06, .string x07, .string x08]) x0.z 50000 := ⟨x06, x07, x08, rfl, ex02, sx07, sx08⟩
  have zx02 := wx02.sz (by decide)
  replace hx1 := hx1.up lx1
  have zx1 := hx1.sz (by decide)
  obtain ⟨x10, x11, x12, rfl, ex10, sx11, sx12⟩ := id hx1
  have f1 : Rk (x0.x * x1) 100000 := Rk.up (Is.mul zx00 zx1) (by decide)
  have f2 : Rk (x0.y * x1) 100000 := Rk.up (Is.mul zx01 zx1) (by decide)
  have f3 : Rk (x0.z * x1) 100000 := Rk.up (Is.mul zx02 zx1) (by decide)
  exact SX.run (w := w) (List.flatten [[.bool x00, .string x01, .string x02, .bool x03, .string x04, .string x05, .bool x06, .string x07, .string x08, .bool x10, .string x11, .string x12], qc (x0.x * x1), qc (x0.y * x1), qc (x0.z * x1)]) [] [.ga 0 9, .ga 9 3] 12 (.one (.ga 12 9)) [.call 76 [.ga 0 3, .ga 9 3] (.one (.ga 12 3)) [], .call 76 [.ga 3 3, .ga 9 3] (.one (.ga 15 3)) [], .call 76 [.ga 6 3, .ga 9 3] (.one (.ga 18 3)) []] Tryz.func40 (by kernel_rfl) rfl (by kernel_rfl) rfl (by kernel_rfl)
    ⟨fun γ w' _ _ => rMul wx00 (by decide) hx1 (by decide) w',
     fun γ w' _ _ => rMul wx01 (by decide) hx1 (by decide) w',
     fun γ w' _ _ => rMul wx02 (by decide) hx1 (by decide) w'⟩
theorem u6plus {ux0 : Value} {x0 : P3} {kx0 : Nat} (hx0 : IsV ux0 x0 kx0) (lx0 : kx0 ≤ 50000) {ux1 : Value} {x1 : P3} {kx1 : Nat} (hx1 : IsV ux1 x1 kx1) (lx1 : kx1 ≤ 50000) (w : World) :
    Calls Tryz.prog 39 #[ux0, ux1] w fun e w' => e = .returned (VV (sumP x0 x1)) ∧ Below w.heap.size w w' := by
  replace hx0 := hx0.up lx0
  have zx0 := hx0.sz (by decide)
  obtain ⟨x00, x01, x02, x03, x04, x05, x06, x07, x08, rfl, ex00, sx01, sx02, ex01, sx04, sx05, ex02, sx07, sx08⟩ := id hx0
  have wx00 : IsQ (.agg #[.bool x00, .string x01, .string x02]) x0.x 50000 := ⟨x00, x01, x02, rfl, ex00, sx01, sx02⟩
  have zx00 := wx00.sz (by decide)
  have wx01 : IsQ (.agg #[.bool x03, .string x04, .string x05]) x0.y 50000 := ⟨x03, x04, x05, rfl, ex01, sx04, sx05⟩
  have zx01 := wx01.sz (by decide)
  have wx02 : IsQ (.agg #[.bool x06, .string x07, .string x08]) x0.z 50000 := ⟨x06, x07, x08, rfl, ex02, sx07, sx08⟩
  have zx02 := wx02.sz (by decide)
  replace hx1 := hx1.up lx1
  have zx1 := hx1.sz (by decide)
  obtain ⟨x10, x11, x12, x13, x14, x15, x16, x17, x18, rfl, ex10, sx11, sx12, ex11, sx14, sx15, ex12, sx17, sx18⟩ := id hx1
  have wx10 : IsQ (.agg #[.bool x10, .string x11, .string x12]) x1.x 50000 := ⟨x10, x11, x12, rfl, ex10, sx11, sx12⟩
  have zx10 := wx10.sz (by decide)
  have wx11 : IsQ (.agg #[.bool x13, .string x14, .string x15]) x1.y 50000 := ⟨x13, x14, x15, rfl, ex11, sx14, sx15⟩
  have zx11 := wx11.sz (by decide)
  have wx12 : IsQ (.agg #[.bool x16, .string x17, .string x18]) x1.z 50000 := ⟨x16, x17, x18, rfl, ex12, sx17, sx18⟩
  have zx12 := wx12.sz (by decide)
  have f1 : Rk (x0.x + x1.x) 100001 := Rk.up (Rk.add zx00 zx10) (by decide)
  have f2 : Rk (x0.y + x1.y) 100001 := Rk.up (Rk.add zx01 zx11) (by decide)
  have f3 : Rk (x0.z + x1.z) 100001 := Rk.up (Rk.add zx02 zx12) (by decide)
  exact SX.run (w := w) (List.flatten [[.bool x00, .string x01, .string x02, .bool x03, .string x04, .string x05, .bool x06, .string x07, .string x08, .bool x10, .string x11, .string x12, .bool x13, .string x14, .string x15, .bool x16, .string x17, .string x18], qc (x0.x + x1.x), qc (x0.y + x1.y), qc (x0.z + x1.z)]) [] [.ga 0 9, .ga 9 9] 18 (.one (.ga 18 9)) [.call 75 [.ga 0 3, .ga 9 3] (.one (.ga 18 3)) [], .call 75 [.ga 3 3, .ga 12 3] (.one (.ga 21 3)) [], .call 75 [.ga 6 3, .ga 15 3] (.one (.ga 24 3)) []] Tryz.func39 (by kernel_rfl) rfl (by kernel_rfl) rfl (by kernel_rfl)
    ⟨fun γ w' _ _ => rAdd wx00 (by decide) wx10 (by decide) w',
     fun γ w' _ _ => rAdd wx01 (by decide) wx11 (by decide) w',
     fun γ w' _ _ => rAdd wx02 (by decide) wx12 (by decide) w'⟩
theorem u6none_0 {ux0 : Value} {x0 : P3} {kx0 : Nat} (hx0 : IsV ux0 x0 kx0) (lx0 : kx0 ≤ 50000) (w : World) (h0 : x0.x ≠ 0) :
    Calls Tryz.prog 60 #[ux0] w fun e w' => e = .returned (.bool false) ∧ Below w.heap.size w w' := by
  replace hx0 := hx0.up lx0
  have zx0 := hx0.sz (by decide)
  obtain ⟨x00, x01, x02, x03, x04, x05, x06, x07, x08, rfl, ex00, sx01, sx02, ex01, sx04, sx05, ex02, sx07, sx08⟩ := id hx0
  have wx00 : IsQ (.agg #[.bool x00, .string x01, .string x02]) x0.x 50000 := ⟨x00, x01, x02, rfl, ex00, sx01, sx02⟩
  have zx00 := wx00.sz (by decide)
  have wx01 : IsQ (.agg #[.bool x03, .string x04, .string x05]) x0.y 50000 := ⟨x03, x04, x05, rfl, ex01, sx04, sx05⟩
  have zx01 := wx01.sz (by decide)
  have wx02 : IsQ (.agg #[.bool x06, .string x07, .string x08]) x0.z 50000 := ⟨x06, x07, x08, rfl, ex02, sx07, sx08⟩
  have zx02 := wx02.sz (by decide)
  exact SX.run (w := w) [.bool x00, .string x01, .string x02, .bool x03, .string x04, .string x05, .bool x06, .string x07, .string x08, .int .i64 (sgQ x0.x), .bool false] [.b false] [.ga 0 9] 9 (.one (.c (.p (.lit (.bool false))))) [.call 38 [.ga 0 3] (.one (.ca 9)) [], .op2 false .eql (.pa 9) (.p (.lit (.int .i64 0))) 10, .isB 10 false] Tryz.func60 (by kernel_rfl) rfl (by kernel_rfl) rfl (by kernel_rfl)
    ⟨fun γ w' _ _ => rSign wx00 (by decide) w',
     congrArg (fun z => some (Value.bool z)) (by rw [sgQ_beq]; exact decide_eq_false h0 : ((sgQ x0.x) == (0 : Int)) = false),
     rfl⟩
theorem u6none_1 {ux0 : Value} {x0 : P3} {kx0 : Nat} (hx0 : IsV ux0 x0 kx0) (lx0 : kx0 ≤ 50000) (w : World) (h0 : x0.x = 0) (h1 : x0.y ≠ 0) :
    Calls Tryz.prog 60 #[ux0] w fun e w' => e = .returned (.bool false) ∧ Below w.heap.size w w' := by
  replace hx0 := hx0.up lx0
  have zx0 := hx0.sz (by decide)
  obtain ⟨x00, x01, x02, x03, x04, x05, x06, x07, x08, rfl, ex00, sx01, sx02, ex01, sx04, sx05, ex02, sx07, sx08⟩ := id hx0
  have wx00 : IsQ (.agg #[.bool x00, .string x01, .string x02]) x0.x 50000 := ⟨x00, x01, x02, rfl, ex00, sx01, sx02⟩
  have zx00 := wx00.sz (by decide)
  have wx01 : IsQ (.agg #[.bool x03, .string x04, .string x05]) x0.y 50000 := ⟨x03, x04, x05, rfl, ex01, sx04, sx05⟩
  have zx01 := wx01.sz (by decide)
  have wx02 : IsQ (.agg #[.bool x06, .string x07, .string x08]) x0.z 50000 := ⟨x06, x07, x08, rfl, ex02, sx07, sx08⟩
  have zx02 := wx02.sz (by decide)
  exact SX.run (w := w) [.bool x00, .string x01, .string x02, .bool x03, .string x04, .string x05, .bool x06, .string x07, .string x08, .int .i64 (sgQ x0.x), .bool true, .int .i64 (sgQ x0.y), .bool false] [.b true, .b false] [.ga 0 9] 9 (.one (.c (.p (.lit (.bool false))))) [.call 38 [.ga 0 3] (.one (.ca 9)) [], .op2 false .eql (.pa 9) (.p (.lit (.int .i64 0))) 10, .isB 10 true, .call 38 [.ga 3 3] (.one (.ca 11)) [], .op2 false .eql (.pa 11) (.p (.lit (.int .i64 0))) 12, .isB 12 false] Tryz.func60 (by kernel_rfl) rfl (by kernel_rfl) rfl (by kernel_rfl)
    ⟨fun γ w' _ _ => rSign wx00 (by decide) w',
     congrArg (fun z => some (Value.bool z)) (by rw [sgQ_beq]; exact decide_eq_true h0 : ((sgQ x0.x) == (0 : Int)) = true),
     rfl,
     fun γ w' _ _ => rSign wx01 (by decide) w',
     congrArg (fun z => some (Value.bool z)) (by rw [sgQ_beq]; exact decide_eq_false h1 : ((sgQ x0.y) == (0 : Int)) = false),
     rfl⟩
theorem u6none_2 {ux0 : Value} {x0 : P3} {kx0 : Nat} (hx0 : IsV ux0 x0 kx0) (lx0 : kx0 ≤ 50000) (w : World) (h0 : x0.x = 0) (h1 : x0.y = 0) :
    Calls Tryz.prog 60 #[ux0] w fun e w' => e = .returned (.bool (sgQ x0.z == 0)) ∧ Below w.heap.size w w' := by
  replace hx0 := hx0.up lx0
  have zx0 := hx0.sz (by decide)
  obtain ⟨x00, x01, x02, x03, x04, x05, x06, x07, x08, rfl, ex00, sx01, sx02, ex01, sx04, sx05, ex02, sx07, sx08⟩ := id hx0
  have wx00 : IsQ (.agg #[.bool x00, .string x01, .string x02]) x0.x 50000 := ⟨x00, x01, x02, rfl, ex00, sx01, sx02⟩
  have zx00 := wx00.sz (by decide)
  have wx01 : IsQ (.agg #[.bool x03, .string x04, .string x05]) x0.y 50000 := ⟨x03, x04, x05, rfl, ex01, sx04, sx05⟩
  have zx01 := wx01.sz (by decide)
  have wx02 : IsQ (.agg #[.bool x06, .string x07, .string x08]) x0.z 50000 := ⟨x06, x07, x08, rfl, ex02, sx07, sx08⟩
  have zx02 := wx02.sz (by decide)
  exact SX.run (w := w) [.bool x00, .string x01, .string x02, .bool x03, .string x04, .string x05, .bool x06, .string x07, .string x08, .int .i64 (sgQ x0.x), .bool true, .int .i64 (sgQ x0.y), .bool true, .int .i64 (sgQ x0.z), .bool ((sgQ x0.z) == (0 : Int))] [.b true, .b true] [.ga 0 9] 9 (.one (.ca 14)) [.call 38 [.ga 0 3] (.one (.ca 9)) [], .op2 false .eql (.pa 9) (.p (.lit (.int .i64 0))) 10, .isB 10 true, .call 38 [.ga 3 3] (.one (.ca 11)) [], .op2 false .eql (.pa 11) (.p (.lit (.int .i64 0))) 12, .isB 12 true, .call 38 [.ga 6 3] (.one (.ca 13)) [], .op2 false .eql (.pa 13) (.p (.lit (.int .i64 0))) 14] Tryz.func60 (by kernel_rfl) rfl (by kernel_rfl) rfl (by kernel_rfl)
    ⟨fun γ w' _ _ => rSign wx00 (by decide) w',
     congrArg (fun z => some (Value.bool z)) (by rw [sgQ_beq]; exact decide_eq_true h0 : ((sgQ x0.x) == (0 : Int)) = true),
     rfl,
     fun γ w' _ _ => rSign wx01 (by decide) w',
     congrArg (fun z => some (Value.bool z)) (by rw [sgQ_beq]; exact decide_eq_true h1 : ((sgQ x0.y) == (0 : Int)) = true),
     rfl,
     fun γ w' _ _ => rSign wx02 (by decide) w',
     rfl⟩
theorem u6none {ux0 : Value} {x0 : P3} {kx0 : Nat} (hx0 : IsV ux0 x0 kx0) (lx0 : kx0 ≤ 50000) (w : World) :
    Calls Tryz.prog 60 #[ux0] w fun e w' => e = .returned (.bool (decide (noneP x0))) ∧ Below w.heap.size w w' := by
  by_cases h0 : x0.x = 0
  · by_cases h1 : x0.y = 0
    · have e : decide (noneP x0) = (sgQ x0.z == 0) := by
        rw [sgQ_beq, decide_eq_decide]
        exact ⟨fun h => h.2.2, fun h => ⟨h0, h1, h⟩⟩
      rw [e]
      exact u6none_2 hx0 lx0 w h0 h1
    · rw [decide_eq_false (fun h : noneP x0 => h1 h.2.1)]
      exact u6none_1 hx0 lx0 w h0 h1
  · rw [decide_eq_false (fun h : noneP x0 => h0 h.1)]
    exact u6none_0 hx0 lx0 w h0
theorem u6Straight {ux0 : Value} {x0 : P3} {kx0 : Nat} (hx0 : IsP ux0 x0 kx0) (lx0 : kx0 ≤ 1000) {ux1 : Value} {x1 : P3} {kx1 : Nat} (hx1 : IsP ux1 x1 kx1) (lx1 : kx1 ≤ 1000) {ux2 : Value} {x2 : P3} {kx2 : Nat} (hx2 : IsP ux2 x2 kx2) (lx2 : kx2 ≤ 1000) (w : World) :
    Calls Tryz.prog 20 #[ux0, ux1, ux2] w fun e w' => e = .returned (.bool (decide (straightP x0 x1 x2))) ∧ Below w.heap.size w w' := by
  replace hx0 := hx0.up lx0
  have zx0 := hx0.sz (by decide)
  obtain ⟨x0q, hx0q, ex0⟩ := id hx0
  obtain ⟨x00, x01, x02, x03, x04, x05, x06, x07, rfl, ex00, sx01, ex01, sx03, ex02, sx05, ex03, sx07⟩ := id hx0q
  have wx00 : IsZ (.agg #[.bool x00, .string x01]) x0q.a 1000 := ⟨x00, x01, rfl, ex00, sx01⟩
  have zx00 := wx00.sz
  have wx01 : IsZ (.agg #[.bool x02, .string x03]) x0q.b 1000 := ⟨x02, x03, rfl, ex01, sx03⟩
  have zx01 := wx01.sz
  have wx02 : IsZ (.agg #[.bool x04, .string x05]) x0q.c 1000 := ⟨x04, x05, rfl, ex02, sx05⟩
  have zx02 := wx02.sz
  have wx03 : IsZ (.agg #[.bool x06, .string x07]) x0q.d 1000 := ⟨x06, x07, rfl, ex03, sx07⟩
  have zx03 := wx03.sz
  replace hx1 := hx1.up lx1
  have zx1 := hx1.sz (by decide)
  obtain ⟨x1q, hx1q, ex1⟩ := id hx1
  obtain ⟨x10, x11, x12, x13, x14, x15, x16, x17, rfl, ex10, sx11, ex11, sx13, ex12, sx15, ex13, sx17⟩ := id hx1q
  have wx10 : IsZ (.agg #[.bool x10, .string x11]) x1q.a 1000 := ⟨x10, x11, rfl, ex10, sx11⟩
  have zx10 := wx10.sz
  have wx11 : IsZ (.agg #[.bool x12, .string x13]) x1q.b 1000 := ⟨x12, x13, rfl, ex11, sx13⟩
  have zx11 := wx11.sz
  have wx12 : IsZ (.agg #[.bool x14, .string x15]) x1q.c 1000 := ⟨x14, x15, rfl, ex12, sx15⟩
  have zx12 := wx12.sz
  have wx13 : IsZ (.agg #[.bool x16, .string x17]) x1q.d 1000 := ⟨x16, x17, rfl, ex13, sx17⟩
  have zx13 := wx13.sz
  replace hx2 := hx2.up lx2
  have zx2 := hx2.sz (by decide)
  obtain ⟨x2q, hx2q, ex2⟩ := id hx2
  obtain ⟨x20, x21, x22, x23, x24, x25, x26, x27, rfl, ex20, sx21, ex21, sx23, ex22, sx25, ex23, sx27⟩ := id hx2q
  have wx20 : IsZ (.agg #[.bool x20, .string x21]) x2q.a 1000 := ⟨x20, x21, rfl, ex20, sx21⟩
  have zx20 := wx20.sz
  have wx21 : IsZ (.agg #[.bool x22, .string x23]) x2q.b 1000 := ⟨x22, x23, rfl, ex21, sx23⟩
  have zx21 := wx21.sz
  have wx22 : IsZ (.agg #[.bool x24, .string x25]) x2q.c 1000 := ⟨x24, x25, rfl, ex22, sx25⟩
  have zx22 := wx22.sz
  have wx23 : IsZ (.agg #[.bool x26, .string x27]) x2q.d 1000 := ⟨x26, x27, rfl, ex23, sx27⟩
  have zx23 := wx23.sz
  have f1 : Vk (subP x1 x0) 2001 := Vk.up ((Vk.subP zx1 zx0)) (by decide)
  have f2 : Vk (subP x2 x0) 2001 := Vk.up ((Vk.subP zx2 zx0)) (by decide)
  have f3 : Vk (crossP (subP x1 x0) (subP x2 x0)) 8005 := Vk.up ((Vk.cross f1 f2)) (by decide)
  exact SX.run (w := w) (List.flatten [[.bool x00, .string x01, .bool x02, .string x03, .bool x04, .string x05, .bool x06, .string x07, .bool x10, .string x11, .bool x12, .string x13, .bool x14, .string x15, .bool x16, .string x17, .bool x20, .string x21, .bool x22, .string x23, .bool x24, .string x25, .bool x26, .string x27], vc (subP x1 x0), vc (subP x2 x0), vc (crossP (subP x1 x0) (subP x2 x0)), [.bool (decide (noneP (crossP (subP x1 x0) (subP x2 x0))))]]) [] [.ga 0 8, .ga 8 8, .ga 16 8] 24 (.one (.ca 51)) [.call 53 [.ga 8 8, .ga 0 8] (.one (.ga 24 9)) [], .call 53 [.ga 16 8, .ga 0 8] (.one (.ga 33 9)) [], .call 37 [.ga 24 9, .ga 33 9] (.one (.ga 42 9)) [], .call 60 [.ga 42 9] (.one (.ca 51)) []] Tryz.func20 (by kernel_rfl) rfl (by kernel_rfl) rfl (by kernel_rfl)
    ⟨fun γ w' _ _ => u6minus hx1 (by decide) hx0 (by decide) w',
     fun γ w' _ _ => u6minus hx2 (by decide) hx0 (by decide) w',
     fun γ w' _ _ => u6Times (IsV.can f1) (by decide) (IsV.can f2) (by decide) w',
     fun γ w' _ _ => u6none (IsV.can f3) (by decide) w'⟩
theorem u6Side {x0 : Z4} {kx0 : Nat} (zx0 : Fk x0 kx0) (lx0 : kx0 ≤ 100000) {x1 : P3} {kx1 : Nat} (zx1 : Pk x1 kx1) (lx1 : kx1 ≤ 100000) (w : World) :
    Calls Tryz.prog 59 #[FV x0, PV x1] w fun e w' => e = .returned (.int .i64 (sideF x0 x1)) ∧ Below w.heap.size w w' := by
  have h := v5Side (IsF.can zx0) lx0 (IsF.can zx1) lx1 w
  rw [side_of (q := x0) (can4_wpos x1) (by grind), pt_can4] at h
  exact h
theorem u6Orient_f {x0 : P3} {kx0 : Nat} (zx0 : Pk x0 kx0) (lx0 : kx0 ≤ 300) {x1 : P3} {kx1 : Nat} (zx1 : Pk x1 kx1) (lx1 : kx1 ≤ 300) {x2 : P3} {kx2 : Nat} (zx2 : Pk x2 kx2) (lx2 : kx2 ≤ 300) {x3 : P3} {kx3 : Nat} (zx3 : Pk x3 kx3) (lx3 : kx3 ≤ 300) (w : World) (hf : straightP x0 x1 x2) :
    Calls Tryz.prog 18 #[PV x0, PV x1, PV x2, PV x3] w fun e w' => e = .returned (.int .i64 0) ∧ Below w.heap.size w w' := by
  replace zx0 := zx0.up lx0
  replace zx1 := zx1.up lx1
  replace zx2 := zx2.up lx2
  replace zx3 := zx3.up lx3
  exact SX.run (w := w) (List.flatten [pc x0, pc x1, pc x2, pc x3, [.bool false, .string ⟨#[]⟩, .bool false, .string ⟨#[]⟩, .bool false, .string ⟨#[]⟩, .bool false, .string ⟨#[]⟩, .bool false, .bool true]]) [.b true] [.ga 0 8, .ga 8 8, .ga 16 8, .ga 24 8] 32 (.one (.c (.p (.lit (.int .i64 0))))) [.call 58 [.ga 0 8, .ga 8 8, .ga 16 8] (.tup [.ga 32 8, .ca 40]) [], .op1 .not (.pa 40) 41, .isB 41 true] Tryz.func18 (by kernel_rfl) rfl (by kernel_rfl) rfl (by kernel_rfl)
    ⟨fun γ w' _ _ => by have h := v5Through_any (IsP.can zx0) (by decide) (IsP.can zx1) (by decide) (IsP.can zx2) (by decide) w'; rw [planeV, if_pos ((straight_thr _ _ _).1 hf)] at h; exact h,
     congrArg (fun z => some (Value.bool z)) (by first | rfl | assumption | decide | simp [*] : (!false) = true),
     rfl⟩
theorem u6Orient_n {x0 : P3} {kx0 : Nat} (zx0 : Pk x0 kx0) (lx0 : kx0 ≤ 300) {x1 : P3} {kx1 : Nat} (zx1 : Pk x1 kx1) (lx1 : kx1 ≤ 300) {x2 : P3} {kx2 : Nat} (zx2 : Pk x2 kx2) (lx2 : kx2 ≤ 300) {x3 : P3} {kx3 : Nat} (zx3 : Pk x3 kx3) (lx3 : kx3 ≤ 300) (w : World) (hf : ¬ straightP x0 x1 x2) :
    Calls Tryz.prog 18 #[PV x0, PV x1, PV x2, PV x3] w fun e w' => e = .returned (.int .i64 (sideF (canQ (thrQ x0 x1 x2)) x3)) ∧ Below w.heap.size w w' := by
  replace zx0 := zx0.up lx0
  replace zx1 := zx1.up lx1
  replace zx2 := zx2.up lx2
  replace zx3 := zx3.up lx3
  have f1 : Fk (canQ (thrQ x0 x1 x2)) 32476 := Fk.up ((Fk.thr6 (k := 300) (Pk.up zx0 (by decide)) (Pk.up zx1 (by decide)) (Pk.up zx2 (by decide)) (by decide))) (by decide)
  exact SX.run (w := w) (List.flatten [pc x0, pc x1, pc x2, pc x3, fc (canQ (thrQ x0 x1 x2)), [.bool true, .bool false, .int .i64 (sideF (canQ (thrQ x0 x1 x2)) x3)]]) [.b false] [.ga 0 8, .ga 8 8, .ga 16 8, .ga 24 8] 32 (.one (.ca 42)) [.call 58 [.ga 0 8, .ga 8 8, .ga 16 8] (.tup [.ga 32 8, .ca 40]) [], .op1 .not (.pa 40) 41, .isB 41 false, .call 59 [.ga 32 8, .ga 24 8] (.one (.ca 42)) []] Tryz.func18 (by kernel_rfl) rfl (by kernel_rfl) rfl (by kernel_rfl)
    ⟨fun γ w' _ _ => by have h := v5Through_any (IsP.can zx0) (by decide) (IsP.can zx1) (by decide) (IsP.can zx2) (by decide) w'; rw [planeV, if_neg (fun e => hf ((straight_thr _ _ _).2 e))] at h; exact h,
     congrArg (fun z => some (Value.bool z)) (by first | rfl | assumption | decide | simp [*] : (!true) = false),
     rfl,
     fun γ w' _ _ => u6Side f1 (by decide) zx3 (by decide) w'⟩
theorem u6Orient {x0 : P3} {kx0 : Nat} (zx0 : Pk x0 kx0) (lx0 : kx0 ≤ 300) {x1 : P3} {kx1 : Nat} (zx1 : Pk x1 kx1) (lx1 : kx1 ≤ 300) {x2 : P3} {kx2 : Nat} (zx2 : Pk x2 kx2) (lx2 : kx2 ≤ 300) {x3 : P3} {kx3 : Nat} (zx3 : Pk x3 kx3) (lx3 : kx3 ≤ 300) (w : World) :
    Calls Tryz.prog 18 #[PV x0, PV x1, PV x2, PV x3] w fun e w' => e = .returned (.int .i64 (orientP x0 x1 x2 x3)) ∧ Below w.heap.size w w' := by
  by_cases hf : straightP x0 x1 x2
  · rw [orient_flat hf]; exact u6Orient_f zx0 lx0 zx1 lx1 zx2 lx2 zx3 lx3 w hf
  · rw [← orient_side hf]; exact u6Orient_n zx0 lx0 zx1 lx1 zx2 lx2 zx3 lx3 w hf
theorem u6Between_s {ux0 : Value} {x0 : P3} {kx0 : Nat} (hx0 : IsP ux0 x0 kx0) (lx0 : kx0 ≤ 1000) {ux1 : Value} {x1 : P3} {kx1 : Nat} (hx1 : IsP ux1 x1 kx1) (lx1 : kx1 ≤ 1000) {ux2 : Value} {x2 : P3} {kx2 : Nat} (hx2 : IsP ux2 x2 kx2) (lx2 : kx2 ≤ 1000) (w : World) (h0 : ¬ straightP x0 x1 x2) :
    Calls Tryz.prog 22 #[ux0, ux1, ux2] w fun e w' => e = .returned (.bool false) ∧ Below w.heap.size w w' := by
  replace hx0 := hx0.up lx0
  have zx0 := hx0.sz (by decide)
  obtain ⟨x0q, hx0q, ex0⟩ := id hx0
  obtain ⟨x00, x01, x02, x03, x04, x05, x06, x07, rfl, ex00, sx01, ex01, sx03, ex02, sx05, ex03, sx07⟩ := id hx0q
  have wx00 : IsZ (.agg #[.bool x00, .string x01]) x0q.a 1000 := ⟨x00, x01, rfl, ex00, sx01⟩
  have zx00 := wx00.sz
  have wx01 : IsZ (.agg #[.bool x02, .string x03]) x0q.b 1000 := ⟨x02, x03, rfl, ex01, sx03⟩
  have zx01 := wx01.sz
  have wx02 : IsZ (.agg #[.bool x04, .string x05]) x0q.c 1000 := ⟨x04, x05, rfl, ex02, sx05⟩
  have zx02 := wx02.sz
  have wx03 : IsZ (.agg #[.bool x06, .string x07]) x0q.d 1000 := ⟨x06, x07, rfl, ex03, sx07⟩
  have zx03 := wx03.sz
  replace hx1 := hx1.up lx1
  have zx1 := hx1.sz (by decide)
  obtain ⟨x1q, hx1q, ex1⟩ := id hx1
  obtain ⟨x10, x11, x12, x13, x14, x15, x16, x17, rfl, ex10, sx11, ex11, sx13, ex12, sx15, ex13, sx17⟩ := id hx1q
  have wx10 : IsZ (.agg #[.bool x10, .string x11]) x1q.a 1000 := ⟨x10, x11, rfl, ex10, sx11⟩
  have zx10 := wx10.sz
  have wx11 : IsZ (.agg #[.bool x12, .string x13]) x1q.b 1000 := ⟨x12, x13, rfl, ex11, sx13⟩
  have zx11 := wx11.sz
  have wx12 : IsZ (.agg #[.bool x14, .string x15]) x1q.c 1000 := ⟨x14, x15, rfl, ex12, sx15⟩
  have zx12 := wx12.sz
  have wx13 : IsZ (.agg #[.bool x16, .string x17]) x1q.d 1000 := ⟨x16, x17, rfl, ex13, sx17⟩
  have zx13 := wx13.sz
  replace hx2 := hx2.up lx2
  have zx2 := hx2.sz (by decide)
  obtain ⟨x2q, hx2q, ex2⟩ := id hx2
  obtain ⟨x20, x21, x22, x23, x24, x25, x26, x27, rfl, ex20, sx21, ex21, sx23, ex22, sx25, ex23, sx27⟩ := id hx2q
  have wx20 : IsZ (.agg #[.bool x20, .string x21]) x2q.a 1000 := ⟨x20, x21, rfl, ex20, sx21⟩
  have zx20 := wx20.sz
  have wx21 : IsZ (.agg #[.bool x22, .string x23]) x2q.b 1000 := ⟨x22, x23, rfl, ex21, sx23⟩
  have zx21 := wx21.sz
  have wx22 : IsZ (.agg #[.bool x24, .string x25]) x2q.c 1000 := ⟨x24, x25, rfl, ex22, sx25⟩
  have zx22 := wx22.sz
  have wx23 : IsZ (.agg #[.bool x26, .string x27]) x2q.d 1000 := ⟨x26, x27, rfl, ex23, sx27⟩
  have zx23 := wx23.sz
  exact SX.run (w := w) [.bool x00, .string x01, .bool x02, .string x03, .bool x04, .string x05, .bool x06, .string x07, .bool x10, .string x11, .bool x12, .string x13, .bool x14, .string x15, .bool x16, .string x17, .bool x20, .string x21, .bool x22, .string x23, .bool x24, .string x25, .bool x26, .string x27, .bool false] [.b false] [.ga 0 8, .ga 8 8, .ga 16 8] 24 (.one (.c (.p (.lit (.bool false))))) [.call 20 [.ga 0 8, .ga 8 8, .ga 16 8] (.one (.ca 24)) [], .isB 24 false] Tryz.func22 (by kernel_rfl) rfl (by kernel_rfl) rfl (by kernel_rfl)
    ⟨fun γ w' _ _ => by have h := u6Straight hx0 (by decide) hx1 (by decide) hx2 (by decide) w'; rw [decide_eq_false h0] at h; exact h,
     rfl⟩
theorem u6Between_c {ux0 : Value} {x0 : P3} {kx0 : Nat} (hx0 : IsP ux0 x0 kx0) (lx0 : kx0 ≤ 1000) {ux1 : Value} {x1 : P3} {kx1 : Nat} (hx1 : IsP ux1 x1 kx1) (lx1 : kx1 ≤ 1000) {ux2 : Value} {x2 : P3} {kx2 : Nat} (hx2 : IsP ux2 x2 kx2) (lx2 : kx2 ≤ 1000) (w : World) (h0 : straightP x0 x1 x2) (h1 : cmpP x0 x1 = 0) :
    Calls Tryz.prog 22 #[ux0, ux1, ux2] w fun e w' => e = .returned (.bool false) ∧ Below w.heap.size w w' := by
  replace hx0 := hx0.up lx0
  have zx0 := hx0.sz (by decide)
  obtain ⟨x0q, hx0q, ex0⟩ := id hx0
  obtain ⟨x00, x01, x02, x03, x04, x05, x06, x07, rfl, ex00, sx01, ex01, sx03, ex02, sx05, ex03, sx07⟩ := id hx0q
  have wx00 : IsZ (.agg #[.bool x00, .string x01]) x0q.a 1000 := ⟨x00, x01, rfl, ex00, sx01⟩
  have zx00 := wx00.sz
  have wx01 : IsZ (.agg #[.bool x02, .string x03]) x0q.b 1000 := ⟨x02, x03, rfl, ex01, sx03⟩
  have zx01 := wx01.sz
  have wx02 : IsZ (.agg #[.bool x04, .string x05]) x0q.c 1000 := ⟨x04, x05, rfl, ex02, sx05⟩
  have zx02 := wx02.sz
  have wx03 : IsZ (.agg #[.bool x06, .string x07]) x0q.d 1000 := ⟨x06, x07, rfl, ex03, sx07⟩
  have zx03 := wx03.sz
  replace hx1 := hx1.up lx1
  have zx1 := hx1.sz (by decide)
  obtain ⟨x1q, hx1q, ex1⟩ := id hx1
  obtain ⟨x10, x11, x12, x13, x14, x15, x16, x17, rfl, ex10, sx11, ex11, sx13, ex12, sx15, ex13, sx17⟩ := id hx1q
  have wx10 : IsZ (.agg #[.bool x10, .string x11]) x1q.a 1000 := ⟨x10, x11, rfl, ex10, sx11⟩
  have zx10 := wx10.sz
  have wx11 : IsZ (.agg #[.bool x12, .string x13]) x1q.b 1000 := ⟨x12, x13, rfl, ex11, sx13⟩
  have zx11 := wx11.sz
  have wx12 : IsZ (.agg #[.bool x14, .string x15]) x1q.c 1000 := ⟨x14, x15, rfl, ex12, sx15⟩
  have zx12 := wx12.sz
  have wx13 : IsZ (.agg #[.bool x16, .string x17]) x1q.d 1000 := ⟨x16, x17, rfl, ex13, sx17⟩
  have zx13 := wx13.sz
  replace hx2 := hx2.up lx2
  have zx2 := hx2.sz (by decide)
  obtain ⟨x2q, hx2q, ex2⟩ := id hx2
  obtain ⟨x20, x21, x22, x23, x24, x25, x26, x27, rfl, ex20, sx21, ex21, sx23, ex22, sx25, ex23, sx27⟩ := id hx2q
  have wx20 : IsZ (.agg #[.bool x20, .string x21]) x2q.a 1000 := ⟨x20, x21, rfl, ex20, sx21⟩
  have zx20 := wx20.sz
  have wx21 : IsZ (.agg #[.bool x22, .string x23]) x2q.b 1000 := ⟨x22, x23, rfl, ex21, sx23⟩
  have zx21 := wx21.sz
  have wx22 : IsZ (.agg #[.bool x24, .string x25]) x2q.c 1000 := ⟨x24, x25, rfl, ex22, sx25⟩
  have zx22 := wx22.sz
  have wx23 : IsZ (.agg #[.bool x26, .string x27]) x2q.d 1000 := ⟨x26, x27, rfl, ex23, sx27⟩
  have zx23 := wx23.sz
  exact SX.run (w := w) [.bool x00, .string x01, .bool x02, .string x03, .bool x04, .string x05, .bool x06, .string x07, .bool x10, .string x11, .bool x12, .string x13, .bool x14, .string x15, .bool x16, .string x17, .bool x20, .string x21, .bool x22, .string x23, .bool x24, .string x25, .bool x26, .string x27, .bool true, .int .i64 (cmpP x0 x1), .bool false] [.b true, .b false] [.ga 0 8, .ga 8 8, .ga 16 8] 24 (.one (.c (.p (.lit (.bool false))))) [.call 20 [.ga 0 8, .ga 8 8, .ga 16 8] (.one (.ca 24)) [], .isB 24 true, .call 61 [.ga 0 8, .ga 8 8] (.one (.ca 25)) [], .op2 false .neq (.pa 25) (.p (.lit (.int .i64 0))) 26, .isB 26 false] Tryz.func22 (by kernel_rfl) rfl (by kernel_rfl) rfl (by kernel_rfl)
    ⟨fun γ w' _ _ => by have h := u6Straight hx0 (by decide) hx1 (by decide) hx2 (by decide) w'; rw [decide_eq_true h0] at h; exact h,
     rfl,
     fun γ w' _ _ => p4Cmp hx0 (by decide) hx1 (by decide) w',
     congrArg (fun z => some (Value.bool z)) (bne_eq_false_iff_eq.2 h1 : ((cmpP x0 x1) != (0 : Int)) = false),
     rfl⟩
theorem u6Between_m {ux0 : Value} {x0 : P3} {kx0 : Nat} (hx0 : IsP ux0 x0 kx0) (lx0 : kx0 ≤ 1000) {ux1 : Value} {x1 : P3} {kx1 : Nat} (hx1 : IsP ux1 x1 kx1) (lx1 : kx1 ≤ 1000) {ux2 : Value} {x2 : P3} {kx2 : Nat} (hx2 : IsP ux2 x2 kx2) (lx2 : kx2 ≤ 1000) (w : World) (h0 : straightP x0 x1 x2) (h1 : cmpP x0 x1 ≠ 0) :
    Calls Tryz.prog 22 #[ux0, ux1, ux2] w fun e w' => e = .returned (.bool (cmpP x0 x2 * cmpP x2 x1 == 1)) ∧ Below w.heap.size w w' := by
  replace hx0 := hx0.up lx0
  have zx0 := hx0.sz (by decide)
  obtain ⟨x0q, hx0q, ex0⟩ := id hx0
  obtain ⟨x00, x01, x02, x03, x04, x05, x06, x07, rfl, ex00, sx01, ex01, sx03, ex02, sx05, ex03, sx07⟩ := id hx0q
  have wx00 : IsZ (.agg #[.bool x00, .string x01]) x0q.a 1000 := ⟨x00, x01, rfl, ex00, sx01⟩
  have zx00 := wx00.sz
  have wx01 : IsZ (.agg #[.bool x02, .string x03]) x0q.b 1000 := ⟨x02, x03, rfl, ex01, sx03⟩
  have zx01 := wx01.sz
  have wx02 : IsZ (.agg #[.bool x04, .string x05]) x0q.c 1000 := ⟨x04, x05, rfl, ex02, sx05⟩
  have zx02 := wx02.sz
  have wx03 : IsZ (.agg #[.bool x06, .string x07]) x0q.d 1000 := ⟨x06, x07, rfl, ex03, sx07⟩
  have zx03 := wx03.sz
  replace hx1 := hx1.up lx1
  have zx1 := hx1.sz (by decide)
  obtain ⟨x1q, hx1q, ex1⟩ := id hx1
  obtain ⟨x10, x11, x12, x13, x14, x15, x16, x17, rfl, ex10, sx11, ex11, sx13, ex12, sx15, ex13, sx17⟩ := id hx1q
  have wx10 : IsZ (.agg #[.bool x10, .string x11]) x1q.a 1000 := ⟨x10, x11, rfl, ex10, sx11⟩
  have zx10 := wx10.sz
  have wx11 : IsZ (.agg #[.bool x12, .string x13]) x1q.b 1000 := ⟨x12, x13, rfl, ex11, sx13⟩
  have zx11 := wx11.sz
  have wx12 : IsZ (.agg #[.bool x14, .string x15]) x1q.c 1000 := ⟨x14, x15, rfl, ex12, sx15⟩
  have zx12 := wx12.sz
  have wx13 : IsZ (.agg #[.bool x16, .string x17]) x1q.d 1000 := ⟨x16, x17, rfl, ex13, sx17⟩
  have zx13 := wx13.sz
  replace hx2 := hx2.up lx2
  have zx2 := hx2.sz (by decide)
  obtain ⟨x2q, hx2q, ex2⟩ := id hx2
  obtain ⟨x20, x21, x22, x23, x24, x25, x26, x27, rfl, ex20, sx21, ex21, sx23, ex22, sx25, ex23, sx27⟩ := id hx2q
  have wx20 : IsZ (.agg #[.bool x20, .string x21]) x2q.a 1000 := ⟨x20, x21, rfl, ex20, sx21⟩
  have zx20 := wx20.sz
  have wx21 : IsZ (.agg #[.bool x22, .string x23]) x2q.b 1000 := ⟨x22, x23, rfl, ex21, sx23⟩
  have zx21 := wx21.sz
  have wx22 : IsZ (.agg #[.bool x24, .string x25]) x2q.c 1000 := ⟨x24, x25, rfl, ex22, sx25⟩
  have zx22 := wx22.sz
  have wx23 : IsZ (.agg #[.bool x26, .string x27]) x2q.d 1000 := ⟨x26, x27, rfl, ex23, sx27⟩
  have zx23 := wx23.sz
  exact SX.run (w := w) (.bool x00 :: .string x01 :: .bool x02 :: .string x03 :: .bool x04 :: .string x05 :: .bool x06 :: .string x07 :: .bool x10 :: .string x11 :: .bool x12 :: .string x13 :: .bool x14 :: .string x15 :: .bool x16 :: .string x17 :: .bool x20 :: .string x21 :: .bool x22 :: .string x23 :: .bool x24 :: .string x25 :: .bool x26 :: .string x27 :: .bool true :: .int .i64 (cmpP x0 x1) :: .bool true :: .int .i64 (cmpP x0 x2) :: .int .i64 (cmpP x2 x1) :: .int .i64 (cmpP x0 x2 * cmpP x2 x1) :: .bool ((cmpP x0 x2 * cmpP x2 x1) == (1 : Int)) :: []) [.b true, .b true] [.ga 0 8, .ga 8 8, .ga 16 8] 24 (.one (.ca 30)) [.call 20 [.ga 0 8, .ga 8 8, .ga 16 8] (.one (.ca 24)) [], .isB 24 true, .call 61 [.ga 0 8, .ga 8 8] (.one (.ca 25)) [], .op2 false .neq (.pa 25) (.p (.lit (.int .i64 0))) 26, .isB 26 true, .call 61 [.ga 0 8, .ga 16 8] (.one (.ca 27)) [], .call 61 [.ga 16 8, .ga 8 8] (.one (.ca 28)) [], .op2 false .mul (.pa 27) (.pa 28) 29, .op2 false .eql (.pa 29) (.p (.lit (.int .i64 1))) 30] Tryz.func22 (by kernel_rfl) rfl (by kernel_rfl) rfl (by kernel_rfl)
    ⟨fun γ w' _ _ => by have h := u6Straight hx0 (by decide) hx1 (by decide) hx2 (by decide) w'; rw [decide_eq_true h0] at h; exact h,
     rfl,
     fun γ w' _ _ => p4Cmp hx0 (by decide) hx1 (by decide) w',
     congrArg (fun z => some (Value.bool z)) (bne_iff_ne.2 h1 : ((cmpP x0 x1) != (0 : Int)) = true),
     rfl,
     fun γ w' _ _ => p4Cmp hx0 (by decide) hx2 (by decide) w',
     fun γ w' _ _ => p4Cmp hx2 (by decide) hx1 (by decide) w',
     congrArg (fun z => some (Value.int .i64 z)) (wrap_cc _ _ _ _ : IntKind.wrap .i64 ((cmpP x0 x2) * (cmpP x2 x1)) = (cmpP x0 x2 * cmpP x2 x1)),
     rfl⟩
theorem u6Between {ux0 : Value} {x0 : P3} {kx0 : Nat} (hx0 : IsP ux0 x0 kx0) (lx0 : kx0 ≤ 1000) {ux1 : Value} {x1 : P3} {kx1 : Nat} (hx1 : IsP ux1 x1 kx1) (lx1 : kx1 ≤ 1000) {ux2 : Value} {x2 : P3} {kx2 : Nat} (hx2 : IsP ux2 x2 kx2) (lx2 : kx2 ≤ 1000) (w : World) :
    Calls Tryz.prog 22 #[ux0, ux1, ux2] w fun e w' => e = .returned (.bool (decide (betP x0 x1 x2))) ∧ Below w.heap.size w w' := by
  by_cases h0 : straightP x0 x1 x2
  · by_cases h1 : cmpP x0 x1 = 0
    · rw [decide_eq_false (fun h : betP x0 x1 x2 => h.2.1 h1)]; exact u6Between_c hx0 lx0 hx1 lx1 hx2 lx2 w h0 h1
    · have e : decide (betP x0 x1 x2) = (cmpP x0 x2 * cmpP x2 x1 == 1) := by
        rw [show (cmpP x0 x2 * cmpP x2 x1 == 1) = decide (cmpP x0 x2 * cmpP x2 x1 = 1) from rfl, decide_eq_decide]
        exact ⟨fun h => h.2.2, fun h => ⟨h0, h1, h⟩⟩
      rw [e]; exact u6Between_m hx0 lx0 hx1 lx1 hx2 lx2 w h0 h1
  · rw [decide_eq_false (fun h : betP x0 x1 x2 => h0 h.1)]; exact u6Between_s hx0 lx0 hx1 lx1 hx2 lx2 w h0
theorem u6Three_0 {ux0 : Value} {x0 : Z4} {kx0 : Nat} (hx0 : IsF ux0 x0 kx0) (lx0 : kx0 ≤ 300) {ux1 : Value} {x1 : Z4} {kx1 : Nat} (hx1 : IsF ux1 x1 kx1) (lx1 : kx1 ≤ 300) {ux2 : Value} {x2 : Z4} {kx2 : Nat} (hx2 : IsF ux2 x2 kx2) (lx2 : kx2 ≤ 300) (w : World) (hd : detF x0 x1 x2 = 0) :
    Calls Tryz.prog 12 #[ux0, ux1, ux2] w fun e w' => e = .returned (.tuple #[.agg #[.bool false, .string ⟨#[]⟩, .bool false, .string ⟨#[]⟩, .bool false, .string ⟨#[]⟩, .bool false, .string ⟨#[]⟩], .bool false]) ∧ Below w.heap.size w w' := by
  replace hx0 := hx0.up lx0
  have zx0 := hx0.sz
  obtain ⟨x00, x01, x02, x03, x04, x05, x06, x07, rfl, ex00, sx01, ex01, sx03, ex02, sx05, ex03, sx07⟩ := id hx0
  have wx00 : IsZ (.agg #[.bool x00, .string x01]) x0.a 300 := ⟨x00, x01, rfl, ex00, sx01⟩
  have zx00 := wx00.sz
  have wx01 : IsZ (.agg #[.bool x02, .string x03]) x0.b 300 := ⟨x02, x03, rfl, ex01, sx03⟩
  have zx01 := wx01.sz
  have wx02 : IsZ (.agg #[.bool x04, .string x05]) x0.c 300 := ⟨x04, x05, rfl, ex02, sx05⟩
  have zx02 := wx02.sz
  have wx03 : IsZ (.agg #[.bool x06, .string x07]) x0.d 300 := ⟨x06, x07, rfl, ex03, sx07⟩
  have zx03 := wx03.sz
  replace hx1 := hx1.up lx1
  have zx1 := hx1.sz
  obtain ⟨x10, x11, x12, x13, x14, x15, x16, x17, rfl, ex10, sx11, ex11, sx13, ex12, sx15, ex13, sx17⟩ := id hx1
  have wx10 : IsZ (.agg #[.bool x10, .string x11]) x1.a 300 := ⟨x10, x11, rfl, ex10, sx11⟩
  have zx10 := wx10.sz
  have wx11 : IsZ (.agg #[.bool x12, .string x13]) x1.b 300 := ⟨x12, x13, rfl, ex11, sx13⟩
  have zx11 := wx11.sz
  have wx12 : IsZ (.agg #[.bool x14, .string x15]) x1.c 300 := ⟨x14, x15, rfl, ex12, sx15⟩
  have zx12 := wx12.sz
  have wx13 : IsZ (.agg #[.bool x16, .string x17]) x1.d 300 := ⟨x16, x17, rfl, ex13, sx17⟩
  have zx13 := wx13.sz
  replace hx2 := hx2.up lx2
  have zx2 := hx2.sz
  obtain ⟨x20, x21, x22, x23, x24, x25, x26, x27, rfl, ex20, sx21, ex21, sx23, ex22, sx25, ex23, sx27⟩ := id hx2
  have wx20 : IsZ (.agg #[.bool x20, .string x21]) x2.a 300 := ⟨x20, x21, rfl, ex20, sx21⟩
  have zx20 := wx20.sz
  have wx21 : IsZ (.agg #[.bool x22, .string x23]) x2.b 300 := ⟨x22, x23, rfl, ex21, sx23⟩
  have zx21 := wx21.sz
  have wx22 : IsZ (.agg #[.bool x24, .string x25]) x2.c 300 := ⟨x24, x25, rfl, ex22, sx25⟩
  have zx22 := wx22.sz
  have wx23 : IsZ (.agg #[.bool x26, .string x27]) x2.d 300 := ⟨x26, x27, rfl, ex23, sx27⟩
  have zx23 := wx23.sz
  have f1 : Vk (nrmF x0) 300 := Vk.up ((Vk.nrm zx0)) (by decide)
  have f2 : Rk (x0.d : Rat) 300 := Rk.up ((Rk.int zx0.2.2.2)) (by decide)
  have f3 : Vk (nrmF x1) 300 := Vk.up ((Vk.nrm zx1)) (by decide)
  have f4 : Rk (x1.d : Rat) 300 := Rk.up ((Rk.int zx1.2.2.2)) (by decide)
  have f5 : Vk (nrmF x2) 300 := Vk.up ((Vk.nrm zx2)) (by decide)
  have f6 : Rk (x2.d : Rat) 300 := Rk.up ((Rk.int zx2.2.2.2)) (by decide)
  have f7 : Vk (crossP (nrmF x1) (nrmF x2)) 1201 := Vk.up ((Vk.cross f3 f5)) (by decide)
  have f8 : Rk (dot3 (nrmF x0) (crossP (nrmF x1) (nrmF x2))) 4505 := Rk.up ((Rk.dot3 f1 f7)) (by decide)
  exact SX.run (w := w) (List.flatten [[.bool x00, .string x01, .bool x02, .string x03, .bool x04, .string x05, .bool x06, .string x07, .bool x10, .string x11, .bool x12, .string x13, .bool x14, .string x15, .bool x16, .string x17, .bool x20, .string x21, .bool x22, .string x23, .bool x24, .string x25, .bool x26, .string x27], vc (nrmF x0), qc (x0.d : Rat), vc (nrmF x1), qc (x1.d : Rat), vc (nrmF x2), qc (x2.d : Rat), vc (crossP (nrmF x1) (nrmF x2)), qc (dot3 (nrmF x0) (crossP (nrmF x1) (nrmF x2))), [.int .i64 (sgQ (dot3 (nrmF x0) (crossP (nrmF x1) (nrmF x2)))), .bool true]]) [.b true] [.ga 0 8, .ga 8 8, .ga 16 8] 24 (.tup [.agg [.p (.lit (.bool false)), .p (.lit (.string ⟨#[]⟩)), .p (.lit (.bool false)), .p (.lit (.string ⟨#[]⟩)), .p (.lit (.bool false)), .p (.lit (.string ⟨#[]⟩)), .p (.lit (.bool false)), .p (.lit (.string ⟨#[]⟩))], .c (.p (.lit (.bool false)))]) [.call 35 [.ga 0 8] (.tup [.ga 24 9, .ga 33 3]) [], .call 35 [.ga 8 8] (.tup [.ga 36 9, .ga 45 3]) [], .call 35 [.ga 16 8] (.tup [.ga 48 9, .ga 57 3]) [], .call 37 [.ga 36 9, .ga 48 9] (.one (.ga 60 9)) [], .call 36 [.ga 24 9, .ga 60 9] (.one (.ga 69 3)) [], .call 38 [.ga 69 3] (.one (.ca 72)) [], .op2 false .eql (.pa 72) (.p (.lit (.int .i64 0))) 73, .isB 73 true] Tryz.func12 (by kernel_rfl) rfl (by kernel_rfl) rfl (by kernel_rfl)
    ⟨fun γ w' _ _ => u6normal hx0 (by decide) w',
     fun γ w' _ _ => u6normal hx1 (by decide) w',
     fun γ w' _ _ => u6normal hx2 (by decide) w',
     fun γ w' _ _ => u6Times (IsV.can f3) (by decide) (IsV.can f5) (by decide) w',
     fun γ w' _ _ => u6Dot (IsV.can f1) (by decide) (IsV.can f7) (by decide) w',
     fun γ w' _ _ => rSign (IsQ.can f8) (by decide) w',
     congrArg (fun z => some (Value.bool z)) (by rw [sgQ_beq]; exact decide_eq_true hd : ((sgQ (dot3 (nrmF x0) (crossP (nrmF x1) (nrmF x2)))) == (0 : Int)) = true),
     rfl⟩
set_option maxRecDepth 100000 in
theorem u6Three_1 {ux0 : Value} {x0 : Z4} {kx0 : Nat} (hx0 : IsF ux0 x0 kx0) (lx0 : kx0 ≤ 300) {ux1 : Value} {x1 : Z4} {kx1 : Nat} (hx1 : IsF ux1 x1 kx1) (lx1 : kx1 ≤ 300) {ux2 : Value} {x2 : Z4} {kx2 : Nat} (hx2 : IsF ux2 x2 kx2) (lx2 : kx2 ≤ 300) (w : World) (hd : detF x0 x1 x2 ≠ 0) :
    Calls Tryz.prog 12 #[ux0, ux1, ux2] w fun e w' => e = .returned (.tuple #[PV (threeF x0 x1 x2), .bool true]) ∧ Below w.heap.size w w' := by
  replace hx0 := hx0.up lx0
  have zx0 := hx0.sz
  obtain ⟨x00, x01, x02, x03, x04, x05, x06, x07, rfl, ex00, sx01, ex01, sx03, ex02, sx05, ex03, sx07⟩ := id hx0
  have wx00 : IsZ (.agg #[.bool x00, .string x01]) x0.a 300 := ⟨x00, x01, rfl, ex00, sx01⟩
  have zx00 := wx00.sz
  have wx01 : IsZ (.agg #[.bool x02, .string x03]) x0.b 300 := ⟨x02, x03, rfl, ex01, sx03⟩
  have zx01 := wx01.sz
  have wx02 : IsZ (.agg #[.bool x04, .string x05]) x0.c 300 := ⟨x04, x05, rfl, ex02, sx05⟩
  have zx02 := wx02.sz
  have wx03 : IsZ (.agg #[.bool x06, .string x07]) x0.d 300 := ⟨x06, x07, rfl, ex03, sx07⟩
  have zx03 := wx03.sz
  replace hx1 := hx1.up lx1
  have zx1 := hx1.sz
  obtain ⟨x10, x11, x12, x13, x14, x15, x16, x17, rfl, ex10, sx11, ex11, sx13, ex12, sx15, ex13, sx17⟩ := id hx1
  have wx10 : IsZ (.agg #[.bool x10, .string x11]) x1.a 300 := ⟨x10, x11, rfl, ex10, sx11⟩
  have zx10 := wx10.sz
  have wx11 : IsZ (.agg #[.bool x12, .string x13]) x1.b 300 := ⟨x12, x13, rfl, ex11, sx13⟩
  have zx11 := wx11.sz
  have wx12 : IsZ (.agg #[.bool x14, .string x15]) x1.c 300 := ⟨x14, x15, rfl, ex12, sx15⟩
  have zx12 := wx12.sz
  have wx13 : IsZ (.agg #[.bool x16, .string x17]) x1.d 300 := ⟨x16, x17, rfl, ex13, sx17⟩
  have zx13 := wx13.sz
  replace hx2 := hx2.up lx2
  have zx2 := hx2.sz
  obtain ⟨x20, x21, x22, x23, x24, x25, x26, x27, rfl, ex20, sx21, ex21, sx23, ex22, sx25, ex23, sx27⟩ := id hx2
  have wx20 : IsZ (.agg #[.bool x20, .string x21]) x2.a 300 := ⟨x20, x21, rfl, ex20, sx21⟩
  have zx20 := wx20.sz
  have wx21 : IsZ (.agg #[.bool x22, .string x23]) x2.b 300 := ⟨x22, x23, rfl, ex21, sx23⟩
  have zx21 := wx21.sz
  have wx22 : IsZ (.agg #[.bool x24, .string x25]) x2.c 300 := ⟨x24, x25, rfl, ex22, sx25⟩
  have zx22 := wx22.sz
  have wx23 : IsZ (.agg #[.bool x26, .string x27]) x2.d 300 := ⟨x26, x27, rfl, ex23, sx27⟩
  have zx23 := wx23.sz
  have f1 : Vk (nrmF x0) 300 := Vk.up ((Vk.nrm zx0)) (by decide)
  have f2 : Rk (x0.d : Rat) 300 := Rk.up ((Rk.int zx0.2.2.2)) (by decide)
  have f3 : Vk (nrmF x1) 300 := Vk.up ((Vk.nrm zx1)) (by decide)
  have f4 : Rk (x1.d : Rat) 300 := Rk.up ((Rk.int zx1.2.2.2)) (by decide)
  have f5 : Vk (nrmF x2) 300 := Vk.up ((Vk.nrm zx2)) (by decide)
  have f6 : Rk (x2.d : Rat) 300 := Rk.up ((Rk.int zx2.2.2.2)) (by decide)
  have f7 : Vk (crossP (nrmF x1) (nrmF x2)) 1201 := Vk.up ((Vk.cross f3 f5)) (by decide)
  have f8 : Rk (dot3 (nrmF x0) (crossP (nrmF x1) (nrmF x2))) 4505 := Rk.up ((Rk.dot3 f1 f7)) (by decide)
  have f9 : Vk (mulP (crossP (nrmF x1) (nrmF x2)) (x0.d : Rat)) 1501 := Vk.up ((Vk.mulP f7 f2)) (by decide)
  have f10 : Vk (crossP (nrmF x2) (nrmF x0)) 1201 := Vk.up ((Vk.cross f5 f1)) (by decide)
  have f11 : Vk (mulP (crossP (nrmF x2) (nrmF x0)) (x1.d : Rat)) 1501 := Vk.up ((Vk.mulP f10 f4)) (by decide)
  have f12 : Vk (sumP (mulP (crossP (nrmF x1) (nrmF x2)) (x0.d : Rat)) (mulP (crossP (nrmF x2) (nrmF x0)) (x1.d : Rat))) 3003 := Vk.up ((Vk.sumP f9 f11)) (by decide)
  have f13 : Vk (crossP (nrmF x0) (nrmF x1)) 1201 := Vk.up ((Vk.cross f1 f3)) (by decide)
  have f14 : Vk (mulP (crossP (nrmF x0) (nrmF x1)) (x2.d : Rat)) 1501 := Vk.up ((Vk.mulP f13 f6)) (by decide)
  have f15 : Vk (sumP (sumP (mulP (crossP (nrmF x1) (nrmF x2)) (x0.d : Rat)) (mulP (crossP (nrmF x2) (nrmF x0)) (x1.d : Rat))) (mulP (crossP (nrmF x0) (nrmF x1)) (x2.d : Rat))) 4505 := Vk.up ((Vk.sumP f12 f14)) (by decide)
  have f16 : Rk (sumP (sumP (mulP (crossP (nrmF x1) (nrmF x2)) (x0.d : Rat)) (mulP (crossP (nrmF x2) (nrmF x0)) (x1.d : Rat))) (mulP (crossP (nrmF x0) (nrmF x1)) (x2.d : Rat))).x 4505 := Rk.up (f15.1) (by decide)
  have f17 : Rk ((sumP (sumP (mulP (crossP (nrmF x1) (nrmF x2)) (x0.d : Rat)) (mulP (crossP (nrmF x2) (nrmF x0)) (x1.d : Rat))) (mulP (crossP (nrmF x0) (nrmF x1)) (x2.d : Rat))).x / (dot3 (nrmF x0) (crossP (nrmF x1) (nrmF x2)))) 9011 := Rk.up (Is.quo f16 f8) (by decide)
  have f18 : Rk (sumP (sumP (mulP (crossP (nrmF x1) (nrmF x2)) (x0.d : Rat)) (mulP (crossP (nrmF x2) (nrmF x0)) (x1.d : Rat))) (mulP (crossP (nrmF x0) (nrmF x1)) (x2.d : Rat))).y 4505 := Rk.up (f15.2.1) (by decide)
  have f19 : Rk ((sumP (sumP (mulP (crossP (nrmF x1) (nrmF x2)) (x0.d : Rat)) (mulP (crossP (nrmF x2) (nrmF x0)) (x1.d : Rat))) (mulP (crossP (nrmF x0) (nrmF x1)) (x2.d : Rat))).y / (dot3 (nrmF x0) (crossP (nrmF x1) (nrmF x2)))) 9011 := Rk.up (Is.quo f18 f8) (by decide)
  have f20 : Rk (sumP (sumP (mulP (crossP (nrmF x1) (nrmF x2)) (x0.d : Rat)) (mulP (crossP (nrmF x2) (nrmF x0)) (x1.d : Rat))) (mulP (crossP (nrmF x0) (nrmF x1)) (x2.d : Rat))).z 4505 := Rk.up (f15.2.2) (by decide)
  have f21 : Rk ((sumP (sumP (mulP (crossP (nrmF x1) (nrmF x2)) (x0.d : Rat)) (mulP (crossP (nrmF x2) (nrmF x0)) (x1.d : Rat))) (mulP (crossP (nrmF x0) (nrmF x1)) (x2.d : Rat))).z / (dot3 (nrmF x0) (crossP (nrmF x1) (nrmF x2)))) 9011 := Rk.up (Is.quo f20 f8) (by decide)
  have f22 : Pk (P3.mk ((sumP (sumP (mulP (crossP (nrmF x1) (nrmF x2)) (x0.d : Rat)) (mulP (crossP (nrmF x2) (nrmF x0)) (x1.d : Rat))) (mulP (crossP (nrmF x0) (nrmF x1)) (x2.d : Rat))).x / (dot3 (nrmF x0) (crossP (nrmF x1) (nrmF x2)))) ((sumP (sumP (mulP (crossP (nrmF x1) (nrmF x2)) (x0.d : Rat)) (mulP (crossP (nrmF x2) (nrmF x0)) (x1.d : Rat))) (mulP (crossP (nrmF x0) (nrmF x1)) (x2.d : Rat))).y / (dot3 (nrmF x0) (crossP (nrmF x1) (nrmF x2)))) ((sumP (sumP (mulP (crossP (nrmF x1) (nrmF x2)) (x0.d : Rat)) (mulP (crossP (nrmF x2) (nrmF x0)) (x1.d : Rat))) (mulP (crossP (nrmF x0) (nrmF x1)) (x2.d : Rat))).z / (dot3 (nrmF x0) (crossP (nrmF x1) (nrmF x2))))) 27033 := Pk.up ((Pk.ofV (Vk.mk f17 f19 f21))) (by decide)
  exact SX.run (w := w) (List.flatten [[.bool x00, .string x01, .bool x02, .string x03, .bool x04, .string x05, .bool x06, .string x07, .bool x10, .string x11, .bool x12, .string x13, .bool x14, .string x15, .bool x16, .string x17, .bool x20, .string x21, .bool x22, .string x23, .bool x24, .string x25, .bool x26, .string x27], vc (nrmF x0), qc (x0.d : Rat), vc (nrmF x1), qc (x1.d : Rat), vc (nrmF x2), qc (x2.d : Rat), vc (crossP (nrmF x1) (nrmF x2)), qc (dot3 (nrmF x0) (crossP (nrmF x1) (nrmF x2))), [.int .i64 (sgQ (dot3 (nrmF x0) (crossP (nrmF x1) (nrmF x2)))), .bool false], vc (crossP (nrmF x1) (nrmF x2)), vc (mulP (crossP (nrmF x1) (nrmF x2)) (x0.d : Rat)), vc (crossP (nrmF x2) (nrmF x0)), vc (mulP (crossP (nrmF x2) (nrmF x0)) (x1.d : Rat)), vc (sumP (mulP (crossP (nrmF x1) (nrmF x2)) (x0.d : Rat)) (mulP (crossP (nrmF x2) (nrmF x0)) (x1.d : Rat))), vc (crossP (nrmF x0) (nrmF x1)), vc (mulP (crossP (nrmF x0) (nrmF x1)) (x2.d : Rat)), vc (sumP (sumP (mulP (crossP (nrmF x1) (nrmF x2)) (x0.d : Rat)) (mulP (crossP (nrmF x2) (nrmF x0)) (x1.d : Rat))) (mulP (crossP (nrmF x0) (nrmF x1)) (x2.d : Rat))), qc ((sumP (sumP (mulP (crossP (nrmF x1) (nrmF x2)) (x0.d : Rat)) (mulP (crossP (nrmF x2) (nrmF x0)) (x1.d : Rat))) (mulP (crossP (nrmF x0) (nrmF x1)) (x2.d : Rat))).x / (dot3 (nrmF x0) (crossP (nrmF x1) (nrmF x2)))), [.bool (decide ((dot3 (nrmF x0) (crossP (nrmF x1) (nrmF x2))) ≠ 0))], qc ((sumP (sumP (mulP (crossP (nrmF x1) (nrmF x2)) (x0.d : Rat)) (mulP (crossP (nrmF x2) (nrmF x0)) (x1.d : Rat))) (mulP (crossP (nrmF x0) (nrmF x1)) (x2.d : Rat))).y / (dot3 (nrmF x0) (crossP (nrmF x1) (nrmF x2)))), [.bool (decide ((dot3 (nrmF x0) (crossP (nrmF x1) (nrmF x2))) ≠ 0))], qc ((sumP (sumP (mulP (crossP (nrmF x1) (nrmF x2)) (x0.d : Rat)) (mulP (crossP (nrmF x2) (nrmF x0)) (x1.d : Rat))) (mulP (crossP (nrmF x0) (nrmF x1)) (x2.d : Rat))).z / (dot3 (nrmF x0) (crossP (nrmF x1) (nrmF x2)))), [.bool (decide ((dot3 (nrmF x0) (crossP (nrmF x1) (nrmF x2))) ≠ 0))], pc (P3.mk ((sumP (sumP (mulP (crossP (nrmF x1) (nrmF x2)) (x0.d : Rat)) (mulP (crossP (nrmF x2) (nrmF x0)) (x1.d : Rat))) (mulP (crossP (nrmF x0) (nrmF x1)) (x2.d : Rat))).x / (dot3 (nrmF x0) (crossP (nrmF x1) (nrmF x2)))) ((sumP (sumP (mulP (crossP (nrmF x1) (nrmF x2)) (x0.d : Rat)) (mulP (crossP (nrmF x2) (nrmF x0)) (x1.d : Rat))) (mulP (crossP (nrmF x0) (nrmF x1)) (x2.d : Rat))).y / (dot3 (nrmF x0) (crossP (nrmF x1) (nrmF x2)))) ((sumP (sumP (mulP (crossP (nrmF x1) (nrmF x2)) (x0.d : Rat)) (mulP (crossP (nrmF x2) (nrmF x0)) (x1.d : Rat))) (mulP (crossP (nrmF x0) (nrmF x1)) (x2.d : Rat))).z / (dot3 (nrmF x0) (crossP (nrmF x1) (nrmF x2)))))]) [.b false] [.ga 0 8, .ga 8 8, .ga 16 8] 24 (.tup [.ga 158 8, .c (.p (.lit (.bool true)))]) [.call 35 [.ga 0 8] (.tup [.ga 24 9, .ga 33 3]) [], .call 35 [.ga 8 8] (.tup [.ga 36 9, .ga 45 3]) [], .call 35 [.ga 16 8] (.tup [.ga 48 9, .ga 57 3]) [], .call 37 [.ga 36 9, .ga 48 9] (.one (.ga 60 9)) [], .call 36 [.ga 24 9, .ga 60 9] (.one (.ga 69 3)) [], .call 38 [.ga 69 3] (.one (.ca 72)) [], .op2 false .eql (.pa 72) (.p (.lit (.int .i64 0))) 73, .isB 73 false, .call 37 [.ga 36 9, .ga 48 9] (.one (.ga 74 9)) [], .call 40 [.ga 74 9, .ga 33 3] (.one (.ga 83 9)) [], .call 37 [.ga 48 9, .ga 24 9] (.one (.ga 92 9)) [], .call 40 [.ga 92 9, .ga 45 3] (.one (.ga 101 9)) [], .call 39 [.ga 83 9, .ga 101 9] (.one (.ga 110 9)) [], .call 37 [.ga 24 9, .ga 36 9] (.one (.ga 119 9)) [], .call 40 [.ga 119 9, .ga 57 3] (.one (.ga 128 9)) [], .call 39 [.ga 110 9, .ga 128 9] (.one (.ga 137 9)) [], .call 41 [.ga 137 3, .ga 69 3] (.tup [.ga 146 3, .ca 149]) [], .call 41 [.ga 140 3, .ga 69 3] (.tup [.ga 150 3, .ca 153]) [], .call 41 [.ga 143 3, .ga 69 3] (.tup [.ga 154 3, .ca 157]) [], .call 42 [.agg [.pa 146, .pa 147, .pa 148, .pa 150, .pa 151, .pa 152, .pa 154, .pa 155, .pa 156]] (.one (.ga 158 8)) []] Tryz.func12 (by kernel_rfl) rfl (by kernel_rfl) rfl (by kernel_rfl)
    ⟨fun γ w' _ _ => u6normal hx0 (by decide) w',
     fun γ w' _ _ => u6normal hx1 (by decide) w',
     fun γ w' _ _ => u6normal hx2 (by decide) w',
     fun γ w' _ _ => u6Times (IsV.can f3) (by decide) (IsV.can f5) (by decide) w',
     fun γ w' _ _ => u6Dot (IsV.can f1) (by decide) (IsV.can f7) (by decide) w',
     fun γ w' _ _ => rSign (IsQ.can f8) (by decide) w',
     congrArg (fun z => some (Value.bool z)) (by rw [sgQ_beq]; exact decide_eq_false hd : ((sgQ (dot3 (nrmF x0) (crossP (nrmF x1) (nrmF x2)))) == (0 : Int)) = false),
     rfl,
     fun γ w' _ _ => u6Times (IsV.can f3) (by decide) (IsV.can f5) (by decide) w',
     fun γ w' _ _ => u6scale (IsV.can f7) (by decide) (IsQ.can f2) (by decide) w',
     fun γ w' _ _ => u6Times (IsV.can f5) (by decide) (IsV.can f1) (by decide) w',
     fun γ w' _ _ => u6scale (IsV.can f10) (by decide) (IsQ.can f4) (by decide) w',
     fun γ w' _ _ => u6plus (IsV.can f9) (by decide) (IsV.can f11) (by decide) w',
     fun γ w' _ _ => u6Times (IsV.can f1) (by decide) (IsV.can f3) (by decide) w',
     fun γ w' _ _ => u6scale (IsV.can f13) (by decide) (IsQ.can f6) (by decide) w',
     fun γ w' _ _ => u6plus (IsV.can f12) (by decide) (IsV.can f14) (by decide) w',
     fun γ w' _ _ => rDiv (IsQ.can f16) (by decide) (IsQ.can f8) (by decide) w',
     fun γ w' _ _ => rDiv (IsQ.can f18) (by decide) (IsQ.can f8) (by decide) w',
     fun γ w' _ _ => rDiv (IsQ.can f20) (by decide) (IsQ.can f8) (by decide) w',
     fun γ w' _ _ => p4Make (IsV.mk (IsQ.can f17) (IsQ.can f19) (IsQ.can f21)) (by decide) w'⟩
theorem u6Three_any {ux0 : Value} {x0 : Z4} {kx0 : Nat} (hx0 : IsF ux0 x0 kx0) (lx0 : kx0 ≤ 300) {ux1 : Value} {x1 : Z4} {kx1 : Nat} (hx1 : IsF ux1 x1 kx1) (lx1 : kx1 ≤ 300) {ux2 : Value} {x2 : Z4} {kx2 : Nat} (hx2 : IsF ux2 x2 kx2) (lx2 : kx2 ≤ 300) (w : World) :
    Calls Tryz.prog 12 #[ux0, ux1, ux2] w fun e w' => e = .returned (threeV x0 x1 x2) ∧ Below w.heap.size w w' := by
  unfold threeV
  by_cases hd : detF x0 x1 x2 = 0
  · rw [if_pos hd]; exact u6Three_0 hx0 lx0 hx1 lx1 hx2 lx2 w hd
  · rw [if_neg hd]; exact u6Three_1 hx0 lx0 hx1 lx1 hx2 lx2 w hd
theorem u6Cross_0 {ux0 : Value} {x0 : Z4} {kx0 : Nat} (hx0 : IsF ux0 x0 kx0) (lx0 : kx0 ≤ 300) {ux1 : Value} {x1 : P3} {kx1 : Nat} (hx1 : IsP ux1 x1 kx1) (lx1 : kx1 ≤ 300) {ux2 : Value} {x2 : P3} {kx2 : Nat} (hx2 : IsP ux2 x2 kx2) (lx2 : kx2 ≤ 300) (w : World) (hd : byF x0 x1 x2 = 0) :
    Calls Tryz.prog 16 #[ux0, ux1, ux2] w fun e w' => e = .returned (.tuple #[.agg #[.bool false, .string ⟨#[]⟩, .bool false, .string ⟨#[]⟩, .bool false, .string ⟨#[]⟩, .bool false, .string ⟨#[]⟩], .bool false]) ∧ Below w.heap.size w w' := by
  replace hx0 := hx0.up lx0
  have zx0 := hx0.sz
  obtain ⟨x00, x01, x02, x03, x04, x05, x06, x07, rfl, ex00, sx01, ex01, sx03, ex02, sx05, ex03, sx07⟩ := id hx0
  have wx00 : IsZ (.agg #[.bool x00, .string x01]) x0.a 300 := ⟨x00, x01, rfl, ex00, sx01⟩
  have zx00 := wx00.sz
  have wx01 : IsZ (.agg #[.bool x02, .string x03]) x0.b 300 := ⟨x02, x03, rfl, ex01, sx03⟩
  have zx01 := wx01.sz
  have wx02 : IsZ (.agg #[.bool x04, .string x05]) x0.c 300 := ⟨x04, x05, rfl, ex02, sx05⟩
  have zx02 := wx02.sz
  have wx03 : IsZ (.agg #[.bool x06, .string x07]) x0.d 300 := ⟨x06, x07, rfl, ex03, sx07⟩
  have zx03 := wx03.sz
  replace hx1 := hx1.up lx1
  have zx1 := hx1.sz (by decide)
  obtain ⟨x1q, hx1q, ex1⟩ := id hx1
  obtain ⟨x10, x11, x12, x13, x14, x15, x16, x17, rfl, ex10, sx11, ex11, sx13, ex12, sx15, ex13, sx17⟩ := id hx1q
  have wx10 : IsZ (.agg #[.bool x10, .string x11]) x1q.a 300 := ⟨x10, x11, rfl, ex10, sx11⟩
  have zx10 := wx10.sz
  have wx11 : IsZ (.agg #[.bool x12, .string x13]) x1q.b 300 := ⟨x12, x13, rfl, ex11, sx13⟩
  have zx11 := wx11.sz
  have wx12 : IsZ (.agg #[.bool x14, .string x15]) x1q.c 300 := ⟨x14, x15, rfl, ex12, sx15⟩
  have zx12 := wx12.sz
  have wx13 : IsZ (.agg #[.bool x16, .string x17]) x1q.d 300 := ⟨x16, x17, rfl, ex13, sx17⟩
  have zx13 := wx13.sz
  replace hx2 := hx2.up lx2
  have zx2 := hx2.sz (by decide)
  obtain ⟨x2q, hx2q, ex2⟩ := id hx2
  obtain ⟨x20, x21, x22, x23, x24, x25, x26, x27, rfl, ex20, sx21, ex21, sx23, ex22, sx25, ex23, sx27⟩ := id hx2q
  have wx20 : IsZ (.agg #[.bool x20, .string x21]) x2q.a 300 := ⟨x20, x21, rfl, ex20, sx21⟩
  have zx20 := wx20.sz
  have wx21 : IsZ (.agg #[.bool x22, .string x23]) x2q.b 300 := ⟨x22, x23, rfl, ex21, sx23⟩
  have zx21 := wx21.sz
  have wx22 : IsZ (.agg #[.bool x24, .string x25]) x2q.c 300 := ⟨x24, x25, rfl, ex22, sx25⟩
  have zx22 := wx22.sz
  have wx23 : IsZ (.agg #[.bool x26, .string x27]) x2q.d 300 := ⟨x26, x27, rfl, ex23, sx27⟩
  have zx23 := wx23.sz
  have f1 : Vk (nrmF x0) 300 := Vk.up ((Vk.nrm zx0)) (by decide)
  have f2 : Rk (x0.d : Rat) 300 := Rk.up ((Rk.int zx0.2.2.2)) (by decide)
  have f3 : Vk (subP x2 x1) 601 := Vk.up ((Vk.subP zx2 zx1)) (by decide)
  have f4 : Rk (dot3 (nrmF x0) (subP x2 x1)) 2705 := Rk.up ((Rk.dot3 f1 f3)) (by decide)
  exact SX.run (w := w) (List.flatten [[.bool x00, .string x01, .bool x02, .string x03, .bool x04, .string x05, .bool x06, .string x07, .bool x10, .string x11, .bool x12, .string x13, .bool x14, .string x15, .bool x16, .string x17, .bool x20, .string x21, .bool x22, .string x23, .bool x24, .string x25, .bool x26, .string x27], vc (nrmF x0), qc (x0.d : Rat), vc (subP x2 x1), qc (dot3 (nrmF x0) (subP x2 x1)), [.int .i64 (sgQ (dot3 (nrmF x0) (subP x2 x1))), .bool true]]) [.b true] [.ga 0 8, .ga 8 8, .ga 16 8] 24 (.tup [.agg [.p (.lit (.bool false)), .p (.lit (.string ⟨#[]⟩)), .p (.lit (.bool false)), .p (.lit (.string ⟨#[]⟩)), .p (.lit (.bool false)), .p (.lit (.string ⟨#[]⟩)), .p (.lit (.bool false)), .p (.lit (.string ⟨#[]⟩))], .c (.p (.lit (.bool false)))]) [.call 35 [.ga 0 8] (.tup [.ga 24 9, .ga 33 3]) [], .call 53 [.ga 16 8, .ga 8 8] (.one (.ga 36 9)) [], .call 36 [.ga 24 9, .ga 36 9] (.one (.ga 45 3)) [], .call 38 [.ga 45 3] (.one (.ca 48)) [], .op2 false .eql (.pa 48) (.p (.lit (.int .i64 0))) 49, .isB 49 true] Tryz.func16 (by kernel_rfl) rfl (by kernel_rfl) rfl (by kernel_rfl)
    ⟨fun γ w' _ _ => u6normal hx0 (by decide) w',
     fun γ w' _ _ => u6minus hx2 (by decide) hx1 (by decide) w',
     fun γ w' _ _ => u6Dot (IsV.can f1) (by decide) (IsV.can f3) (by decide) w',
     fun γ w' _ _ => rSign (IsQ.can f4) (by decide) w',
     congrArg (fun z => some (Value.bool z)) (by rw [sgQ_beq]; exact decide_eq_true hd : ((sgQ (dot3 (nrmF x0) (subP x2 x1))) == (0 : Int)) = true),
     rfl⟩
theorem u6Cross_1 {ux0 : Value} {x0 : Z4} {kx0 : Nat} (hx0 : IsF ux0 x0 kx0) (lx0 : kx0 ≤ 300) {ux1 : Value} {x1 : P3} {kx1 : Nat} (hx1 : IsP ux1 x1 kx1) (lx1 : kx1 ≤ 300) {ux2 : Value} {x2 : P3} {kx2 : Nat} (hx2 : IsP ux2 x2 kx2) (lx2 : kx2 ≤ 300) (w : World) (hd : byF x0 x1 x2 ≠ 0) :
    Calls Tryz.prog 16 #[ux0, ux1, ux2] w fun e w' => e = .returned (.tuple #[PV (lineF x0 x1 x2), .bool true]) ∧ Below w.heap.size w w' := by
  replace hx0 := hx0.up lx0
  have zx0 := hx0.sz
  obtain ⟨x00, x01, x02, x03, x04, x05, x06, x07, rfl, ex00, sx01, ex01, sx03, ex02, sx05, ex03, sx07⟩ := id hx0
  have wx00 : IsZ (.agg #[.bool x00, .string x01]) x0.a 300 := ⟨x00, x01, rfl, ex00, sx01⟩
  have zx00 := wx00.sz
  have wx01 : IsZ (.agg #[.bool x02, .string x03]) x0.b 300 := ⟨x02, x03, rfl, ex01, sx03⟩
  have zx01 := wx01.sz
  have wx02 : IsZ (.agg #[.bool x04, .string x05]) x0.c 300 := ⟨x04, x05, rfl, ex02, sx05⟩
  have zx02 := wx02.sz
  have wx03 : IsZ (.agg #[.bool x06, .string x07]) x0.d 300 := ⟨x06, x07, rfl, ex03, sx07⟩
  have zx03 := wx03.sz
  replace hx1 := hx1.up lx1
  have zx1 := hx1.sz (by decide)
  obtain ⟨x1q, hx1q, ex1⟩ := id hx1
  obtain ⟨x10, x11, x12, x13, x14, x15, x16, x17, rfl, ex10, sx11, ex11, sx13, ex12, sx15, ex13, sx17⟩ := id hx1q
  have wx10 : IsZ (.agg #[.bool x10, .string x11]) x1q.a 300 := ⟨x10, x11, rfl, ex10, sx11⟩
  have zx10 := wx10.sz
  have wx11 : IsZ (.agg #[.bool x12, .string x13]) x1q.b 300 := ⟨x12, x13, rfl, ex11, sx13⟩
  have zx11 := wx11.sz
  have wx12 : IsZ (.agg #[.bool x14, .string x15]) x1q.c 300 := ⟨x14, x15, rfl, ex12, sx15⟩
  have zx12 := wx12.sz
  have wx13 : IsZ (.agg #[.bool x16, .string x17]) x1q.d 300 := ⟨x16, x17, rfl, ex13, sx17⟩
  have zx13 := wx13.sz
  replace hx2 := hx2.up lx2
  have zx2 := hx2.sz (by decide)
  obtain ⟨x2q, hx2q, ex2⟩ := id hx2
  obtain ⟨x20, x21, x22, x23, x24, x25, x26, x27, rfl, ex20, sx21, ex21, sx23, ex22, sx25, ex23, sx27⟩ := id hx2q
  have wx20 : IsZ (.agg #[.bool x20, .string x21]) x2q.a 300 := ⟨x20, x21, rfl, ex20, sx21⟩
  have zx20 := wx20.sz
  have wx21 : IsZ (.agg #[.bool x22, .string x23]) x2q.b 300 := ⟨x22, x23, rfl, ex21, sx23⟩
  have zx21 := wx21.sz
  have wx22 : IsZ (.agg #[.bool x24, .string x25]) x2q.c 300 := ⟨x24, x25, rfl, ex22, sx25⟩
  have zx22 := wx22.sz
  have wx23 : IsZ (.agg #[.bool x26, .string x27]) x2q.d 300 := ⟨x26, x27, rfl, ex23, sx27⟩
  have zx23 := wx23.sz
  have f1 : Vk (nrmF x0) 300 := Vk.up ((Vk.nrm zx0)) (by decide)
  have f2 : Rk (x0.d : Rat) 300 := Rk.up ((Rk.int zx0.2.2.2)) (by decide)
  have f3 : Vk (subP x2 x1) 601 := Vk.up ((Vk.subP zx2 zx1)) (by decide)
  have f4 : Rk (dot3 (nrmF x0) (subP x2 x1)) 2705 := Rk.up ((Rk.dot3 f1 f3)) (by decide)
  have f5 : Vk x1 300 := Vk.up ((Vk.ofP1 zx1)) (by decide)
  have f6 : Rk (dot3 (nrmF x0) x1) 1802 := Rk.up ((Rk.dot3 f1 f5)) (by decide)
  have f7 : Rk ((x0.d : Rat) - (dot3 (nrmF x0) x1)) 2103 := Rk.up (Rk.sub f2 f6) (by decide)
  have f8 : Rk (((x0.d : Rat) - (dot3 (nrmF x0) x1)) / (dot3 (nrmF x0) (subP x2 x1))) 4809 := Rk.up (Is.quo f7 f4) (by decide)
  have f9 : Vk (mulP (subP x2 x1) (((x0.d : Rat) - (dot3 (nrmF x0) x1)) / (dot3 (nrmF x0) (subP x2 x1)))) 5410 := Vk.up ((Vk.mulP f3 f8)) (by decide)
  have f10 : Vk (sumP x1 (mulP (subP x2 x1) (((x0.d : Rat) - (dot3 (nrmF x0) x1)) / (dot3 (nrmF x0) (subP x2 x1))))) 5711 := Vk.up ((Vk.sumP f5 f9)) (by decide)
  have f11 : Pk (sumP x1 (mulP (subP x2 x1) (((x0.d : Rat) - (dot3 (nrmF x0) x1)) / (dot3 (nrmF x0) (subP x2 x1))))) 17133 := Pk.up ((Pk.ofV f10)) (by decide)
  exact SX.run (w := w) (List.flatten [[.bool x00, .string x01, .bool x02, .string x03, .bool x04, .string x05, .bool x06, .string x07, .bool x10, .string x11, .bool x12, .string x13, .bool x14, .string x15, .bool x16, .string x17, .bool x20, .string x21, .bool x22, .string x23, .bool x24, .string x25, .bool x26, .string x27], vc (nrmF x0), qc (x0.d : Rat), vc (subP x2 x1), qc (dot3 (nrmF x0) (subP x2 x1)), [.int .i64 (sgQ (dot3 (nrmF x0) (subP x2 x1))), .bool false], vc x1, qc (dot3 (nrmF x0) x1), qc ((x0.d : Rat) - (dot3 (nrmF x0) x1)), qc (((x0.d : Rat) - (dot3 (nrmF x0) x1)) / (dot3 (nrmF x0) (subP x2 x1))), [.bool (decide ((dot3 (nrmF x0) (subP x2 x1)) ≠ 0))], vc x1, vc (mulP (subP x2 x1) (((x0.d : Rat) - (dot3 (nrmF x0) x1)) / (dot3 (nrmF x0) (subP x2 x1)))), vc (sumP x1 (mulP (subP x2 x1) (((x0.d : Rat) - (dot3 (nrmF x0) x1)) / (dot3 (nrmF x0) (subP x2 x1))))), pc (sumP x1 (mulP (subP x2 x1) (((x0.d : Rat) - (dot3 (nrmF x0) x1)) / (dot3 (nrmF x0) (subP x2 x1)))))]) [.b false] [.ga 0 8, .ga 8 8, .ga 16 8] 24 (.tup [.ga 96 8, .c (.p (.lit (.bool true)))]) [.call 35 [.ga 0 8] (.tup [.ga 24 9, .ga 33 3]) [], .call 53 [.ga 16 8, .ga 8 8] (.one (.ga 36 9)) [], .call 36 [.ga 24 9, .ga 36 9] (.one (.ga 45 3)) [], .call 38 [.ga 45 3] (.one (.ca 48)) [], .op2 false .eql (.pa 48) (.p (.lit (.int .i64 0))) 49, .isB 49 false, .call 55 [.ga 8 8] (.one (.ga 50 9)) [], .call 36 [.ga 24 9, .ga 50 9] (.one (.ga 59 3)) [], .call 54 [.ga 33 3, .ga 59 3] (.one (.ga 62 3)) [], .call 41 [.ga 62 3, .ga 45 3] (.tup [.ga 65 3, .ca 68]) [], .call 55 [.ga 8 8] (.one (.ga 69 9)) [], .call 40 [.ga 36 9, .ga 65 3] (.one (.ga 78 9)) [], .call 39 [.ga 69 9, .ga 78 9] (.one (.ga 87 9)) [], .call 42 [.ga 87 9] (.one (.ga 96 8)) []] Tryz.func16 (by kernel_rfl) rfl (by kernel_rfl) rfl (by kernel_rfl)
    ⟨fun γ w' _ _ => u6normal hx0 (by decide) w',
     fun γ w' _ _ => u6minus hx2 (by decide) hx1 (by decide) w',
     fun γ w' _ _ => u6Dot (IsV.can f1) (by decide) (IsV.can f3) (by decide) w',
     fun γ w' _ _ => rSign (IsQ.can f4) (by decide) w',
     congrArg (fun z => some (Value.bool z)) (by rw [sgQ_beq]; exact decide_eq_false hd : ((sgQ (dot3 (nrmF x0) (subP x2 x1))) == (0 : Int)) = false),
     rfl,
     fun γ w' _ _ => p4Coords hx1 (by decide) w',
     fun γ w' _ _ => u6Dot (IsV.can f1) (by decide) (IsV.can f5) (by decide) w',
     fun γ w' _ _ => rSub (IsQ.can f2) (by decide) (IsQ.can f6) (by decide) w',
     fun γ w' _ _ => rDiv (IsQ.can f7) (by decide) (IsQ.can f4) (by decide) w',
     fun γ w' _ _ => p4Coords hx1 (by decide) w',
     fun γ w' _ _ => u6scale (IsV.can f3) (by decide) (IsQ.can f8) (by decide) w',
     fun γ w' _ _ => u6plus (IsV.can f5) (by decide) (IsV.can f9) (by decide) w',
     fun γ w' _ _ => p4Make (IsV.can f10) (by decide) w'⟩
theorem u6Cross_any {ux0 : Value} {x0 : Z4} {kx0 : Nat} (hx0 : IsF ux0 x0 kx0) (lx0 : kx0 ≤ 300) {ux1 : Value} {x1 : P3} {kx1 : Nat} (hx1 : IsP ux1 x1 kx1) (lx1 : kx1 ≤ 300) {ux2 : Value} {x2 : P3} {kx2 : Nat} (hx2 : IsP ux2 x2 kx2) (lx2 : kx2 ≤ 300) (w : World) :
    Calls Tryz.prog 16 #[ux0, ux1, ux2] w fun e w' => e = .returned (lineV x0 x1 x2) ∧ Below w.heap.size w w' := by
  unfold lineV
  by_cases hd : byF x0 x1 x2 = 0
  · rw [if_pos hd]; exact u6Cross_0 hx0 lx0 hx1 lx1 hx2 lx2 w hd
  · rw [if_neg hd]; exact u6Cross_1 hx0 lx0 hx1 lx1 hx2 lx2 w hd
end Go.Proofs.YtfapglafeghggaaGreatDoor
