/- voussoirref05: arithmetic. -/
import Derived.Test.YtfapglafeghggaaGreatDoorVa
import Derived.Test.YtfapglafeghggaaGreatDoorPs
set_option linter.unusedVariables false
set_option linter.unusedSimpArgs false
namespace Go.Proofs.YtfapglafeghggaaGreatDoor
open Go.RowKit NM SX
theorem v5part {ux0 : Value} {x0 : Int} {kx0 : Nat} (hx0 : IsZ ux0 x0 kx0) (lx0 : kx0 ≤ 268435455) {ux1 : Value} {x1 : Int} {kx1 : Nat} (hx1 : IsZ ux1 x1 kx1) (lx1 : kx1 ≤ 268435455) (w : World) :
    Calls Tryz.prog 71 #[ux0, ux1] w fun e w' => e = .returned (Z (divq x0 x1)) ∧ Below w.heap.size w w' := by
  replace hx0 := hx0.up lx0
  have zx0 := hx0.sz
  obtain ⟨x00, x01, rfl, ex00, sx01⟩ := id hx0
  replace hx1 := hx1.up lx1
  have zx1 := hx1.sz
  obtain ⟨x10, x11, rfl, ex10, sx11⟩ := id hx1
  have f1 : Zk (divq x0 x1) 268435456 := Zk.up (Is.divq zx0 zx1) (by decide)
  have f2 : Zk (divr x0 x1) 268435456 := Zk.up (Is.divr zx0 zx1) (by decide)
  exact SX.run (w := w) (List.flatten [[.bool x00, .string x01, .bool x10, .string x11], zc (divq x0 x1), zc (divr x0 x1), [.bool (decide (x1 ≠ 0))]]) [] [.ga 0 2, .ga 2 2] 4 (.one (.ga 4 2)) [.call 48 [.ga 0 2, .ga 2 2] (.tup [.ga 4 2, .ga 6 2, .ca 8]) []] Tryz.func71 (by kernel_rfl) rfl (by kernel_rfl) rfl (by kernel_rfl)
    (SX.All.one (fun γ w' _ _ => jDiv hx0 (by decide) hx1 (by decide) w'))
theorem v5less {ux0 : Value} {x0 : P3} {kx0 : Nat} (hx0 : IsV ux0 x0 kx0) (lx0 : kx0 ≤ 50000) {ux1 : Value} {x1 : P3} {kx1 : Nat} (hx1 : IsV ux1 x1 kx1) (lx1 : kx1 ≤ 50000) (w : World) :
    Calls Tryz.prog 99 #[ux0, ux1] w fun e w' => e = .returned (VV (P3.mk (x0.x - x1.x) (x0.y - x1.y) (x0.z - x1.z))) ∧ Below w.heap.size w w' := by
  replace hx0 := hx0.up lx0
  have zx0 := hx0.sz (by decide)
  obtain ⟨x00, x01, x02, x03, x04, x05, x06, x07, x08, rfl, ex00, sx01, sx02, ex01, sx04, sx05, ex02, sx07, sx08⟩ := id hx0
  have wx00 : IsQ (.agg #[.bool x00, .string x01, .string x02]) x0.x 50000 := ⟨x00, x01, x02, rfl, ex00, sx01, sx02⟩
  have zx00 := wx00.sz (by decide)
  have wx01 : IsQ (.agg #[.bool x03, .string x04, .string x05]) x0.y 50000 := ⟨x03, x04, x05, rfl, ex01, sx04, sx05⟩
  have zx01 := wx01.sz (by decide)
  have wx02 : IsQ (.agg #[.bool x06, .string x07, .string x08]) x0.z 50000 := ⟨x06, x07, x08, rfl, ex02, sx07, sx08⟩
  have zx02 := wx02.sz (by decide)
  replace hx1 := hx1.up lx1
  have zx1 := hx1.sz (by decide)
  obtain ⟨x10, x11, x12, x13, x14, x15, x16, x17, x18, rfl, ex10, sx11, sx12, ex11, sx14, sx15, ex12, sx17, sx18⟩ := id hx1
  have wx10 : IsQ (.agg #[.bool x10, .string x11, .string x12]) x1.x 50000 := ⟨x10, x11, x12, rfl, ex10, sx11, sx12⟩
  have zx10 := wx10.sz (by decide)
  have wx11 : IsQ (.agg #[.bool x13, .string x14, .string x15]) x1.y 50000 := ⟨x13, x14, x15, rfl, ex11, sx14, sx15⟩
  have zx11 := wx11.sz (by decide)
  have wx12 : IsQ (.agg #[.bool x16, .string x17, .string x18]) x1.z 50000 := ⟨x16, x17, x18, rfl, ex12, sx17, sx18⟩
  have zx12 := wx12.sz (by decide)
  have f1 : Rk (x0.x - x1.x) 100001 := Rk.up (Rk.sub zx00 zx10) (by decide)
  have f2 : Rk (x0.y - x1.y) 100001 := Rk.up (Rk.sub zx01 zx11) (by decide)
  have f3 : Rk (x0.z - x1.z) 100001 := Rk.up (Rk.sub zx02 zx12) (by decide)
  exact SX.run (w := w) (List.flatten [[.bool x00, .string x01, .string x02, .bool x03, .string x04, .string x05, .bool x06, .string x07, .string x08, .bool x10, .string x11, .string x12, .bool x13, .string x14, .string x15, .bool x16, .string x17, .string x18], qc (x0.x - x1.x), qc (x0.y - x1.y), qc (x0.z - x1.z)]) [] [.ga 0 9, .ga 9 9] 18 (.one (.ga 18 9)) [.call 54 [.ga 0 3, .ga 9 3] (.one (.ga 18 3)) [], .call 54 [.ga 3 3, .ga 12 3] (.one (.ga 21 3)) [], .call 54 [.ga 6 3, .ga 15 3] (.one (.ga 24 3)) []] Tryz.func99 (by kernel_rfl) rfl (by kernel_rfl) rfl (by kernel_rfl)
    ⟨fun γ w' _ _ => rSub wx00 (by decide) wx10 (by decide) w',
     fun γ w' _ _ => rSub wx01 (by decide) wx11 (by decide) w',
     fun γ w' _ _ => rSub wx02 (by decide) wx12 (by decide) w'⟩
theorem v5minor_12 {ux0 : Value} {x0 : P3} {kx0 : Nat} (hx0 : IsV ux0 x0 kx0) (lx0 : kx0 ≤ 12000) {ux1 : Value} {x1 : P3} {kx1 : Nat} (hx1 : IsV ux1 x1 kx1) (lx1 : kx1 ≤ 12000) (w : World) :
    Calls Tryz.prog 128 #[ux0, ux1, .int .i64 1, .int .i64 2] w fun e w' => e = .returned (QV (x0.y * x1.z - x0.z * x1.y)) ∧ Below w.heap.size w w' := by
  replace hx0 := hx0.up lx0
  have zx0 := hx0.sz (by decide)
  obtain ⟨x00, x01, x02, x03, x04, x05, x06, x07, x08, rfl, ex00, sx01, sx02, ex01, sx04, sx05, ex02, sx07, sx08⟩ := id hx0
  have wx00 : IsQ (.agg #[.bool x00, .string x01, .string x02]) x0.x 12000 := ⟨x00, x01, x02, rfl, ex00, sx01, sx02⟩
  have zx00 := wx00.sz (by decide)
  have wx01 : IsQ (.agg #[.bool x03, .string x04, .string x05]) x0.y 12000 := ⟨x03, x04, x05, rfl, ex01, sx04, sx05⟩
  have zx01 := wx01.sz (by decide)
  have wx02 : IsQ (.agg #[.bool x06, .string x07, .string x08]) x0.z 12000 := ⟨x06, x07, x08, rfl, ex02, sx07, sx08⟩
  have zx02 := wx02.sz (by decide)
  replace hx1 := hx1.up lx1
  have zx1 := hx1.sz (by decide)
  obtain ⟨x10, x11, x12, x13, x14, x15, x16, x17, x18, rfl, ex10, sx11, sx12, ex11, sx14, sx15, ex12, sx17, sx18⟩ := id hx1
  have wx10 : IsQ (.agg #[.bool x10, .string x11, .string x12]) x1.x 12000 := ⟨x10, x11, x12, rfl, ex10, sx11, sx12⟩
  have zx10 := wx10.sz (by decide)
  have wx11 : IsQ (.agg #[.bool x13, .string x14, .string x15]) x1.y 12000 := ⟨x13, x14, x15, rfl, ex11, sx14, sx15⟩
  have zx11 := wx11.sz (by decide)
  have wx12 : IsQ (.agg #[.bool x16, .string x17, .string x18]) x1.z 12000 := ⟨x16, x17, x18, rfl, ex12, sx17, sx18⟩
  have zx12 := wx12.sz (by decide)
  have f1 : Rk (x0.y * x1.z) 24000 := Rk.up (Is.mul zx01 zx12) (by decide)
  have f2 : Rk (x0.z * x1.y) 24000 := Rk.up (Is.mul zx02 zx11) (by decide)
  have f3 : Rk ((x0.y * x1.z) - (x0.z * x1.y)) 48001 := Rk.up (Rk.sub f1 f2) (by decide)
  exact SX.runX (w := w) (List.flatten [[.bool x00, .string x01, .string x02, .bool x03, .string x04, .string x05, .bool x06, .string x07, .string x08, .bool x10, .string x11, .string x12, .bool x13, .string x14, .string x15, .bool x16, .string x17, .string x18], qc (x0.y * x1.z), qc (x0.z * x1.y), qc ((x0.y * x1.z) - (x0.z * x1.y))]) [] [] [.agg [.p (.at 0), .p (.at 1), .p (.at 2), .p (.at 3), .p (.at 4), .p (.at 5), .p (.at 6), .p (.at 7), .p (.at 8)], .agg [.p (.at 9), .p (.at 10), .p (.at 11), .p (.at 12), .p (.at 13), .p (.at 14), .p (.at 15), .p (.at 16), .p (.at 17)], .c (.p (.lit (.int .i64 (1)))), .c (.p (.lit (.int .i64 (2))))] 18 [] (.one (.ga 24 3)) [.call 76 [.ga 3 3, .ga 15 3] (.one (.ga 18 3)) [], .call 76 [.ga 6 3, .ga 12 3] (.one (.ga 21 3)) [], .call 54 [.ga 18 3, .ga 21 3] (.one (.ga 24 3)) []] ⟨rfl, fun b t l h => by simp at h⟩ Tryz.func128 (by kernel_rfl) rfl rfl (by kernel_rfl)
    ⟨fun γ w' _ _ => rMul wx01 (by decide) wx12 (by decide) w',
     fun γ w' _ _ => rMul wx02 (by decide) wx11 (by decide) w',
     fun γ w' _ _ => rSub (IsQ.can f1) (by decide) (IsQ.can f2) (by decide) w'⟩
theorem v5minor_20 {ux0 : Value} {x0 : P3} {kx0 : Nat} (hx0 : IsV ux0 x0 kx0) (lx0 : kx0 ≤ 12000) {ux1 : Value} {x1 : P3} {kx1 : Nat} (hx1 : IsV ux1 x1 kx1) (lx1 : kx1 ≤ 12000) (w : World) :
    Calls Tryz.prog 128 #[ux0, ux1, .int .i64 2, .int .i64 0] w fun e w' => e = .returned (QV (x0.z * x1.x - x0.x * x1.z)) ∧ Below w.heap.size w w' := by
  replace hx0 := hx0.up lx0
  have zx0 := hx0.sz (by decide)
  obtain ⟨x00, x01, x02, x03, x04, x05, x06, x07, x08, rfl, ex00, sx01, sx02, ex01, sx04, sx05, ex02, sx07, sx08⟩ := id hx0
  have wx00 : IsQ (.agg #[.bool x00, .string x01, .string x02]) x0.x 12000 := ⟨x00, x01, x02, rfl, ex00, sx01, sx02⟩
  have zx00 := wx00.sz (by decide)
  have wx01 : IsQ (.agg #[.bool x03, .string x04, .string x05]) x0.y 12000 := ⟨x03, x04, x05, rfl, ex01, sx04, sx05⟩
  have zx01 := wx01.sz (by decide)
  have wx02 : IsQ (.agg #[.bool x06, .string x07, .string x08]) x0.z 12000 := ⟨x06, x07, x08, rfl, ex02, sx07, sx08⟩
  have zx02 := wx02.sz (by decide)
  replace hx1 := hx1.up lx1
  have zx1 := hx1.sz (by decide)
  obtain ⟨x10, x11, x12, x13, x14, x15, x16, x17, x18, rfl, ex10, sx11, sx12, ex11, sx14, sx15, ex12, sx17, sx18⟩ := id hx1
  have wx10 : IsQ (.agg #[.bool x10, .string x11, .string x12]) x1.x 12000 := ⟨x10, x11, x12, rfl, ex10, sx11, sx12⟩
  have zx10 := wx10.sz (by decide)
  have wx11 : IsQ (.agg #[.bool x13, .string x14, .string x15]) x1.y 12000 := ⟨x13, x14, x15, rfl, ex11, sx14, sx15⟩
  have zx11 := wx11.sz (by decide)
  have wx12 : IsQ (.agg #[.bool x16, .string x17, .string x18]) x1.z 12000 := ⟨x16, x17, x18, rfl, ex12, sx17, sx18⟩
  have zx12 := wx12.sz (by decide)
  have f1 : Rk (x0.z * x1.x) 24000 := Rk.up (Is.mul zx02 zx10) (by decide)
  have f2 : Rk (x0.x * x1.z) 24000 := Rk.up (Is.mul zx00 zx12) (by decide)
  have f3 : Rk ((x0.z * x1.x) - (x0.x * x1.z)) 48001 := Rk.up (Rk.sub f1 f2) (by decide)
  exact SX.runX (w := w) (List.flatten [[.bool x00, .string x01, .string x02, .bool x03, .string x04, .string x05, .bool x06, .string x07, .string x08, .bool x10, .string x11, .string x12, .bool x13, .string x14, .string x15, .bool x16, .string x17, .string x18], qc (x0.z * x1.x), qc (x0.x * x1.z), qc ((x0.z * x1.x) - (x0.x * x1.z))]) [] [] [.agg [.p (.at 0), .p (.at 1), .p (.at 2), .p (.at 3), .p (.at 4), .p (.at 5), .p (.at 6), .p (.at 7), .p (.at 8)], .agg [.p (.at 9), .p (.at 10), .p (.at 11), .p (.at 12), .p (.at 13), .p (.at 14), .p (.at 15), .p (.at 16), .p (.at 17)], .c (.p (.lit (.int .i64 (2)))), .c (.p (.lit (.int .i64 (0))))] 18 [] (.one (.ga 24 3)) [.call 76 [.ga 6 3, .ga 9 3] (.one (.ga 18 3)) [], .call 76 [.ga 0 3, .ga 15 3] (.one (.ga 21 3)) [], .call 54 [.ga 18 3, .ga 21 3] (.one (.ga 24 3)) []] ⟨rfl, fun b t l h => by simp at h⟩ Tryz.func128 (by kernel_rfl) rfl rfl (by kernel_rfl)
    ⟨fun γ w' _ _ => rMul wx02 (by decide) wx10 (by decide) w',
     fun γ w' _ _ => rMul wx00 (by decide) wx12 (by decide) w',
     fun γ w' _ _ => rSub (IsQ.can f1) (by decide) (IsQ.can f2) (by decide) w'⟩
theorem v5minor_01 {ux0 : Value} {x0 : P3} {kx0 : Nat} (hx0 : IsV ux0 x0 kx0) (lx0 : kx0 ≤ 12000) {ux1 : Value} {x1 : P3} {kx1 : Nat} (hx1 : IsV ux1 x1 kx1) (lx1 : kx1 ≤ 12000) (w : World) :
    Calls Tryz.prog 128 #[ux0, ux1, .int .i64 0, .int .i64 1] w fun e w' => e = .returned (QV (x0.x * x1.y - x0.y * x1.x)) ∧ Below w.heap.size w w' := by
  replace hx0 := hx0.up lx0
  have zx0 := hx0.sz (by decide)
  obtain ⟨x00, x01, x02, x03, x04, x05, x06, x07, x08, rfl, ex00, sx01, sx02, ex01, sx04, sx05, ex02, sx07, sx08⟩ := id hx0
  have wx00 : IsQ (.agg #[.bool x00, .string x01, .string x02]) x0.x 12000 := ⟨x00, x01, x02, rfl, ex00, sx01, sx02⟩
  have zx00 := wx00.sz (by decide)
  have wx01 : IsQ (.agg #[.bool x03, .string x04, .string x05]) x0.y 12000 := ⟨x03, x04, x05, rfl, ex01, sx04, sx05⟩
  have zx01 := wx01.sz (by decide)
  have wx02 : IsQ (.agg #[.bool x06, .string x07, .string x08]) x0.z 12000 := ⟨x06, x07, x08, rfl, ex02, sx07, sx08⟩
  have zx02 := wx02.sz (by decide)
  replace hx1 := hx1.up lx1
  have zx1 := hx1.sz (by decide)
  obtain ⟨x10, x11, x12, x13, x14, x15, x16, x17, x18, rfl, ex10, sx11, sx12, ex11, sx14, sx15, ex12, sx17, sx18⟩ := id hx1
  have wx10 : IsQ (.agg #[.bool x10, .string x11, .string x12]) x1.x 12000 := ⟨x10, x11, x12, rfl, ex10, sx11, sx12⟩
  have zx10 := wx10.sz (by decide)
  have wx11 : IsQ (.agg #[.bool x13, .string x14, .string x15]) x1.y 12000 := ⟨x13, x14, x15, rfl, ex11, sx14, sx15⟩
  have zx11 := wx11.sz (by decide)
  have wx12 : IsQ (.agg #[.bool x16, .string x17, .string x18]) x1.z 12000 := ⟨x16, x17, x18, rfl, ex12, sx17, sx18⟩
  have zx12 := wx12.sz (by decide)
  have f1 : Rk (x0.x * x1.y) 24000 := Rk.up (Is.mul zx00 zx11) (by decide)
  have f2 : Rk (x0.y * x1.x) 24000 := Rk.up (Is.mul zx01 zx10) (by decide)
  have f3 : Rk ((x0.x * x1.y) - (x0.y * x1.x)) 48001 := Rk.up (Rk.sub f1 f2) (by decide)
  exact SX.runX (w := w) (List.flatten [[.bool x00, .string x01, .string x02, .bool x03, .string x04, .string x05, .bool x06, .string x07, .string x08, .bool x10, .string x11, .string x12, .bool x13, .string x14, .string x15, .bool x16, .string x17, .string x18], qc (x0.x * x1.y), qc (x0.y * x1.x), qc ((x0.x * x1.y) - (x0.y * x1.x))]) [] [] [.agg [.p (.at 0), .p (.at 1), .p (.at 2), .p (.at 3), .p (.at 4), .p (.at 5), .p (.at 6), .p (.at 7), .p (.at 8)], .agg [.p (.at 9), .p (.at 10), .p (.at 11), .p (.at 12), .p (.at 13), .p (.at 14), .p (.at 15), .p (.at 16), .p (.at 17)], .c (.p (.lit (.int .i64 (0)))), .c (.p (.lit (.int .i64 (1))))] 18 [] (.one (.ga 24 3)) [.call 76 [.ga 0 3, .ga 12 3] (.one (.ga 18 3)) [], .call 76 [.ga 3 3, .ga 9 3] (.one (.ga 21 3)) [], .call 54 [.ga 18 3, .ga 21 3] (.one (.ga 24 3)) []] ⟨rfl, fun b t l h => by simp at h⟩ Tryz.func128 (by kernel_rfl) rfl rfl (by kernel_rfl)
    ⟨fun γ w' _ _ => rMul wx00 (by decide) wx11 (by decide) w',
     fun γ w' _ _ => rMul wx01 (by decide) wx10 (by decide) w',
     fun γ w' _ _ => rSub (IsQ.can f1) (by decide) (IsQ.can f2) (by decide) w'⟩
theorem v5Across {ux0 : Value} {x0 : P3} {kx0 : Nat} (hx0 : IsV ux0 x0 kx0) (lx0 : kx0 ≤ 12000) {ux1 : Value} {x1 : P3} {kx1 : Nat} (hx1 : IsV ux1 x1 kx1) (lx1 : kx1 ≤ 12000) (w : World) :
    Calls Tryz.prog 98 #[ux0, ux1] w fun e w' => e = .returned (VV (crossP x0 x1)) ∧ Below w.heap.size w w' := by
  replace hx0 := hx0.up lx0
  have zx0 := hx0.sz (by decide)
  obtain ⟨x00, x01, x02, x03, x04, x05, x06, x07, x08, rfl, ex00, sx01, sx02, ex01, sx04, sx05, ex02, sx07, sx08⟩ := id hx0
  have wx00 : IsQ (.agg #[.bool x00, .string x01, .string x02]) x0.x 12000 := ⟨x00, x01, x02, rfl, ex00, sx01, sx02⟩
  have zx00 := wx00.sz (by decide)
  have wx01 : IsQ (.agg #[.bool x03, .string x04, .string x05]) x0.y 12000 := ⟨x03, x04, x05, rfl, ex01, sx04, sx05⟩
  have zx01 := wx01.sz (by decide)
  have wx02 : IsQ (.agg #[.bool x06, .string x07, .string x08]) x0.z 12000 := ⟨x06, x07, x08, rfl, ex02, sx07, sx08⟩
  have zx02 := wx02.sz (by decide)
  replace hx1 := hx1.up lx1
  have zx1 := hx1.sz (by decide)
  obtain ⟨x10, x11, x12, x13, x14, x15, x16, x17, x18, rfl, ex10, sx11, sx12, ex11, sx14, sx15, ex12, sx17, sx18⟩ := id hx1
  have wx10 : IsQ (.agg #[.bool x10, .string x11, .string x12]) x1.x 12000 := ⟨x10, x11, x12, rfl, ex10, sx11, sx12⟩
  have zx10 := wx10.sz (by decide)
  have wx11 : IsQ (.agg #[.bool x13, .string x14, .string x15]) x1.y 12000 := ⟨x13, x14, x15, rfl, ex11, sx14, sx15⟩
  have zx11 := wx11.sz (by decide)
  have wx12 : IsQ (.agg #[.bool x16, .string x17, .string x18]) x1.z 12000 := ⟨x16, x17, x18, rfl, ex12, sx17, sx18⟩
  have zx12 := wx12.sz (by decide)
  have f1 : Rk (x0.y * x1.z - x0.z * x1.y) 48001 := Rk.up (Rk.minor (j := 12000) (k := 12000) (zx0.2.1) (zx1.2.2) (zx0.2.2) (zx1.2.1)) (by decide)
  have f2 : Rk (x0.z * x1.x - x0.x * x1.z) 48001 := Rk.up (Rk.minor (j := 12000) (k := 12000) (zx0.2.2) (zx1.1) (zx0.1) (zx1.2.2)) (by decide)
  have f3 : Rk (x0.x * x1.y - x0.y * x1.x) 48001 := Rk.up (Rk.minor (j := 12000) (k := 12000) (zx0.1) (zx1.2.1) (zx0.2.1) (zx1.1)) (by decide)
  exact SX.run (w := w) (List.flatten [[.bool x00, .string x01, .string x02, .bool x03, .string x04, .string x05, .bool x06, .string x07, .string x08, .bool x10, .string x11, .string x12, .bool x13, .string x14, .string x15, .bool x16, .string x17, .string x18], qc (x0.y * x1.z - x0.z * x1.y), qc (x0.z * x1.x - x0.x * x1.z), qc (x0.x * x1.y - x0.y * x1.x)]) [] [.ga 0 9, .ga 9 9] 18 (.one (.ga 18 9)) [.call 128 [.ga 0 9, .ga 9 9, .c (.p (.lit (.int .i64 1))), .c (.p (.lit (.int .i64 2)))] (.one (.ga 18 3)) [], .call 128 [.ga 0 9, .ga 9 9, .c (.p (.lit (.int .i64 2))), .c (.p (.lit (.int .i64 0)))] (.one (.ga 21 3)) [], .call 128 [.ga 0 9, .ga 9 9, .c (.p (.lit (.int .i64 0))), .c (.p (.lit (.int .i64 1)))] (.one (.ga 24 3)) []] Tryz.func98 (by kernel_rfl) rfl (by kernel_rfl) rfl (by kernel_rfl)
    ⟨fun γ w' _ _ => v5minor_12 hx0 (by decide) hx1 (by decide) w',
     fun γ w' _ _ => v5minor_20 hx0 (by decide) hx1 (by decide) w',
     fun γ w' _ _ => v5minor_01 hx0 (by decide) hx1 (by decide) w'⟩
theorem v5Dot {ux0 : Value} {x0 : P3} {kx0 : Nat} (hx0 : IsV ux0 x0 kx0) (lx0 : kx0 ≤ 6000) {ux1 : Value} {x1 : P3} {kx1 : Nat} (hx1 : IsV ux1 x1 kx1) (lx1 : kx1 ≤ 6000) (w : World) :
    Calls Tryz.prog 101 #[ux0, ux1] w fun e w' => e = .returned (QV (dotP x0 x1)) ∧ Below w.heap.size w w' := by
  replace hx0 := hx0.up lx0
  have zx0 := hx0.sz (by decide)
  obtain ⟨x00, x01, x02, x03, x04, x05, x06, x07, x08, rfl, ex00, sx01, sx02, ex01, sx04, sx05, ex02, sx07, sx08⟩ := id hx0
  have wx00 : IsQ (.agg #[.bool x00, .string x01, .string x02]) x0.x 6000 := ⟨x00, x01, x02, rfl, ex00, sx01, sx02⟩
  have zx00 := wx00.sz (by decide)
  have wx01 : IsQ (.agg #[.bool x03, .string x04, .string x05]) x0.y 6000 := ⟨x03, x04, x05, rfl, ex01, sx04, sx05⟩
  have zx01 := wx01.sz (by decide)
  have wx02 : IsQ (.agg #[.bool x06, .string x07, .string x08]) x0.z 6000 := ⟨x06, x07, x08, rfl, ex02, sx07, sx08⟩
  have zx02 := wx02.sz (by decide)
  replace hx1 := hx1.up lx1
  have zx1 := hx1.sz (by decide)
  obtain ⟨x10, x11, x12, x13, x14, x15, x16, x17, x18, rfl, ex10, sx11, sx12, ex11, sx14, sx15, ex12, sx17, sx18⟩ := id hx1
  have wx10 : IsQ (.agg #[.bool x10, .string x11, .string x12]) x1.x 6000 := ⟨x10, x11, x12, rfl, ex10, sx11, sx12⟩
  have zx10 := wx10.sz (by decide)
  have wx11 : IsQ (.agg #[.bool x13, .string x14, .string x15]) x1.y 6000 := ⟨x13, x14, x15, rfl, ex11, sx14, sx15⟩
  have zx11 := wx11.sz (by decide)
  have wx12 : IsQ (.agg #[.bool x16, .string x17, .string x18]) x1.z 6000 := ⟨x16, x17, x18, rfl, ex12, sx17, sx18⟩
  have zx12 := wx12.sz (by decide)
  have f1 : Rk (x0.x * x1.x) 12000 := Rk.up (Is.mul zx00 zx10) (by decide)
  have f2 : Rk ((0 : Rat) + (x0.x * x1.x)) 12002 := Rk.up (Rk.add Rk.zero f1) (by decide)
  have f3 : Rk (x0.y * x1.y) 12000 := Rk.up (Is.mul zx01 zx11) (by decide)
  have f4 : Rk (((0 : Rat) + (x0.x * x1.x)) + (x0.y * x1.y)) 24003 := Rk.up (Rk.add f2 f3) (by decide)
  have f5 : Rk (x0.z * x1.z) 12000 := Rk.up (Is.mul zx02 zx12) (by decide)
  have f6 : Rk ((((0 : Rat) + (x0.x * x1.x)) + (x0.y * x1.y)) + (x0.z * x1.z)) 36004 := Rk.up (Rk.add f4 f5) (by decide)
  exact SX.run (w := w) (List.flatten [[.bool x00, .string x01, .string x02, .bool x03, .string x04, .string x05, .bool x06, .string x07, .string x08, .bool x10, .string x11, .string x12, .bool x13, .string x14, .string x15, .bool x16, .string x17, .string x18], qc (x0.x * x1.x), qc ((0 : Rat) + (x0.x * x1.x)), qc (x0.y * x1.y), qc (((0 : Rat) + (x0.x * x1.x)) + (x0.y * x1.y)), qc (x0.z * x1.z), qc ((((0 : Rat) + (x0.x * x1.x)) + (x0.y * x1.y)) + (x0.z * x1.z))]) [] [.ga 0 9, .ga 9 9] 18 (.one (.ga 33 3)) [.call 76 [.ga 0 3, .ga 9 3] (.one (.ga 18 3)) [], .call 75 [.agg [.p (.lit (.bool false)), .p (.lit (.string ⟨#[]⟩)), .p (.lit (.string ⟨#[]⟩))], .ga 18 3] (.one (.ga 21 3)) [], .call 76 [.ga 3 3, .ga 12 3] (.one (.ga 24 3)) [], .call 75 [.ga 21 3, .ga 24 3] (.one (.ga 27 3)) [], .call 76 [.ga 6 3, .ga 15 3] (.one (.ga 30 3)) [], .call 75 [.ga 27 3, .ga 30 3] (.one (.ga 33 3)) []] Tryz.func101 (by kernel_rfl) rfl (by kernel_rfl) rfl (by kernel_rfl)
    ⟨fun γ w' _ _ => rMul wx00 (by decide) wx10 (by decide) w',
     fun γ w' _ _ => rAdd IsQ.zero (by decide) (IsQ.can f1) (by decide) w',
     fun γ w' _ _ => rMul wx01 (by decide) wx11 (by decide) w',
     fun γ w' _ _ => rAdd (IsQ.can f2) (by decide) (IsQ.can f3) (by decide) w',
     fun γ w' _ _ => rMul wx02 (by decide) wx12 (by decide) w',
     fun γ w' _ _ => rAdd (IsQ.can f4) (by decide) (IsQ.can f5) (by decide) w'⟩
theorem v5Norm_0 {ux0 : Value} {x0 : Z4} {kx0 : Nat} (hx0 : IsF ux0 x0 kx0) (lx0 : kx0 ≤ 300000) (w : World) (h0 : x0.a ≠ 0) :
    Calls Tryz.prog 29 #[ux0] w fun e w' => e = .returned (.tuple #[FV ⟨divq x0.a ((g4 x0.a x0.b x0.c x0.d : Nat) : Int), divq x0.b ((g4 x0.a x0.b x0.c x0.d : Nat) : Int), divq x0.c ((g4 x0.a x0.b x0.c x0.d : Nat) : Int), divq x0.d ((g4 x0.a x0.b x0.c x0.d : Nat) : Int)⟩, .bool true]) ∧ Below w.heap.size w w' := by
  replace hx0 := hx0.up lx0
  have zx0 := hx0.sz
  obtain ⟨x00, x01, x02, x03, x04, x05, x06, x07, rfl, ex00, sx01, ex01, sx03, ex02, sx05, ex03, sx07⟩ := id hx0
  have wx00 : IsZ (.agg #[.bool x00, .string x01]) x0.a 300000 := ⟨x00, x01, rfl, ex00, sx01⟩
  have zx00 := wx00.sz
  have wx01 : IsZ (.agg #[.bool x02, .string x03]) x0.b 300000 := ⟨x02, x03, rfl, ex01, sx03⟩
  have zx01 := wx01.sz
  have wx02 : IsZ (.agg #[.bool x04, .string x05]) x0.c 300000 := ⟨x04, x05, rfl, ex02, sx05⟩
  have zx02 := wx02.sz
  have wx03 : IsZ (.agg #[.bool x06, .string x07]) x0.d 300000 := ⟨x06, x07, rfl, ex03, sx07⟩
  have zx03 := wx03.sz
  have hsz : ∀ x ∈ [(x00, x01), (x02, x03), (x04, x05), (x06, x07)], x.2.size ≤ 134217728 := by
    intro x hx
    simp only [List.mem_cons, List.not_mem_nil, or_false] at hx
    rcases hx with rfl | rfl | rfl | rfl <;> simp <;> omega
  have hg : gcdL [(x00, x01), (x02, x03), (x04, x05), (x06, x07)] = g4 x0.a x0.b x0.c x0.d := by
    show Nat.gcd (Nat.gcd (Nat.gcd (Nat.gcd 0 (nat x01)) (nat x03)) (nat x05)) (nat x07) = _
    rw [← gcd_last, ← ex00, ← ex01, ← ex02, ← ex03, abs_iv, abs_iv, abs_iv, abs_iv]
  have f1 : Zk ((g4 x0.a x0.b x0.c x0.d : Nat) : Int) 300000 := Zk.up ((g4_size zx0)) (by decide)
  have f2 : Zk (divq x0.a ((g4 x0.a x0.b x0.c x0.d : Nat) : Int)) 300001 := Zk.up ((Is.divq zx00 f1)) (by decide)
  have f3 : Zk (divq x0.b ((g4 x0.a x0.b x0.c x0.d : Nat) : Int)) 300001 := Zk.up ((Is.divq zx01 f1)) (by decide)
  have f4 : Zk (divq x0.c ((g4 x0.a x0.b x0.c x0.d : Nat) : Int)) 300001 := Zk.up ((Is.divq zx02 f1)) (by decide)
  have f5 : Zk (divq x0.d ((g4 x0.a x0.b x0.c x0.d : Nat) : Int)) 300001 := Zk.up ((Is.divq zx03 f1)) (by decide)
  exact SX.run (w := w) (List.flatten [[.bool x00, .string x01, .bool x02, .string x03, .bool x04, .string x05, .bool x06, .string x07, .int .i64 (cmpZ x0.a 0), .bool false], zc ((g4 x0.a x0.b x0.c x0.d : Nat) : Int), zc (divq x0.a ((g4 x0.a x0.b x0.c x0.d : Nat) : Int)), zc (divq x0.b ((g4 x0.a x0.b x0.c x0.d : Nat) : Int)), zc (divq x0.c ((g4 x0.a x0.b x0.c x0.d : Nat) : Int)), zc (divq x0.d ((g4 x0.a x0.b x0.c x0.d : Nat) : Int))]) [.b false] [.ga 0 8] 8 (.tup [.ga 12 8, .c (.p (.lit (.bool true)))]) [.call 44 [.ga 0 2] (.one (.ca 8)) [], .op2 false .eql (.pa 8) (.p (.lit (.int .i64 0))) 9, .isB 9 false, .call 46 [.c (.p (.slc 2 0 4 4))] (.one (.ga 10 2)) [(2049, .pa 0), (2050, .pa 1), (2051, .pa 2), (2052, .pa 3), (2053, .pa 4), (2054, .pa 5), (2055, .pa 6), (2056, .pa 7)], .call 71 [.ga 0 2, .ga 10 2] (.one (.ga 12 2)) [], .call 71 [.ga 2 2, .ga 10 2] (.one (.ga 14 2)) [], .call 71 [.ga 4 2, .ga 10 2] (.one (.ga 16 2)) [], .call 71 [.ga 6 2, .ga 10 2] (.one (.ga 18 2)) []] Tryz.func29 (by kernel_rfl) rfl (by kernel_rfl) rfl (by kernel_rfl)
    ⟨fun γ w' _ _ => jSign wx00 (by decide) w',
     congrArg (fun z => some (Value.bool z)) (by rw [cmpZ_eq0]; exact decide_eq_false h0 : ((cmpZ x0.a 0) == (0 : Int)) = false),
     rfl,
     fun γ w' _ hm => by have h := refGcdZ_any (some ⟨γ 2, 0, none⟩) [(x00, x01), (x02, x03), (x04, x05), (x06, x07)] 4 4 w' rfl (by simp) hsz (rdz4 (hm 2049 _ rfl) (hm 2050 _ rfl) (hm 2051 _ rfl) (hm 2052 _ rfl) (hm 2053 _ rfl) (hm 2054 _ rfl) (hm 2055 _ rfl) (hm 2056 _ rfl)); rw [hg] at h; exact h,
     fun γ w' _ _ => v5part wx00 (by decide) (IsZ.can f1) (by decide) w',
     fun γ w' _ _ => v5part wx01 (by decide) (IsZ.can f1) (by decide) w',
     fun γ w' _ _ => v5part wx02 (by decide) (IsZ.can f1) (by decide) w',
     fun γ w' _ _ => v5part wx03 (by decide) (IsZ.can f1) (by decide) w'⟩
theorem v5Norm_1 {ux0 : Value} {x0 : Z4} {kx0 : Nat} (hx0 : IsF ux0 x0 kx0) (lx0 : kx0 ≤ 300000) (w : World) (h0 : x0.a = 0) (h1 : x0.b ≠ 0) :
    Calls Tryz.prog 29 #[ux0] w fun e w' => e = .returned (.tuple #[FV ⟨divq x0.a ((g4 x0.a x0.b x0.c x0.d : Nat) : Int), divq x0.b ((g4 x0.a x0.b x0.c x0.d : Nat) : Int), divq x0.c ((g4 x0.a x0.b x0.c x0.d : Nat) : Int), divq x0.d ((g4 x0.a x0.b x0.c x0.d : Nat) : Int)⟩, .bool true]) ∧ Below w.heap.size w w' := by
  replace hx0 := hx0.up lx0
  have zx0 := hx0.sz
  obtain ⟨x00, x01, x02, x03, x04, x05, x06, x07, rfl, ex00, sx01, ex01, sx03, ex02, sx05, ex03, sx07⟩ := id hx0
  have wx00 : IsZ (.agg #[.bool x00, .string x01]) x0.a 300000 := ⟨x00, x01, rfl, ex00, sx01⟩
  have zx00 := wx00.sz
  have wx01 : IsZ (.agg #[.bool x02, .string x03]) x0.b 300000 := ⟨x02, x03, rfl, ex01, sx03⟩
  have zx01 := wx01.sz
  have wx02 : IsZ (.agg #[.bool x04, .string x05]) x0.c 300000 := ⟨x04, x05, rfl, ex02, sx05⟩
  have zx02 := wx02.sz
  have wx03 : IsZ (.agg #[.bool x06, .string x07]) x0.d 300000 := ⟨x06, x07, rfl, ex03, sx07⟩
  have zx03 := wx03.sz
  have hsz : ∀ x ∈ [(x00, x01), (x02, x03), (x04, x05), (x06, x07)], x.2.size ≤ 134217728 := by
    intro x hx
    simp only [List.mem_cons, List.not_mem_nil, or_false] at hx
    rcases hx with rfl | rfl | rfl | rfl <;> simp <;> omega
  have hg : gcdL [(x00, x01), (x02, x03), (x04, x05), (x06, x07)] = g4 x0.a x0.b x0.c x0.d := by
    show Nat.gcd (Nat.gcd (Nat.gcd (Nat.gcd 0 (nat x01)) (nat x03)) (nat x05)) (nat x07) = _
    rw [← gcd_last, ← ex00, ← ex01, ← ex02, ← ex03, abs_iv, abs_iv, abs_iv, abs_iv]
  have f1 : Zk ((g4 x0.a x0.b x0.c x0.d : Nat) : Int) 300000 := Zk.up ((g4_size zx0)) (by decide)
  have f2 : Zk (divq x0.a ((g4 x0.a x0.b x0.c x0.d : Nat) : Int)) 300001 := Zk.up ((Is.divq zx00 f1)) (by decide)
  have f3 : Zk (divq x0.b ((g4 x0.a x0.b x0.c x0.d : Nat) : Int)) 300001 := Zk.up ((Is.divq zx01 f1)) (by decide)
  have f4 : Zk (divq x0.c ((g4 x0.a x0.b x0.c x0.d : Nat) : Int)) 300001 := Zk.up ((Is.divq zx02 f1)) (by decide)
  have f5 : Zk (divq x0.d ((g4 x0.a x0.b x0.c x0.d : Nat) : Int)) 300001 := Zk.up ((Is.divq zx03 f1)) (by decide)
  exact SX.run (w := w) (List.flatten [[.bool x00, .string x01, .bool x02, .string x03, .bool x04, .string x05, .bool x06, .string x07, .int .i64 (cmpZ x0.a 0), .bool true, .int .i64 (cmpZ x0.b 0), .bool false], zc ((g4 x0.a x0.b x0.c x0.d : Nat) : Int), zc (divq x0.a ((g4 x0.a x0.b x0.c x0.d : Nat) : Int)), zc (divq x0.b ((g4 x0.a x0.b x0.c x0.d : Nat) : Int)), zc (divq x0.c ((g4 x0.a x0.b x0.c x0.d : Nat) : Int)), zc (divq x0.d ((g4 x0.a x0.b x0.c x0.d : Nat) : Int))]) [.b true, .b false] [.ga 0 8] 8 (.tup [.ga 14 8, .c (.p (.lit (.bool true)))]) [.call 44 [.ga 0 2] (.one (.ca 8)) [], .op2 false .eql (.pa 8) (.p (.lit (.int .i64 0))) 9, .isB 9 true, .call 44 [.ga 2 2] (.one (.ca 10)) [], .op2 false .eql (.pa 10) (.p (.lit (.int .i64 0))) 11, .isB 11 false, .call 46 [.c (.p (.slc 2 0 4 4))] (.one (.ga 12 2)) [(2049, .pa 0), (2050, .pa 1), (2051, .pa 2), (2052, .pa 3), (2053, .pa 4), (2054, .pa 5), (2055, .pa 6), (2056, .pa 7)], .call 71 [.ga 0 2, .ga 12 2] (.one (.ga 14 2)) [], .call 71 [.ga 2 2, .ga 12 2] (.one (.ga 16 2)) [], .call 71 [.ga 4 2, .ga 12 2] (.one (.ga 18 2)) [], .call 71 [.ga 6 2, .ga 12 2] (.one (.ga 20 2)) []] Tryz.func29 (by kernel_rfl) rfl (by kernel_rfl) rfl (by kernel_rfl)
    ⟨fun γ w' _ _ => jSign wx00 (by decide) w',
     congrArg (fun z => some (Value.bool z)) (by rw [cmpZ_eq0]; exact decide_eq_true h0 : ((cmpZ x0.a 0) == (0 : Int)) = true),
     rfl,
     fun γ w' _ _ => jSign wx01 (by decide) w',
     congrArg (fun z => some (Value.bool z)) (by rw [cmpZ_eq0]; exact decide_eq_false h1 : ((cmpZ x0.b 0) == (0 : Int)) = false),
     rfl,
     fun γ w' _ hm => by have h := refGcdZ_any (some ⟨γ 2, 0, none⟩) [(x00, x01), (x02, x03), (x04, x05), (x06, x07)] 4 4 w' rfl (by simp) hsz (rdz4 (hm 2049 _ rfl) (hm 2050 _ rfl) (hm 2051 _ rfl) (hm 2052 _ rfl) (hm 2053 _ rfl) (hm 2054 _ rfl) (hm 2055 _ rfl) (hm 2056 _ rfl)); rw [hg] at h; exact h,
     fun γ w' _ _ => v5part wx00 (by decide) (IsZ.can f1) (by decide) w',
     fun γ w' _ _ => v5part wx01 (by decide) (IsZ.can f1) (by decide) w',
     fun γ w' _ _ => v5part wx02 (by decide) (IsZ.can f1) (by decide) w',
     fun γ w' _ _ => v5part wx03 (by decide) (IsZ.can f1) (by decide) w'⟩
theorem v5Norm_2 {ux0 : Value} {x0 : Z4} {kx0 : Nat} (hx0 : IsF ux0 x0 kx0) (lx0 : kx0 ≤ 300000) (w : World) (h0 : x0.a = 0) (h1 : x0.b = 0) (h2 : x0.c ≠ 0) :
    Calls Tryz.prog 29 #[ux0] w fun e w' => e = .returned (.tuple #[FV ⟨divq x0.a ((g4 x0.a x0.b x0.c x0.d : Nat) : Int), divq x0.b ((g4 x0.a x0.b x0.c x0.d : Nat) : Int), divq x0.c ((g4 x0.a x0.b x0.c x0.d : Nat) : Int), divq x0.d ((g4 x0.a x0.b x0.c x0.d : Nat) : Int)⟩, .bool true]) ∧ Below w.heap.size w w' := by
  replace hx0 := hx0.up lx0
  have zx0 := hx0.sz
  obtain ⟨x00, x01, x02, x03, x04, x05, x06, x07, rfl, ex00, sx01, ex01, sx03, ex02, sx05, ex03, sx07⟩ := id hx0
  have wx00 : IsZ (.agg #[.bool x00, .string x01]) x0.a 300000 := ⟨x00, x01, rfl, ex00, sx01⟩
  have zx00 := wx00.sz
  have wx01 : IsZ (.agg #[.bool x02, .string x03]) x0.b 300000 := ⟨x02, x03, rfl, ex01, sx03⟩
  have zx01 := wx01.sz
  have wx02 : IsZ (.agg #[.bool x04, .string x05]) x0.c 300000 := ⟨x04, x05, rfl, ex02, sx05⟩
  have zx02 := wx02.sz
  have wx03 : IsZ (.agg #[.bool x06, .string x07]) x0.d 300000 := ⟨x06, x07, rfl, ex03, sx07⟩
  have zx03 := wx03.sz
  have hsz : ∀ x ∈ [(x00, x01), (x02, x03), (x04, x05), (x06, x07)], x.2.size ≤ 134217728 := by
    intro x hx
    simp only [List.mem_cons, List.not_mem_nil, or_false] at hx
    rcases hx with rfl | rfl | rfl | rfl <;> simp <;> omega
  have hg : gcdL [(x00, x01), (x02, x03), (x04, x05), (x06, x07)] = g4 x0.a x0.b x0.c x0.d := by
    show Nat.gcd (Nat.gcd (Nat.gcd (Nat.gcd 0 (nat x01)) (nat x03)) (nat x05)) (nat x07) = _
    rw [← gcd_last, ← ex00, ← ex01, ← ex02, ← ex03, abs_iv, abs_iv, abs_iv, abs_iv]
  have f1 : Zk ((g4 x0.a x0.b x0.c x0.d : Nat) : Int) 300000 := Zk.up ((g4_size zx0)) (by decide)
  have f2 : Zk (divq x0.a ((g4 x0.a x0.b x0.c x0.d : Nat) : Int)) 300001 := Zk.up ((Is.divq zx00 f1)) (by decide)
  have f3 : Zk (divq x0.b ((g4 x0.a x0.b x0.c x0.d : Nat) : Int)) 300001 := Zk.up ((Is.divq zx01 f1)) (by decide)
  have f4 : Zk (divq x0.c ((g4 x0.a x0.b x0.c x0.d : Nat) : Int)) 300001 := Zk.up ((Is.divq zx02 f1)) (by decide)
  have f5 : Zk (divq x0.d ((g4 x0.a x0.b x0.c x0.d : Nat) : Int)) 300001 := Zk.up ((Is.divq zx03 f1)) (by decide)
  exact SX.run (w := w) (List.flatten [[.bool x00, .string x01, .bool x02, .string x03, .bool x04, .string x05, .bool x06, .string x07, .int .i64 (cmpZ x0.a 0), .bool true, .int .i64 (cmpZ x0.b 0), .bool true, .int .i64 (cmpZ x0.c 0), .bool false], zc ((g4 x0.a x0.b x0.c x0.d : Nat) : Int), zc (divq x0.a ((g4 x0.a x0.b x0.c x0.d : Nat) : Int)), zc (divq x0.b ((g4 x0.a x0.b x0.c x0.d : Nat) : Int)), zc (divq x0.c ((g4 x0.a x0.b x0.c x0.d : Nat) : Int)), zc (divq x0.d ((g4 x0.a x0.b x0.c x0.d : Nat) : Int))]) [.b true, .b true, .b false] [.ga 0 8] 8 (.tup [.ga 16 8, .c (.p (.lit (.bool true)))]) [.call 44 [.ga 0 2] (.one (.ca 8)) [], .op2 false .eql (.pa 8) (.p (.lit (.int .i64 0))) 9, .isB 9 true, .call 44 [.ga 2 2] (.one (.ca 10)) [], .op2 false .eql (.pa 10) (.p (.lit (.int .i64 0))) 11, .isB 11 true, .call 44 [.ga 4 2] (.one (.ca 12)) [], .op2 false .eql (.pa 12) (.p (.lit (.int .i64 0))) 13, .isB 13 false, .call 46 [.c (.p (.slc 2 0 4 4))] (.one (.ga 14 2)) [(2049, .pa 0), (2050, .pa 1), (2051, .pa 2), (2052, .pa 3), (2053, .pa 4), (2054, .pa 5), (2055, .pa 6), (2056, .pa 7)], .call 71 [.ga 0 2, .ga 14 2] (.one (.ga 16 2)) [], .call 71 [.ga 2 2, .ga 14 2] (.one (.ga 18 2)) [], .call 71 [.ga 4 2, .ga 14 2] (.one (.ga 20 2)) [], .call 71 [.ga 6 2, .ga 14 2] (.one (.ga 22 2)) []] Tryz.func29 (by kernel_rfl) rfl (by kernel_rfl) rfl (by kernel_rfl)
    ⟨fun γ w' _ _ => jSign wx00 (by decide) w',
     congrArg (fun z => some (Value.bool z)) (by rw [cmpZ_eq0]; exact decide_eq_true h0 : ((cmpZ x0.a 0) == (0 : Int)) = true),
     rfl,
     fun γ w' _ _ => jSign wx01 (by decide) w',
     congrArg (fun z => some (Value.bool z)) (by rw [cmpZ_eq0]; exact decide_eq_true h1 : ((cmpZ x0.b 0) == (0 : Int)) = true),
     rfl,
     fun γ w' _ _ => jSign wx02 (by decide) w',
     congrArg (fun z => some (Value.bool z)) (by rw [cmpZ_eq0]; exact decide_eq_false h2 : ((cmpZ x0.c 0) == (0 : Int)) = false),
     rfl,
     fun γ w' _ hm => by have h := refGcdZ_any (some ⟨γ 2, 0, none⟩) [(x00, x01), (x02, x03), (x04, x05), (x06, x07)] 4 4 w' rfl (by simp) hsz (rdz4 (hm 2049 _ rfl) (hm 2050 _ rfl) (hm 2051 _ rfl) (hm 2052 _ rfl) (hm 2053 _ rfl) (hm 2054 _ rfl) (hm 2055 _ rfl) (hm 2056 _ rfl)); rw [hg] at h; exact h,
     fun γ w' _ _ => v5part wx00 (by decide) (IsZ.can f1) (by decide) w',
     fun γ w' _ _ => v5part wx01 (by decide) (IsZ.can f1) (by decide) w',
     fun γ w' _ _ => v5part wx02 (by decide) (IsZ.can f1) (by decide) w',
     fun γ w' _ _ => v5part wx03 (by decide) (IsZ.can f1) (by decide) w'⟩
theorem v5Norm_3 {ux0 : Value} {x0 : Z4} {kx0 : Nat} (hx0 : IsF ux0 x0 kx0) (lx0 : kx0 ≤ 300000) (w : World) (h0 : x0.a = 0) (h1 : x0.b = 0) (h2 : x0.c = 0) :
    Calls Tryz.prog 29 #[ux0] w fun e w' => e = .returned (.tuple #[.agg #[.bool false, .string ⟨#[]⟩, .bool false, .string ⟨#[]⟩, .bool false, .string ⟨#[]⟩, .bool false, .string ⟨#[]⟩], .bool false]) ∧ Below w.heap.size w w' := by
  replace hx0 := hx0.up lx0
  have zx0 := hx0.sz
  obtain ⟨x00, x01, x02, x03, x04, x05, x06, x07, rfl, ex00, sx01, ex01, sx03, ex02, sx05, ex03, sx07⟩ := id hx0
  have wx00 : IsZ (.agg #[.bool x00, .string x01]) x0.a 300000 := ⟨x00, x01, rfl, ex00, sx01⟩
  have zx00 := wx00.sz
  have wx01 : IsZ (.agg #[.bool x02, .string x03]) x0.b 300000 := ⟨x02, x03, rfl, ex01, sx03⟩
  have zx01 := wx01.sz
  have wx02 : IsZ (.agg #[.bool x04, .string x05]) x0.c 300000 := ⟨x04, x05, rfl, ex02, sx05⟩
  have zx02 := wx02.sz
  have wx03 : IsZ (.agg #[.bool x06, .string x07]) x0.d 300000 := ⟨x06, x07, rfl, ex03, sx07⟩
  have zx03 := wx03.sz
  exact SX.run (w := w) [.bool x00, .string x01, .bool x02, .string x03, .bool x04, .string x05, .bool x06, .string x07, .int .i64 (cmpZ x0.a 0), .bool true, .int .i64 (cmpZ x0.b 0), .bool true, .int .i64 (cmpZ x0.c 0), .bool true] [.b true, .b true, .b true] [.ga 0 8] 8 (.tup [.agg [.p (.lit (.bool false)), .p (.lit (.string ⟨#[]⟩)), .p (.lit (.bool false)), .p (.lit (.string ⟨#[]⟩)), .p (.lit (.bool false)), .p (.lit (.string ⟨#[]⟩)), .p (.lit (.bool false)), .p (.lit (.string ⟨#[]⟩))], .c (.p (.lit (.bool false)))]) [.call 44 [.ga 0 2] (.one (.ca 8)) [], .op2 false .eql (.pa 8) (.p (.lit (.int .i64 0))) 9, .isB 9 true, .call 44 [.ga 2 2] (.one (.ca 10)) [], .op2 false .eql (.pa 10) (.p (.lit (.int .i64 0))) 11, .isB 11 true, .call 44 [.ga 4 2] (.one (.ca 12)) [], .op2 false .eql (.pa 12) (.p (.lit (.int .i64 0))) 13, .isB 13 true] Tryz.func29 (by kernel_rfl) rfl (by kernel_rfl) rfl (by kernel_rfl)
    ⟨fun γ w' _ _ => jSign wx00 (by decide) w',
     congrArg (fun z => some (Value.bool z)) (by rw [cmpZ_eq0]; exact decide_eq_true h0 : ((cmpZ x0.a 0) == (0 : Int)) = true),
     rfl,
     fun γ w' _ _ => jSign wx01 (by decide) w',
     congrArg (fun z => some (Value.bool z)) (by rw [cmpZ_eq0]; exact decide_eq_true h1 : ((cmpZ x0.b 0) == (0 : Int)) = true),
     rfl,
     fun γ w' _ _ => jSign wx02 (by decide) w',
     congrArg (fun z => some (Value.bool z)) (by rw [cmpZ_eq0]; exact decide_eq_true h2 : ((cmpZ x0.c 0) == (0 : Int)) = true),
     rfl⟩
theorem v5Norm_any {u0 : Value} {x0 : Z4} {kx0 : Nat} (hx0 : IsF u0 x0 kx0) (lx0 : kx0 ≤ 300000) (w : World) :
    Calls Tryz.prog 29 #[u0] w fun e w' => e = .returned (normV x0) ∧ Below w.heap.size w w' := by
  unfold normV
  by_cases hf : flatF x0
  · rw [if_pos hf]; exact v5Norm_3 hx0 lx0 w hf.1 hf.2.1 hf.2.2
  · rw [if_neg hf, prim_divq (g4_flat hf)]
    by_cases h0 : x0.a = 0
    · by_cases h1 : x0.b = 0
      · exact v5Norm_2 hx0 lx0 w h0 h1 (fun h2 => hf ⟨h0, h1, h2⟩)
      · exact v5Norm_1 hx0 lx0 w h0 h1
    · exact v5Norm_0 hx0 lx0 w h0
theorem v5Make_f {ux0 : Value} {x0 : P3} {kx0 : Nat} (hx0 : IsV ux0 x0 kx0) (lx0 : kx0 ≤ 20000) {ux1 : Value} {x1 : Rat} {kx1 : Nat} (hx1 : IsQ ux1 x1 kx1) (lx1 : kx1 ≤ 20000) (w : World) (hf : flatQ (Q4.mk x0.x x0.y x0.z x1)) :
    Calls Tryz.prog 100 #[ux0, ux1] w fun e w' => e = .returned (.tuple #[.agg #[.bool false, .string ⟨#[]⟩, .bool false, .string ⟨#[]⟩, .bool false, .string ⟨#[]⟩, .bool false, .string ⟨#[]⟩], .bool false]) ∧ Below w.heap.size w w' := by
  replace hx0 := hx0.up lx0
  have zx0 := hx0.sz (by decide)
  obtain ⟨x00, x01, x02, x03, x04, x05, x06, x07, x08, rfl, ex00, sx01, sx02, ex01, sx04, sx05, ex02, sx07, sx08⟩ := id hx0
  have wx00 : IsQ (.agg #[.bool x00, .string x01, .string x02]) x0.x 20000 := ⟨x00, x01, x02, rfl, ex00, sx01, sx02⟩
  have zx00 := wx00.sz (by decide)
  have wx01 : IsQ (.agg #[.bool x03, .string x04, .string x05]) x0.y 20000 := ⟨x03, x04, x05, rfl, ex01, sx04, sx05⟩
  have zx01 := wx01.sz (by decide)
  have wx02 : IsQ (.agg #[.bool x06, .string x07, .string x08]) x0.z 20000 := ⟨x06, x07, x08, rfl, ex02, sx07, sx08⟩
  have zx02 := wx02.sz (by decide)
  replace hx1 := hx1.up lx1
  have zx1 := hx1.sz (by decide)
  obtain ⟨x10, x11, x12, rfl, ex10, sx11, sx12⟩ := id hx1
  have f1 : Zk (1 : Int) 8 := mg_size_le (k := 8) (by first | decide | omega)
  have f2 : Zk x0.x.num 20000 := Zk.up (zx00.1) (by decide)
  have f3 : Zk (x0.x.den : Int) 20000 := Zk.up (zx00.2) (by decide)
  have f4 : Zk ((1 : Int) * (x0.x.den : Int)) 20008 := Zk.up (mg_mul_size f1 f3) (by decide)
  have f5 : Zk x0.y.num 20000 := Zk.up (zx01.1) (by decide)
  have f6 : Zk (x0.y.den : Int) 20000 := Zk.up (zx01.2) (by decide)
  have f7 : Zk (((1 : Int) * (x0.x.den : Int)) * (x0.y.den : Int)) 40008 := Zk.up (mg_mul_size f4 f6) (by decide)
  have f8 : Zk x0.z.num 20000 := Zk.up (zx02.1) (by decide)
  have f9 : Zk (x0.z.den : Int) 20000 := Zk.up (zx02.2) (by decide)
  have f10 : Zk ((((1 : Int) * (x0.x.den : Int)) * (x0.y.den : Int)) * (x0.z.den : Int)) 60008 := Zk.up (mg_mul_size f7 f9) (by decide)
  have f11 : Zk x1.num 20000 := Zk.up (zx1.1) (by decide)
  have f12 : Zk (x1.den : Int) 20000 := Zk.up (zx1.2) (by decide)
  have f13 : Zk (((((1 : Int) * (x0.x.den : Int)) * (x0.y.den : Int)) * (x0.z.den : Int)) * (x1.den : Int)) 80008 := Zk.up (mg_mul_size f10 f12) (by decide)
  have f14 : Zk (divq (((((1 : Int) * (x0.x.den : Int)) * (x0.y.den : Int)) * (x0.z.den : Int)) * (x1.den : Int)) (x0.x.den : Int)) 80009 := Zk.up (Is.divq f13 f3) (by decide)
  have f15 : Zk (divr (((((1 : Int) * (x0.x.den : Int)) * (x0.y.den : Int)) * (x0.z.den : Int)) * (x1.den : Int)) (x0.x.den : Int)) 80009 := Zk.up (Is.divr f13 f3) (by decide)
  have f16 : Zk (x0.x.num * (divq (((((1 : Int) * (x0.x.den : Int)) * (x0.y.den : Int)) * (x0.z.den : Int)) * (x1.den : Int)) (x0.x.den : Int))) 100009 := Zk.up (mg_mul_size f2 f14) (by decide)
  have f17 : Zk (divq (((((1 : Int) * (x0.x.den : Int)) * (x0.y.den : Int)) * (x0.z.den : Int)) * (x1.den : Int)) (x0.y.den : Int)) 80009 := Zk.up (Is.divq f13 f6) (by decide)
  have f18 : Zk (divr (((((1 : Int) * (x0.x.den : Int)) * (x0.y.den : Int)) * (x0.z.den : Int)) * (x1.den : Int)) (x0.y.den : Int)) 80009 := Zk.up (Is.divr f13 f6) (by decide)
  have f19 : Zk (x0.y.num * (divq (((((1 : Int) * (x0.x.den : Int)) * (x0.y.den : Int)) * (x0.z.den : Int)) * (x1.den : Int)) (x0.y.den : Int))) 100009 := Zk.up (mg_mul_size f5 f17) (by decide)
  have f20 : Zk (divq (((((1 : Int) * (x0.x.den : Int)) * (x0.y.den : Int)) * (x0.z.den : Int)) * (x1.den : Int)) (x0.z.den : Int)) 80009 := Zk.up (Is.divq f13 f9) (by decide)
  have f21 : Zk (divr (((((1 : Int) * (x0.x.den : Int)) * (x0.y.den : Int)) * (x0.z.den : Int)) * (x1.den : Int)) (x0.z.den : Int)) 80009 := Zk.up (Is.divr f13 f9) (by decide)
  have f22 : Zk (x0.z.num * (divq (((((1 : Int) * (x0.x.den : Int)) * (x0.y.den : Int)) * (x0.z.den : Int)) * (x1.den : Int)) (x0.z.den : Int))) 100009 := Zk.up (mg_mul_size f8 f20) (by decide)
  have f23 : Zk (divq (((((1 : Int) * (x0.x.den : Int)) * (x0.y.den : Int)) * (x0.z.den : Int)) * (x1.den : Int)) (x1.den : Int)) 80009 := Zk.up (Is.divq f13 f12) (by decide)
  have f24 : Zk (divr (((((1 : Int) * (x0.x.den : Int)) * (x0.y.den : Int)) * (x0.z.den : Int)) * (x1.den : Int)) (x1.den : Int)) 80009 := Zk.up (Is.divr f13 f12) (by decide)
  have f25 : Zk (x1.num * (divq (((((1 : Int) * (x0.x.den : Int)) * (x0.y.den : Int)) * (x0.z.den : Int)) * (x1.den : Int)) (x1.den : Int))) 100009 := Zk.up (mg_mul_size f11 f23) (by decide)
  exact SX.run (w := w) (List.flatten [[.bool x00, .string x01, .string x02, .bool x03, .string x04, .string x05, .bool x06, .string x07, .string x08, .bool x10, .string x11, .string x12], zc (1 : Int), zc x0.x.num, zc (x0.x.den : Int), zc ((1 : Int) * (x0.x.den : Int)), zc x0.y.num, zc (x0.y.den : Int), zc (((1 : Int) * (x0.x.den : Int)) * (x0.y.den : Int)), zc x0.z.num, zc (x0.z.den : Int), zc ((((1 : Int) * (x0.x.den : Int)) * (x0.y.den : Int)) * (x0.z.den : Int)), zc x1.num, zc (x1.den : Int), zc (((((1 : Int) * (x0.x.den : Int)) * (x0.y.den : Int)) * (x0.z.den : Int)) * (x1.den : Int)), zc x0.x.num, zc (x0.x.den : Int), zc (divq (((((1 : Int) * (x0.x.den : Int)) * (x0.y.den : Int)) * (x0.z.den : Int)) * (x1.den : Int)) (x0.x.den : Int)), zc (divr (((((1 : Int) * (x0.x.den : Int)) * (x0.y.den : Int)) * (x0.z.den : Int)) * (x1.den : Int)) (x0.x.den : Int)), [.bool (decide ((x0.x.den : Int) ≠ 0))], zc (x0.x.num * (divq (((((1 : Int) * (x0.x.den : Int)) * (x0.y.den : Int)) * (x0.z.den : Int)) * (x1.den : Int)) (x0.x.den : Int))), zc x0.y.num, zc (x0.y.den : Int), zc (divq (((((1 : Int) * (x0.x.den : Int)) * (x0.y.den : Int)) * (x0.z.den : Int)) * (x1.den : Int)) (x0.y.den : Int)), zc (divr (((((1 : Int) * (x0.x.den : Int)) * (x0.y.den : Int)) * (x0.z.den : Int)) * (x1.den : Int)) (x0.y.den : Int)), [.bool (decide ((x0.y.den : Int) ≠ 0))], zc (x0.y.num * (divq (((((1 : Int) * (x0.x.den : Int)) * (x0.y.den : Int)) * (x0.z.den : Int)) * (x1.den : Int)) (x0.y.den : Int))), zc x0.z.num, zc (x0.z.den : Int), zc (divq (((((1 : Int) * (x0.x.den : Int)) * (x0.y.den : Int)) * (x0.z.den : Int)) * (x1.den : Int)) (x0.z.den : Int)), zc (divr (((((1 : Int) * (x0.x.den : Int)) * (x0.y.den : Int)) * (x0.z.den : Int)) * (x1.den : Int)) (x0.z.den : Int)), [.bool (decide ((x0.z.den : Int) ≠ 0))], zc (x0.z.num * (divq (((((1 : Int) * (x0.x.den : Int)) * (x0.y.den : Int)) * (x0.z.den : Int)) * (x1.den : Int)) (x0.z.den : Int))), zc x1.num, zc (x1.den : Int), zc (divq (((((1 : Int) * (x0.x.den : Int)) * (x0.y.den : Int)) * (x0.z.den : Int)) * (x1.den : Int)) (x1.den : Int)), zc (divr (((((1 : Int) * (x0.x.den : Int)) * (x0.y.den : Int)) * (x0.z.den : Int)) * (x1.den : Int)) (x1.den : Int)), [.bool (decide ((x1.den : Int) ≠ 0))], zc (x1.num * (divq (((((1 : Int) * (x0.x.den : Int)) * (x0.y.den : Int)) * (x0.z.den : Int)) * (x1.den : Int)) (x1.den : Int))), [.bool false, .string ⟨#[]⟩, .bool false, .string ⟨#[]⟩, .bool false, .string ⟨#[]⟩, .bool false, .string ⟨#[]⟩, .bool false]]) [] [.ga 0 9, .ga 9 3] 12 (.tup [.ga 82 8, .ca 90]) [.call 45 [.c (.p (.lit (.int .i64 1)))] (.one (.ga 12 2)) [], .call 81 [.ga 0 3] (.tup [.ga 14 2, .ga 16 2]) [], .call 79 [.ga 12 2, .ga 16 2] (.one (.ga 18 2)) [], .call 81 [.ga 3 3] (.tup [.ga 20 2, .ga 22 2]) [], .call 79 [.ga 18 2, .ga 22 2] (.one (.ga 24 2)) [], .call 81 [.ga 6 3] (.tup [.ga 26 2, .ga 28 2]) [], .call 79 [.ga 24 2, .ga 28 2] (.one (.ga 30 2)) [], .call 81 [.ga 9 3] (.tup [.ga 32 2, .ga 34 2]) [], .call 79 [.ga 30 2, .ga 34 2] (.one (.ga 36 2)) [], .call 81 [.ga 0 3] (.tup [.ga 38 2, .ga 40 2]) [], .call 48 [.ga 36 2, .ga 40 2] (.tup [.ga 42 2, .ga 44 2, .ca 46]) [], .call 79 [.ga 38 2, .ga 42 2] (.one (.ga 47 2)) [], .call 81 [.ga 3 3] (.tup [.ga 49 2, .ga 51 2]) [], .call 48 [.ga 36 2, .ga 51 2] (.tup [.ga 53 2, .ga 55 2, .ca 57]) [], .call 79 [.ga 49 2, .ga 53 2] (.one (.ga 58 2)) [], .call 81 [.ga 6 3] (.tup [.ga 60 2, .ga 62 2]) [], .call 48 [.ga 36 2, .ga 62 2] (.tup [.ga 64 2, .ga 66 2, .ca 68]) [], .call 79 [.ga 60 2, .ga 64 2] (.one (.ga 69 2)) [], .call 81 [.ga 9 3] (.tup [.ga 71 2, .ga 73 2]) [], .call 48 [.ga 36 2, .ga 73 2] (.tup [.ga 75 2, .ga 77 2, .ca 79]) [], .call 79 [.ga 71 2, .ga 75 2] (.one (.ga 80 2)) [], .call 29 [.agg [.pa 47, .pa 48, .pa 58, .pa 59, .pa 69, .pa 70, .pa 80, .pa 81]] (.tup [.ga 82 8, .ca 90]) []] Tryz.func100 (by kernel_rfl) rfl (by kernel_rfl) rfl (by kernel_rfl)
    ⟨fun γ w' _ _ => From_any 1 w' (by first | decide | omega) (by first | decide | omega),
     fun γ w' _ _ => rParts wx00 (by decide) w',
     fun γ w' _ _ => jMul (IsZ.can f1) (by decide) (IsZ.can f3) (by decide) w',
     fun γ w' _ _ => rParts wx01 (by decide) w',
     fun γ w' _ _ => jMul (IsZ.can f4) (by decide) (IsZ.can f6) (by decide) w',
     fun γ w' _ _ => rParts wx02 (by decide) w',
     fun γ w' _ _ => jMul (IsZ.can f7) (by decide) (IsZ.can f9) (by decide) w',
     fun γ w' _ _ => rParts hx1 (by decide) w',
     fun γ w' _ _ => jMul (IsZ.can f10) (by decide) (IsZ.can f12) (by decide) w',
     fun γ w' _ _ => rParts wx00 (by decide) w',
     fun γ w' _ _ => jDiv (IsZ.can f13) (by decide) (IsZ.can f3) (by decide) w',
     fun γ w' _ _ => jMul (IsZ.can f2) (by decide) (IsZ.can f14) (by decide) w',
     fun γ w' _ _ => rParts wx01 (by decide) w',
     fun γ w' _ _ => jDiv (IsZ.can f13) (by decide) (IsZ.can f6) (by decide) w',
     fun γ w' _ _ => jMul (IsZ.can f5) (by decide) (IsZ.can f17) (by decide) w',
     fun γ w' _ _ => rParts wx02 (by decide) w',
     fun γ w' _ _ => jDiv (IsZ.can f13) (by decide) (IsZ.can f9) (by decide) w',
     fun γ w' _ _ => jMul (IsZ.can f8) (by decide) (IsZ.can f20) (by decide) w',
     fun γ w' _ _ => rParts hx1 (by decide) w',
     fun γ w' _ _ => jDiv (IsZ.can f13) (by decide) (IsZ.can f12) (by decide) w',
     fun γ w' _ _ => jMul (IsZ.can f11) (by decide) (IsZ.can f23) (by decide) w',
     fun γ w' _ _ => by have h := v5Norm_any (IsF.mk (IsZ.can f16) (IsZ.can f19) (IsZ.can f22) (IsZ.can f25)) (by decide) w'; rw [mkQ_prog x0 x1, norm_hom (denQ_pos _) (toQ_hom _), planeV, if_pos hf] at h; exact h⟩
theorem v5Make_n {ux0 : Value} {x0 : P3} {kx0 : Nat} (hx0 : IsV ux0 x0 kx0) (lx0 : kx0 ≤ 20000) {ux1 : Value} {x1 : Rat} {kx1 : Nat} (hx1 : IsQ ux1 x1 kx1) (lx1 : kx1 ≤ 20000) (w : World) (hf : ¬ flatQ (Q4.mk x0.x x0.y x0.z x1)) :
    Calls Tryz.prog 100 #[ux0, ux1] w fun e w' => e = .returned (.tuple #[FV (canQ (Q4.mk x0.x x0.y x0.z x1)), .bool true]) ∧ Below w.heap.size w w' := by
  replace hx0 := hx0.up lx0
  have zx0 := hx0.sz (by decide)
  obtain ⟨x00, x01, x02, x03, x04, x05, x06, x07, x08, rfl, ex00, sx01, sx02, ex01, sx04, sx05, ex02, sx07, sx08⟩ := id hx0
  have wx00 : IsQ (.agg #[.bool x00, .string x01, .string x02]) x0.x 20000 := ⟨x00, x01, x02, rfl, ex00, sx01, sx02⟩
  have zx00 := wx00.sz (by decide)
  have wx01 : IsQ (.agg #[.bool x03, .string x04, .string x05]) x0.y 20000 := ⟨x03, x04, x05, rfl, ex01, sx04, sx05⟩
  have zx01 := wx01.sz (by decide)
  have wx02 : IsQ (.agg #[.bool x06, .string x07, .string x08]) x0.z 20000 := ⟨x06, x07, x08, rfl, ex02, sx07, sx08⟩
  have zx02 := wx02.sz (by decide)
  replace hx1 := hx1.up lx1
  have zx1 := hx1.sz (by decide)
  obtain ⟨x10, x11, x12, rfl, ex10, sx11, sx12⟩ := id hx1
  have f1 : Zk (1 : Int) 8 := mg_size_le (k := 8) (by first | decide | omega)
  have f2 : Zk x0.x.num 20000 := Zk.up (zx00.1) (by decide)
  have f3 : Zk (x0.x.den : Int) 20000 := Zk.up (zx00.2) (by decide)
  have f4 : Zk ((1 : Int) * (x0.x.den : Int)) 20008 := Zk.up (mg_mul_size f1 f3) (by decide)
  have f5 : Zk x0.y.num 20000 := Zk.up (zx01.1) (by decide)
  have f6 : Zk (x0.y.den : Int) 20000 := Zk.up (zx01.2) (by decide)
  have f7 : Zk (((1 : Int) * (x0.x.den : Int)) * (x0.y.den : Int)) 40008 := Zk.up (mg_mul_size f4 f6) (by decide)
  have f8 : Zk x0.z.num 20000 := Zk.up (zx02.1) (by decide)
  have f9 : Zk (x0.z.den : Int) 20000 := Zk.up (zx02.2) (by decide)
  have f10 : Zk ((((1 : Int) * (x0.x.den : Int)) * (x0.y.den : Int)) * (x0.z.den : Int)) 60008 := Zk.up (mg_mul_size f7 f9) (by decide)
  have f11 : Zk x1.num 20000 := Zk.up (zx1.1) (by decide)
  have f12 : Zk (x1.den : Int) 20000 := Zk.up (zx1.2) (by decide)
  have f13 : Zk (((((1 : Int) * (x0.x.den : Int)) * (x0.y.den : Int)) * (x0.z.den : Int)) * (x1.den : Int)) 80008 := Zk.up (mg_mul_size f10 f12) (by decide)
  have f14 : Zk (divq (((((1 : Int) * (x0.x.den : Int)) * (x0.y.den : Int)) * (x0.z.den : Int)) * (x1.den : Int)) (x0.x.den : Int)) 80009 := Zk.up (Is.divq f13 f3) (by decide)
  have f15 : Zk (divr (((((1 : Int) * (x0.x.den : Int)) * (x0.y.den : Int)) * (x0.z.den : Int)) * (x1.den : Int)) (x0.x.den : Int)) 80009 := Zk.up (Is.divr f13 f3) (by decide)
  have f16 : Zk (x0.x.num * (divq (((((1 : Int) * (x0.x.den : Int)) * (x0.y.den : Int)) * (x0.z.den : Int)) * (x1.den : Int)) (x0.x.den : Int))) 100009 := Zk.up (mg_mul_size f2 f14) (by decide)
  have f17 : Zk (divq (((((1 : Int) * (x0.x.den : Int)) * (x0.y.den : Int)) * (x0.z.den : Int)) * (x1.den : Int)) (x0.y.den : Int)) 80009 := Zk.up (Is.divq f13 f6) (by decide)
  have f18 : Zk (divr (((((1 : Int) * (x0.x.den : Int)) * (x0.y.den : Int)) * (x0.z.den : Int)) * (x1.den : Int)) (x0.y.den : Int)) 80009 := Zk.up (Is.divr f13 f6) (by decide)
  have f19 : Zk (x0.y.num * (divq (((((1 : Int) * (x0.x.den : Int)) * (x0.y.den : Int)) * (x0.z.den : Int)) * (x1.den : Int)) (x0.y.den : Int))) 100009 := Zk.up (mg_mul_size f5 f17) (by decide)
  have f20 : Zk (divq (((((1 : Int) * (x0.x.den : Int)) * (x0.y.den : Int)) * (x0.z.den : Int)) * (x1.den : Int)) (x0.z.den : Int)) 80009 := Zk.up (Is.divq f13 f9) (by decide)
  have f21 : Zk (divr (((((1 : Int) * (x0.x.den : Int)) * (x0.y.den : Int)) * (x0.z.den : Int)) * (x1.den : Int)) (x0.z.den : Int)) 80009 := Zk.up (Is.divr f13 f9) (by decide)
  have f22 : Zk (x0.z.num * (divq (((((1 : Int) * (x0.x.den : Int)) * (x0.y.den : Int)) * (x0.z.den : Int)) * (x1.den : Int)) (x0.z.den : Int))) 100009 := Zk.up (mg_mul_size f8 f20) (by decide)
  have f23 : Zk (divq (((((1 : Int) * (x0.x.den : Int)) * (x0.y.den : Int)) * (x0.z.den : Int)) * (x1.den : Int)) (x1.den : Int)) 80009 := Zk.up (Is.divq f13 f12) (by decide)
  have f24 : Zk (divr (((((1 : Int) * (x0.x.den : Int)) * (x0.y.den : Int)) * (x0.z.den : Int)) * (x1.den : Int)) (x1.den : Int)) 80009 := Zk.up (Is.divr f13 f12) (by decide)
  have f25 : Zk (x1.num * (divq (((((1 : Int) * (x0.x.den : Int)) * (x0.y.den : Int)) * (x0.z.den : Int)) * (x1.den : Int)) (x1.den : Int))) 100009 := Zk.up (mg_mul_size f11 f23) (by decide)
  exact SX.run (w := w) (List.flatten [[.bool x00, .string x01, .string x02, .bool x03, .string x04, .string x05, .bool x06, .string x07, .string x08, .bool x10, .string x11, .string x12], zc (1 : Int), zc x0.x.num, zc (x0.x.den : Int), zc ((1 : Int) * (x0.x.den : Int)), zc x0.y.num, zc (x0.y.den : Int), zc (((1 : Int) * (x0.x.den : Int)) * (x0.y.den : Int)), zc x0.z.num, zc (x0.z.den : Int), zc ((((1 : Int) * (x0.x.den : Int)) * (x0.y.den : Int)) * (x0.z.den : Int)), zc x1.num, zc (x1.den : Int), zc (((((1 : Int) * (x0.x.den : Int)) * (x0.y.den : Int)) * (x0.z.den : Int)) * (x1.den : Int)), zc x0.x.num, zc (x0.x.den : Int), zc (divq (((((1 : Int) * (x0.x.den : Int)) * (x0.y.den : Int)) * (x0.z.den : Int)) * (x1.den : Int)) (x0.x.den : Int)), zc (divr (((((1 : Int) * (x0.x.den : Int)) * (x0.y.den : Int)) * (x0.z.den : Int)) * (x1.den : Int)) (x0.x.den : Int)), [.bool (decide ((x0.x.den : Int) ≠ 0))], zc (x0.x.num * (divq (((((1 : Int) * (x0.x.den : Int)) * (x0.y.den : Int)) * (x0.z.den : Int)) * (x1.den : Int)) (x0.x.den : Int))), zc x0.y.num, zc (x0.y.den : Int), zc (divq (((((1 : Int) * (x0.x.den : Int)) * (x0.y.den : Int)) * (x0.z.den : Int)) * (x1.den : Int)) (x0.y.den : Int)), zc (divr (((((1 : Int) * (x0.x.den : Int)) * (x0.y.den : Int)) * (x0.z.den : Int)) * (x1.den : Int)) (x0.y.den : Int)), [.bool (decide ((x0.y.den : Int) ≠ 0))], zc (x0.y.num * (divq (((((1 : Int) * (x0.x.den : Int)) * (x0.y.den : Int)) * (x0.z.den : Int)) * (x1.den : Int)) (x0.y.den : Int))), zc x0.z.num, zc (x0.z.den : Int), zc (divq (((((1 : Int) * (x0.x.den : Int)) * (x0.y.den : Int)) * (x0.z.den : Int)) * (x1.den : Int)) (x0.z.den : Int)), zc (divr (((((1 : Int) * (x0.x.den : Int)) * (x0.y.den : Int)) * (x0.z.den : Int)) * (x1.den : Int)) (x0.z.den : Int)), [.bool (decide ((x0.z.den : Int) ≠ 0))], zc (x0.z.num * (divq (((((1 : Int) * (x0.x.den : Int)) * (x0.y.den : Int)) * (x0.z.den : Int)) * (x1.den : Int)) (x0.z.den : Int))), zc x1.num, zc (x1.den : Int), zc (divq (((((1 : Int) * (x0.x.den : Int)) * (x0.y.den : Int)) * (x0.z.den : Int)) * (x1.den : Int)) (x1.den : Int)), zc (divr (((((1 : Int) * (x0.x.den : Int)) * (x0.y.den : Int)) * (x0.z.den : Int)) * (x1.den : Int)) (x1.den : Int)), [.bool (decide ((x1.den : Int) ≠ 0))], zc (x1.num * (divq (((((1 : Int) * (x0.x.den : Int)) * (x0.y.den : Int)) * (x0.z.den : Int)) * (x1.den : Int)) (x1.den : Int))), fc (canQ (Q4.mk x0.x x0.y x0.z x1)), [.bool true]]) [] [.ga 0 9, .ga 9 3] 12 (.tup [.ga 82 8, .ca 90]) [.call 45 [.c (.p (.lit (.int .i64 1)))] (.one (.ga 12 2)) [], .call 81 [.ga 0 3] (.tup [.ga 14 2, .ga 16 2]) [], .call 79 [.ga 12 2, .ga 16 2] (.one (.ga 18 2)) [], .call 81 [.ga 3 3] (.tup [.ga 20 2, .ga 22 2]) [], .call 79 [.ga 18 2, .ga 22 2] (.one (.ga 24 2)) [], .call 81 [.ga 6 3] (.tup [.ga 26 2, .ga 28 2]) [], .call 79 [.ga 24 2, .ga 28 2] (.one (.ga 30 2)) [], .call 81 [.ga 9 3] (.tup [.ga 32 2, .ga 34 2]) [], .call 79 [.ga 30 2, .ga 34 2] (.one (.ga 36 2)) [], .call 81 [.ga 0 3] (.tup [.ga 38 2, .ga 40 2]) [], .call 48 [.ga 36 2, .ga 40 2] (.tup [.ga 42 2, .ga 44 2, .ca 46]) [], .call 79 [.ga 38 2, .ga 42 2] (.one (.ga 47 2)) [], .call 81 [.ga 3 3] (.tup [.ga 49 2, .ga 51 2]) [], .call 48 [.ga 36 2, .ga 51 2] (.tup [.ga 53 2, .ga 55 2, .ca 57]) [], .call 79 [.ga 49 2, .ga 53 2] (.one (.ga 58 2)) [], .call 81 [.ga 6 3] (.tup [.ga 60 2, .ga 62 2]) [], .call 48 [.ga 36 2, .ga 62 2] (.tup [.ga 64 2, .ga 66 2, .ca 68]) [], .call 79 [.ga 60 2, .ga 64 2] (.one (.ga 69 2)) [], .call 81 [.ga 9 3] (.tup [.ga 71 2, .ga 73 2]) [], .call 48 [.ga 36 2, .ga 73 2] (.tup [.ga 75 2, .ga 77 2, .ca 79]) [], .call 79 [.ga 71 2, .ga 75 2] (.one (.ga 80 2)) [], .call 29 [.agg [.pa 47, .pa 48, .pa 58, .pa 59, .pa 69, .pa 70, .pa 80, .pa 81]] (.tup [.ga 82 8, .ca 90]) []] Tryz.func100 (by kernel_rfl) rfl (by kernel_rfl) rfl (by kernel_rfl)
    ⟨fun γ w' _ _ => From_any 1 w' (by first | decide | omega) (by first | decide | omega),
     fun γ w' _ _ => rParts wx00 (by decide) w',
     fun γ w' _ _ => jMul (IsZ.can f1) (by decide) (IsZ.can f3) (by decide) w',
     fun γ w' _ _ => rParts wx01 (by decide) w',
     fun γ w' _ _ => jMul (IsZ.can f4) (by decide) (IsZ.can f6) (by decide) w',
     fun γ w' _ _ => rParts wx02 (by decide) w',
     fun γ w' _ _ => jMul (IsZ.can f7) (by decide) (IsZ.can f9) (by decide) w',
     fun γ w' _ _ => rParts hx1 (by decide) w',
     fun γ w' _ _ => jMul (IsZ.can f10) (by decide) (IsZ.can f12) (by decide) w',
     fun γ w' _ _ => rParts wx00 (by decide) w',
     fun γ w' _ _ => jDiv (IsZ.can f13) (by decide) (IsZ.can f3) (by decide) w',
     fun γ w' _ _ => jMul (IsZ.can f2) (by decide) (IsZ.can f14) (by decide) w',
     fun γ w' _ _ => rParts wx01 (by decide) w',
     fun γ w' _ _ => jDiv (IsZ.can f13) (by decide) (IsZ.can f6) (by decide) w',
     fun γ w' _ _ => jMul (IsZ.can f5) (by decide) (IsZ.can f17) (by decide) w',
     fun γ w' _ _ => rParts wx02 (by decide) w',
     fun γ w' _ _ => jDiv (IsZ.can f13) (by decide) (IsZ.can f9) (by decide) w',
     fun γ w' _ _ => jMul (IsZ.can f8) (by decide) (IsZ.can f20) (by decide) w',
     fun γ w' _ _ => rParts hx1 (by decide) w',
     fun γ w' _ _ => jDiv (IsZ.can f13) (by decide) (IsZ.can f12) (by decide) w',
     fun γ w' _ _ => jMul (IsZ.can f11) (by decide) (IsZ.can f23) (by decide) w',
     fun γ w' _ _ => by have h := v5Norm_any (IsF.mk (IsZ.can f16) (IsZ.can f19) (IsZ.can f22) (IsZ.can f25)) (by decide) w'; rw [mkQ_prog x0 x1, norm_hom (denQ_pos _) (toQ_hom _), planeV, if_neg hf] at h; exact h⟩
theorem v5Make_any {ux0 : Value} {x0 : P3} {kx0 : Nat} (hx0 : IsV ux0 x0 kx0) (lx0 : kx0 ≤ 20000) {ux1 : Value} {x1 : Rat} {kx1 : Nat} (hx1 : IsQ ux1 x1 kx1) (lx1 : kx1 ≤ 20000) (w : World) :
    Calls Tryz.prog 100 #[ux0, ux1] w fun e w' => e = .returned (planeV (Q4.mk x0.x x0.y x0.z x1)) ∧ Below w.heap.size w w' := by
  unfold planeV
  by_cases hf : flatQ (Q4.mk x0.x x0.y x0.z x1)
  · rw [if_pos hf]; exact v5Make_f hx0 lx0 hx1 lx1 w hf
  · rw [if_neg hf]; exact v5Make_n hx0 lx0 hx1 lx1 w hf
theorem v5Through_f {ux0 : Value} {x0 : P3} {kx0 : Nat} (hx0 : IsP ux0 x0 kx0) (lx0 : kx0 ≤ 300) {ux1 : Value} {x1 : P3} {kx1 : Nat} (hx1 : IsP ux1 x1 kx1) (lx1 : kx1 ≤ 300) {ux2 : Value} {x2 : P3} {kx2 : Nat} (hx2 : IsP ux2 x2 kx2) (lx2 : kx2 ≤ 300) (w : World) (hf : flatQ (thrQ x0 x1 x2)) :
    Calls Tryz.prog 58 #[ux0, ux1, ux2] w fun e w' => e = .returned (.tuple #[.agg #[.bool false, .string ⟨#[]⟩, .bool false, .string ⟨#[]⟩, .bool false, .string ⟨#[]⟩, .bool false, .string ⟨#[]⟩], .bool false]) ∧ Below w.heap.size w w' := by
  replace hx0 := hx0.up lx0
  have zx0 := hx0.sz (by decide)
  obtain ⟨x0q, hx0q, ex0⟩ := id hx0
  obtain ⟨x00, x01, x02, x03, x04, x05, x06, x07, rfl, ex00, sx01, ex01, sx03, ex02, sx05, ex03, sx07⟩ := id hx0q
  have wx00 : IsZ (.agg #[.bool x00, .string x01]) x0q.a 300 := ⟨x00, x01, rfl, ex00, sx01⟩
  have zx00 := wx00.sz
  have wx01 : IsZ (.agg #[.bool x02, .string x03]) x0q.b 300 := ⟨x02, x03, rfl, ex01, sx03⟩
  have zx01 := wx01.sz
  have wx02 : IsZ (.agg #[.bool x04, .string x05]) x0q.c 300 := ⟨x04, x05, rfl, ex02, sx05⟩
  have zx02 := wx02.sz
  have wx03 : IsZ (.agg #[.bool x06, .string x07]) x0q.d 300 := ⟨x06, x07, rfl, ex03, sx07⟩
  have zx03 := wx03.sz
  replace hx1 := hx1.up lx1
  have zx1 := hx1.sz (by decide)
  obtain ⟨x1q, hx1q, ex1⟩ := id hx1
  obtain ⟨x10, x11, x12, x13, x14, x15, x16, x17, rfl, ex10, sx11, ex11, sx13, ex12, sx15, ex13, sx17⟩ := id hx1q
  have wx10 : IsZ (.agg #[.bool x10, .string x11]) x1q.a 300 := ⟨x10, x11, rfl, ex10, sx11⟩
  have zx10 := wx10.sz
  have wx11 : IsZ (.agg #[.bool x12, .string x13]) x1q.b 300 := ⟨x12, x13, rfl, ex11, sx13⟩
  have zx11 := wx11.sz
  have wx12 : IsZ (.agg #[.bool x14, .string x15]) x1q.c 300 := ⟨x14, x15, rfl, ex12, sx15⟩
  have zx12 := wx12.sz
  have wx13 : IsZ (.agg #[.bool x16, .string x17]) x1q.d 300 := ⟨x16, x17, rfl, ex13, sx17⟩
  have zx13 := wx13.sz
  replace hx2 := hx2.up lx2
  have zx2 := hx2.sz (by decide)
  obtain ⟨x2q, hx2q, ex2⟩ := id hx2
  obtain ⟨x20, x21, x22, x23, x24, x25, x26, x27, rfl, ex20, sx21, ex21, sx23, ex22, sx25, ex23, sx27⟩ := id hx2q
  have wx20 : IsZ (.agg #[.bool x20, .string x21]) x2q.a 300 := ⟨x20, x21, rfl, ex20, sx21⟩
  have zx20 := wx20.sz
  have wx21 : IsZ (.agg #[.bool x22, .string x23]) x2q.b 300 := ⟨x22, x23, rfl, ex21, sx23⟩
  have zx21 := wx21.sz
  have wx22 : IsZ (.agg #[.bool x24, .string x25]) x2q.c 300 := ⟨x24, x25, rfl, ex22, sx25⟩
  have zx22 := wx22.sz
  have wx23 : IsZ (.agg #[.bool x26, .string x27]) x2q.d 300 := ⟨x26, x27, rfl, ex23, sx27⟩
  have zx23 := wx23.sz
  have f1 : Vk x0 300 := Vk.up ((Vk.ofP1 zx0)) (by decide)
  have f2 : Vk x1 300 := Vk.up ((Vk.ofP1 zx1)) (by decide)
  have f3 : Vk x2 300 := Vk.up ((Vk.ofP1 zx2)) (by decide)
  have f4 : Vk (P3.mk (x1.x - x0.x) (x1.y - x0.y) (x1.z - x0.z)) 601 := Vk.up (⟨Rk.sub f2.1 f1.1, Rk.sub f2.2.1 f1.2.1, Rk.sub f2.2.2 f1.2.2⟩) (by decide)
  have f5 : Vk (P3.mk (x2.x - x0.x) (x2.y - x0.y) (x2.z - x0.z)) 601 := Vk.up (⟨Rk.sub f3.1 f1.1, Rk.sub f3.2.1 f1.2.1, Rk.sub f3.2.2 f1.2.2⟩) (by decide)
  have f6 : Vk (crossP (P3.mk (x1.x - x0.x) (x1.y - x0.y) (x1.z - x0.z)) (P3.mk (x2.x - x0.x) (x2.y - x0.y) (x2.z - x0.z))) 2405 := Vk.up ((Vk.cross f4 f5)) (by decide)
  have f7 : Rk (dotP (crossP (P3.mk (x1.x - x0.x) (x1.y - x0.y) (x1.z - x0.z)) (P3.mk (x2.x - x0.x) (x2.y - x0.y) (x2.z - x0.z))) x0) 8119 := Rk.up ((Rk.dot f6 f1)) (by decide)
  exact SX.run (w := w) (List.flatten [[.bool x00, .string x01, .bool x02, .string x03, .bool x04, .string x05, .bool x06, .string x07, .bool x10, .string x11, .bool x12, .string x13, .bool x14, .string x15, .bool x16, .string x17, .bool x20, .string x21, .bool x22, .string x23, .bool x24, .string x25, .bool x26, .string x27], vc x0, vc x1, vc x2, vc (P3.mk (x1.x - x0.x) (x1.y - x0.y) (x1.z - x0.z)), vc (P3.mk (x2.x - x0.x) (x2.y - x0.y) (x2.z - x0.z)), vc (crossP (P3.mk (x1.x - x0.x) (x1.y - x0.y) (x1.z - x0.z)) (P3.mk (x2.x - x0.x) (x2.y - x0.y) (x2.z - x0.z))), qc (dotP (crossP (P3.mk (x1.x - x0.x) (x1.y - x0.y) (x1.z - x0.z)) (P3.mk (x2.x - x0.x) (x2.y - x0.y) (x2.z - x0.z))) x0), [.bool false, .string ⟨#[]⟩, .bool false, .string ⟨#[]⟩, .bool false, .string ⟨#[]⟩, .bool false, .string ⟨#[]⟩, .bool false]]) [] [.ga 0 8, .ga 8 8, .ga 16 8] 24 (.tup [.ga 81 8, .ca 89]) [.call 55 [.ga 0 8] (.one (.ga 24 9)) [], .call 55 [.ga 8 8] (.one (.ga 33 9)) [], .call 55 [.ga 16 8] (.one (.ga 42 9)) [], .call 99 [.ga 33 9, .ga 24 9] (.one (.ga 51 9)) [], .call 99 [.ga 42 9, .ga 24 9] (.one (.ga 60 9)) [], .call 98 [.ga 51 9, .ga 60 9] (.one (.ga 69 9)) [], .call 101 [.ga 69 9, .ga 24 9] (.one (.ga 78 3)) [], .call 100 [.ga 69 9, .ga 78 3] (.tup [.ga 81 8, .ca 89]) []] Tryz.func58 (by kernel_rfl) rfl (by kernel_rfl) rfl (by kernel_rfl)
    ⟨fun γ w' _ _ => p4Coords hx0 (by decide) w',
     fun γ w' _ _ => p4Coords hx1 (by decide) w',
     fun γ w' _ _ => p4Coords hx2 (by decide) w',
     fun γ w' _ _ => v5less (IsV.can f2) (by decide) (IsV.can f1) (by decide) w',
     fun γ w' _ _ => v5less (IsV.can f3) (by decide) (IsV.can f1) (by decide) w',
     fun γ w' _ _ => v5Across (IsV.can f4) (by decide) (IsV.can f5) (by decide) w',
     fun γ w' _ _ => v5Dot (IsV.can f6) (by decide) (IsV.can f1) (by decide) w',
     fun γ w' _ _ => by have h := v5Make_any (IsV.can f6) (by decide) (IsQ.can f7) (by decide) w'; rw [planeV, if_pos (show flatQ (Q4.mk (crossP (P3.mk (x1.x - x0.x) (x1.y - x0.y) (x1.z - x0.z)) (P3.mk (x2.x - x0.x) (x2.y - x0.y) (x2.z - x0.z))).x (crossP (P3.mk (x1.x - x0.x) (x1.y - x0.y) (x1.z - x0.z)) (P3.mk (x2.x - x0.x) (x2.y - x0.y) (x2.z - x0.z))).y (crossP (P3.mk (x1.x - x0.x) (x1.y - x0.y) (x1.z - x0.z)) (P3.mk (x2.x - x0.x) (x2.y - x0.y) (x2.z - x0.z))).z (dotP (crossP (P3.mk (x1.x - x0.x) (x1.y - x0.y) (x1.z - x0.z)) (P3.mk (x2.x - x0.x) (x2.y - x0.y) (x2.z - x0.z))) x0)) from hf)] at h; exact h⟩
theorem v5Through_n {ux0 : Value} {x0 : P3} {kx0 : Nat} (hx0 : IsP ux0 x0 kx0) (lx0 : kx0 ≤ 300) {ux1 : Value} {x1 : P3} {kx1 : Nat} (hx1 : IsP ux1 x1 kx1) (lx1 : kx1 ≤ 300) {ux2 : Value} {x2 : P3} {kx2 : Nat} (hx2 : IsP ux2 x2 kx2) (lx2 : kx2 ≤ 300) (w : World) (hf : ¬ flatQ (thrQ x0 x1 x2)) :
    Calls Tryz.prog 58 #[ux0, ux1, ux2] w fun e w' => e = .returned (.tuple #[FV (canQ (thrQ x0 x1 x2)), .bool true]) ∧ Below w.heap.size w w' := by
  replace hx0 := hx0.up lx0
  have zx0 := hx0.sz (by decide)
  obtain ⟨x0q, hx0q, ex0⟩ := id hx0
  obtain ⟨x00, x01, x02, x03, x04, x05, x06, x07, rfl, ex00, sx01, ex01, sx03, ex02, sx05, ex03, sx07⟩ := id hx0q
  have wx00 : IsZ (.agg #[.bool x00, .string x01]) x0q.a 300 := ⟨x00, x01, rfl, ex00, sx01⟩
  have zx00 := wx00.sz
  have wx01 : IsZ (.agg #[.bool x02, .string x03]) x0q.b 300 := ⟨x02, x03, rfl, ex01, sx03⟩
  have zx01 := wx01.sz
  have wx02 : IsZ (.agg #[.bool x04, .string x05]) x0q.c 300 := ⟨x04, x05, rfl, ex02, sx05⟩
  have zx02 := wx02.sz
  have wx03 : IsZ (.agg #[.bool x06, .string x07]) x0q.d 300 := ⟨x06, x07, rfl, ex03, sx07⟩
  have zx03 := wx03.sz
  replace hx1 := hx1.up lx1
  have zx1 := hx1.sz (by decide)
  obtain ⟨x1q, hx1q, ex1⟩ := id hx1
  obtain ⟨x10, x11, x12, x13, x14, x15, x16, x17, rfl, ex10, sx11, ex11, sx13, ex12, sx15, ex13, sx17⟩ := id hx1q
  have wx10 : IsZ (.agg #[.bool x10, .string x11]) x1q.a 300 := ⟨x10, x11, rfl, ex10, sx11⟩
  have zx10 := wx10.sz
  have wx11 : IsZ (.agg #[.bool x12, .string x13]) x1q.b 300 := ⟨x12, x13, rfl, ex11, sx13⟩
  have zx11 := wx11.sz
  have wx12 : IsZ (.agg #[.bool x14, .string x15]) x1q.c 300 := ⟨x14, x15, rfl, ex12, sx15⟩
  have zx12 := wx12.sz
  have wx13 : IsZ (.agg #[.bool x16, .string x17]) x1q.d 300 := ⟨x16, x17, rfl, ex13, sx17⟩
  have zx13 := wx13.sz
  replace hx2 := hx2.up lx2
  have zx2 := hx2.sz (by decide)
  obtain ⟨x2q, hx2q, ex2⟩ := id hx2
  obtain ⟨x20, x21, x22, x23, x24, x25, x26, x27, rfl, ex20, sx21, ex21, sx23, ex22, sx25, ex23, sx27⟩ := id hx2q
  have wx20 : IsZ (.agg #[.bool x20, .string x21]) x2q.a 300 := ⟨x20, x21, rfl, ex20, sx21⟩
  have zx20 := wx20.sz
  have wx21 : IsZ (.agg #[.bool x22, .string x23]) x2q.b 300 := ⟨x22, x23, rfl, ex21, sx23⟩
  have zx21 := wx21.sz
  have wx22 : IsZ (.agg #[.bool x24, .string x25]) x2q.c 300 := ⟨x24, x25, rfl, ex22, sx25⟩
  have zx22 := wx22.sz
  have wx23 : IsZ (.agg #[.bool x26, .string x27]) x2q.d 300 := ⟨x26, x27, rfl, ex23, sx27⟩
  have zx23 := wx23.sz
  have f1 : Vk x0 300 := Vk.up ((Vk.ofP1 zx0)) (by decide)
  have f2 : Vk x1 300 := Vk.up ((Vk.ofP1 zx1)) (by decide)
  have f3 : Vk x2 300 := Vk.up ((Vk.ofP1 zx2)) (by decide)
  have f4 : Vk (P3.mk (x1.x - x0.x) (x1.y - x0.y) (x1.z - x0.z)) 601 := Vk.up (⟨Rk.sub f2.1 f1.1, Rk.sub f2.2.1 f1.2.1, Rk.sub f2.2.2 f1.2.2⟩) (by decide)
  have f5 : Vk (P3.mk (x2.x - x0.x) (x2.y - x0.y) (x2.z - x0.z)) 601 := Vk.up (⟨Rk.sub f3.1 f1.1, Rk.sub f3.2.1 f1.2.1, Rk.sub f3.2.2 f1.2.2⟩) (by decide)
  have f6 : Vk (crossP (P3.mk (x1.x - x0.x) (x1.y - x0.y) (x1.z - x0.z)) (P3.mk (x2.x - x0.x) (x2.y - x0.y) (x2.z - x0.z))) 2405 := Vk.up ((Vk.cross f4 f5)) (by decide)
  have f7 : Rk (dotP (crossP (P3.mk (x1.x - x0.x) (x1.y - x0.y) (x1.z - x0.z)) (P3.mk (x2.x - x0.x) (x2.y - x0.y) (x2.z - x0.z))) x0) 8119 := Rk.up ((Rk.dot f6 f1)) (by decide)
  have f8 : Fk (canQ (Q4.mk (crossP (P3.mk (x1.x - x0.x) (x1.y - x0.y) (x1.z - x0.z)) (P3.mk (x2.x - x0.x) (x2.y - x0.y) (x2.z - x0.z))).x (crossP (P3.mk (x1.x - x0.x) (x1.y - x0.y) (x1.z - x0.z)) (P3.mk (x2.x - x0.x) (x2.y - x0.y) (x2.z - x0.z))).y (crossP (P3.mk (x1.x - x0.x) (x1.y - x0.y) (x1.z - x0.z)) (P3.mk (x2.x - x0.x) (x2.y - x0.y) (x2.z - x0.z))).z (dotP (crossP (P3.mk (x1.x - x0.x) (x1.y - x0.y) (x1.z - x0.z)) (P3.mk (x2.x - x0.x) (x2.y - x0.y) (x2.z - x0.z))) x0))) 32476 := Fk.up ((Fk.canQ (k := 8119) (Rk.mono f6.1 (by decide)) (Rk.mono f6.2.1 (by decide)) (Rk.mono f6.2.2 (by decide)) (Rk.mono f7 (by decide)))) (by decide)
  exact SX.run (w := w) (List.flatten [[.bool x00, .string x01, .bool x02, .string x03, .bool x04, .string x05, .bool x06, .string x07, .bool x10, .string x11, .bool x12, .string x13, .bool x14, .string x15, .bool x16, .string x17, .bool x20, .string x21, .bool x22, .string x23, .bool x24, .string x25, .bool x26, .string x27], vc x0, vc x1, vc x2, vc (P3.mk (x1.x - x0.x) (x1.y - x0.y) (x1.z - x0.z)), vc (P3.mk (x2.x - x0.x) (x2.y - x0.y) (x2.z - x0.z)), vc (crossP (P3.mk (x1.x - x0.x) (x1.y - x0.y) (x1.z - x0.z)) (P3.mk (x2.x - x0.x) (x2.y - x0.y) (x2.z - x0.z))), qc (dotP (crossP (P3.mk (x1.x - x0.x) (x1.y - x0.y) (x1.z - x0.z)) (P3.mk (x2.x - x0.x) (x2.y - x0.y) (x2.z - x0.z))) x0), fc (canQ (Q4.mk (crossP (P3.mk (x1.x - x0.x) (x1.y - x0.y) (x1.z - x0.z)) (P3.mk (x2.x - x0.x) (x2.y - x0.y) (x2.z - x0.z))).x (crossP (P3.mk (x1.x - x0.x) (x1.y - x0.y) (x1.z - x0.z)) (P3.mk (x2.x - x0.x) (x2.y - x0.y) (x2.z - x0.z))).y (crossP (P3.mk (x1.x - x0.x) (x1.y - x0.y) (x1.z - x0.z)) (P3.mk (x2.x - x0.x) (x2.y - x0.y) (x2.z - x0.z))).z (dotP (crossP (P3.mk (x1.x - x0.x) (x1.y - x0.y) (x1.z - x0.z)) (P3.mk (x2.x - x0.x) (x2.y - x0.y) (x2.z - x0.z))) x0))), [.bool true]]) [] [.ga 0 8, .ga 8 8, .ga 16 8] 24 (.tup [.ga 81 8, .ca 89]) [.call 55 [.ga 0 8] (.one (.ga 24 9)) [], .call 55 [.ga 8 8] (.one (.ga 33 9)) [], .call 55 [.ga 16 8] (.one (.ga 42 9)) [], .call 99 [.ga 33 9, .ga 24 9] (.one (.ga 51 9)) [], .call 99 [.ga 42 9, .ga 24 9] (.one (.ga 60 9)) [], .call 98 [.ga 51 9, .ga 60 9] (.one (.ga 69 9)) [], .call 101 [.ga 69 9, .ga 24 9] (.one (.ga 78 3)) [], .call 100 [.ga 69 9, .ga 78 3] (.tup [.ga 81 8, .ca 89]) []] Tryz.func58 (by kernel_rfl) rfl (by kernel_rfl) rfl (by kernel_rfl)
    ⟨fun γ w' _ _ => p4Coords hx0 (by decide) w',
     fun γ w' _ _ => p4Coords hx1 (by decide) w',
     fun γ w' _ _ => p4Coords hx2 (by decide) w',
     fun γ w' _ _ => v5less (IsV.can f2) (by decide) (IsV.can f1) (by decide) w',
     fun γ w' _ _ => v5less (IsV.can f3) (by decide) (IsV.can f1) (by decide) w',
     fun γ w' _ _ => v5Across (IsV.can f4) (by decide) (IsV.can f5) (by decide) w',
     fun γ w' _ _ => v5Dot (IsV.can f6) (by decide) (IsV.can f1) (by decide) w',
     fun γ w' _ _ => by have h := v5Make_any (IsV.can f6) (by decide) (IsQ.can f7) (by decide) w'; rw [planeV, if_neg (show ¬ flatQ (Q4.mk (crossP (P3.mk (x1.x - x0.x) (x1.y - x0.y) (x1.z - x0.z)) (P3.mk (x2.x - x0.x) (x2.y - x0.y) (x2.z - x0.z))).x (crossP (P3.mk (x1.x - x0.x) (x1.y - x0.y) (x1.z - x0.z)) (P3.mk (x2.x - x0.x) (x2.y - x0.y) (x2.z - x0.z))).y (crossP (P3.mk (x1.x - x0.x) (x1.y - x0.y) (x1.z - x0.z)) (P3.mk (x2.x - x0.x) (x2.y - x0.y) (x2.z - x0.z))).z (dotP (crossP (P3.mk (x1.x - x0.x) (x1.y - x0.y) (x1.z - x0.z)) (P3.mk (x2.x - x0.x) (x2.y - x0.y) (x2.z - x0.z))) x0)) from hf)] at h; exact h⟩
theorem v5Through_any {ux0 : Value} {x0 : P3} {kx0 : Nat} (hx0 : IsP ux0 x0 kx0) (lx0 : kx0 ≤ 300) {ux1 : Value} {x1 : P3} {kx1 : Nat} (hx1 : IsP ux1 x1 kx1) (lx1 : kx1 ≤ 300) {ux2 : Value} {x2 : P3} {kx2 : Nat} (hx2 : IsP ux2 x2 kx2) (lx2 : kx2 ≤ 300) (w : World) :
    Calls Tryz.prog 58 #[ux0, ux1, ux2] w fun e w' => e = .returned (planeV (thrQ x0 x1 x2)) ∧ Below w.heap.size w w' := by
  unfold planeV
  by_cases hf : flatQ (thrQ x0 x1 x2)
  · rw [if_pos hf]; exact v5Through_f hx0 lx0 hx1 lx1 hx2 lx2 w hf
  · rw [if_neg hf]; exact v5Through_n hx0 lx0 hx1 lx1 hx2 lx2 w hf
theorem v5Side {ux0 : Value} {x0 : Z4} {kx0 : Nat} (hx0 : IsF ux0 x0 kx0) (lx0 : kx0 ≤ 100000) {ux1 : Value} {x1 : Z4} {kx1 : Nat} (hx1 : IsF ux1 x1 kx1) (lx1 : kx1 ≤ 100000) (w : World) :
    Calls Tryz.prog 59 #[ux0, ux1] w fun e w' => e = .returned (.int .i64 (cmpZ (-(x0.d * x1.d) + x0.a * x1.a + x0.b * x1.b + x0.c * x1.c) 0)) ∧ Below w.heap.size w w' := by
  replace hx0 := hx0.up lx0
  have zx0 := hx0.sz
  obtain ⟨x00, x01, x02, x03, x04, x05, x06, x07, rfl, ex00, sx01, ex01, sx03, ex02, sx05, ex03, sx07⟩ := id hx0
  have wx00 : IsZ (.agg #[.bool x00, .string x01]) x0.a 100000 := ⟨x00, x01, rfl, ex00, sx01⟩
  have zx00 := wx00.sz
  have wx01 : IsZ (.agg #[.bool x02, .string x03]) x0.b 100000 := ⟨x02, x03, rfl, ex01, sx03⟩
  have zx01 := wx01.sz
  have wx02 : IsZ (.agg #[.bool x04, .string x05]) x0.c 100000 := ⟨x04, x05, rfl, ex02, sx05⟩
  have zx02 := wx02.sz
  have wx03 : IsZ (.agg #[.bool x06, .string x07]) x0.d 100000 := ⟨x06, x07, rfl, ex03, sx07⟩
  have zx03 := wx03.sz
  replace hx1 := hx1.up lx1
  have zx1 := hx1.sz
  obtain ⟨x10, x11, x12, x13, x14, x15, x16, x17, rfl, ex10, sx11, ex11, sx13, ex12, sx15, ex13, sx17⟩ := id hx1
  have wx10 : IsZ (.agg #[.bool x10, .string x11]) x1.a 100000 := ⟨x10, x11, rfl, ex10, sx11⟩
  have zx10 := wx10.sz
  have wx11 : IsZ (.agg #[.bool x12, .string x13]) x1.b 100000 := ⟨x12, x13, rfl, ex11, sx13⟩
  have zx11 := wx11.sz
  have wx12 : IsZ (.agg #[.bool x14, .string x15]) x1.c 100000 := ⟨x14, x15, rfl, ex12, sx15⟩
  have zx12 := wx12.sz
  have wx13 : IsZ (.agg #[.bool x16, .string x17]) x1.d 100000 := ⟨x16, x17, rfl, ex13, sx17⟩
  have zx13 := wx13.sz
  have f1 : Zk (x0.d * x1.d) 200000 := Zk.up (mg_mul_size zx03 zx13) (by decide)
  have f2 : Zk (-(x0.d * x1.d)) 200000 := Zk.up (mg_neg_size f1) (by decide)
  have f3 : Zk (x0.a * x1.a) 200000 := Zk.up (mg_mul_size zx00 zx10) (by decide)
  have f4 : Zk ((-(x0.d * x1.d)) + (x0.a * x1.a)) 200001 := Zk.up (Is.add f2 f3) (by decide)
  have f5 : Zk (x0.b * x1.b) 200000 := Zk.up (mg_mul_size zx01 zx11) (by decide)
  have f6 : Zk (((-(x0.d * x1.d)) + (x0.a * x1.a)) + (x0.b * x1.b)) 200002 := Zk.up (Is.add f4 f5) (by decide)
  have f7 : Zk (x0.c * x1.c) 200000 := Zk.up (mg_mul_size zx02 zx12) (by decide)
  have f8 : Zk ((((-(x0.d * x1.d)) + (x0.a * x1.a)) + (x0.b * x1.b)) + (x0.c * x1.c)) 200003 := Zk.up (Is.add f6 f7) (by decide)
  exact SX.run (w := w) (List.flatten [[.bool x00, .string x01, .bool x02, .string x03, .bool x04, .string x05, .bool x06, .string x07, .bool x10, .string x11, .bool x12, .string x13, .bool x14, .string x15, .bool x16, .string x17], zc (x0.d * x1.d), zc (-(x0.d * x1.d)), zc (x0.a * x1.a), zc ((-(x0.d * x1.d)) + (x0.a * x1.a)), zc (x0.b * x1.b), zc (((-(x0.d * x1.d)) + (x0.a * x1.a)) + (x0.b * x1.b)), zc (x0.c * x1.c), zc ((((-(x0.d * x1.d)) + (x0.a * x1.a)) + (x0.b * x1.b)) + (x0.c * x1.c)), [.int .i64 (cmpZ ((((-(x0.d * x1.d)) + (x0.a * x1.a)) + (x0.b * x1.b)) + (x0.c * x1.c)) 0)]]) [] [.ga 0 8, .ga 8 8] 16 (.one (.ca 32)) [.call 79 [.ga 6 2, .ga 14 2] (.one (.ga 16 2)) [], .call 47 [.ga 16 2] (.one (.ga 18 2)) [], .call 79 [.ga 0 2, .ga 8 2] (.one (.ga 20 2)) [], .call 87 [.ga 18 2, .ga 20 2] (.one (.ga 22 2)) [], .call 79 [.ga 2 2, .ga 10 2] (.one (.ga 24 2)) [], .call 87 [.ga 22 2, .ga 24 2] (.one (.ga 26 2)) [], .call 79 [.ga 4 2, .ga 12 2] (.one (.ga 28 2)) [], .call 87 [.ga 26 2, .ga 28 2] (.one (.ga 30 2)) [], .call 44 [.ga 30 2] (.one (.ca 32)) []] Tryz.func59 (by kernel_rfl) rfl (by kernel_rfl) rfl (by kernel_rfl)
    ⟨fun γ w' _ _ => jMul wx03 (by decide) wx13 (by decide) w',
     fun γ w' _ _ => jNeg (IsZ.can f1) (by decide) w',
     fun γ w' _ _ => jMul wx00 (by decide) wx10 (by decide) w',
     fun γ w' _ _ => jAdd (IsZ.can f2) (by decide) (IsZ.can f3) (by decide) w',
     fun γ w' _ _ => jMul wx01 (by decide) wx11 (by decide) w',
     fun γ w' _ _ => jAdd (IsZ.can f4) (by decide) (IsZ.can f5) (by decide) w',
     fun γ w' _ _ => jMul wx02 (by decide) wx12 (by decide) w',
     fun γ w' _ _ => jAdd (IsZ.can f6) (by decide) (IsZ.can f7) (by decide) w',
     fun γ w' _ _ => jSign (IsZ.can f8) (by decide) w'⟩
end Go.Proofs.YtfapglafeghggaaGreatDoor
