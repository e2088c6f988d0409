/- voussoirref07: planes, reflections. -/
import Derived.Test.YtodcomijjmobdaaGreatDoorYs
set_option linter.unusedVariables false
set_option linter.unusedSimpArgs false
namespace Go.Proofs.YtodcomijjmobdaaGreatDoor
open Go.RowKit NM SX
set_option maxRecDepth 100000 in
theorem u7Plane_0 {ux0 : Value} {x0 : M3} {kx0 : Nat} (hx0 : IsM ux0 x0 kx0) (lx0 : kx0 ≤ 400) {x1 : Z4} {kx1 : Nat} (zx1 : Fk x1 kx1) (lx1 : kx1 ≤ 100) (w : World) (hd : detM x0 = 0) :
    Calls Tryz.prog 26 #[ux0, FV x1] w fun e w' => e = .returned (.tuple #[.agg #[.bool false, .string ⟨#[]⟩, .bool false, .string ⟨#[]⟩, .bool false, .string ⟨#[]⟩, .bool false, .string ⟨#[]⟩], .bool false]) ∧ Below w.heap.size w w' := by
  replace hx0 := hx0.up lx0
  have zx0 := hx0.sz (by decide)
  obtain ⟨x0b, x0s, rfl, wx00, wx01, wx02, wx03, wx04, wx05, wx06, wx07, wx08, wx09, wx010, wx011⟩ := id hx0
  replace zx1 := zx1.up lx1
  have H := SX.run (w := w) (List.flatten [(.bool (x0b 0) :: .string (x0s 0) :: .string (x0s 1) :: .bool (x0b 1) :: .string (x0s 2) :: .string (x0s 3) :: .bool (x0b 2) :: .string (x0s 4) :: .string (x0s 5) :: .bool (x0b 3) :: .string (x0s 6) :: .string (x0s 7) :: .bool (x0b 4) :: .string (x0s 8) :: .string (x0s 9) :: .bool (x0b 5) :: .string (x0s 10) :: .string (x0s 11) :: .bool (x0b 6) :: .string (x0s 12) :: .string (x0s 13) :: .bool (x0b 7) :: .string (x0s 14) :: .string (x0s 15) :: .bool (x0b 8) :: .string (x0s 16) :: .string (x0s 17) :: .bool (x0b 9) :: .string (x0s 18) :: .string (x0s 19) :: .bool (x0b 10) :: .string (x0s 20) :: .string (x0s 21) :: .bool (x0b 11) :: .string (x0s 22) :: .string (x0s 23) :: []), fc x1, (.bool false :: .string ⟨#[]⟩ :: .string ⟨#[]⟩ :: .bool false :: .string ⟨#[]⟩ :: .string ⟨#[]⟩ :: .bool false :: .string ⟨#[]⟩ :: .string ⟨#[]⟩ :: .bool false :: .string ⟨#[]⟩ :: .string ⟨#[]⟩ :: .bool false :: .string ⟨#[]⟩ :: .string ⟨#[]⟩ :: .bool false :: .string ⟨#[]⟩ :: .string ⟨#[]⟩ :: .bool false :: .string ⟨#[]⟩ :: .string ⟨#[]⟩ :: .bool false :: .string ⟨#[]⟩ :: .string ⟨#[]⟩ :: .bool false :: .string ⟨#[]⟩ :: .string ⟨#[]⟩ :: .bool false :: .string ⟨#[]⟩ :: .string ⟨#[]⟩ :: .bool false :: .string ⟨#[]⟩ :: .string ⟨#[]⟩ :: .bool false :: .string ⟨#[]⟩ :: .string ⟨#[]⟩ :: .bool false :: .bool true :: [])]) [.b true] [.ga 0 36, .ga 36 8] 44 (.tup [.agg [.p (.lit (.bool false)), .p (.lit (.string ⟨#[]⟩)), .p (.lit (.bool false)), .p (.lit (.string ⟨#[]⟩)), .p (.lit (.bool false)), .p (.lit (.string ⟨#[]⟩)), .p (.lit (.bool false)), .p (.lit (.string ⟨#[]⟩))], .c (.p (.lit (.bool false)))]) [.call 15 [.ga 0 36] (.tup [.ga 44 36, .ca 80]) [], .op1 .not (.pa 80) 81, .isB 81 true] Tryz.func26 (by kernel_rfl) rfl (by kernel_rfl) rfl (by kernel_rfl)
    ⟨fun γ w' _ _ => by have h := u7Back_0 hx0 (by decide) w' hd; exact h,
     congrArg (fun z => some (Value.bool z)) (by first | rfl | assumption | decide | simp [*] : (!false) = true),
     rfl⟩
  exact H
set_option maxHeartbeats 4000000 in
set_option maxRecDepth 100000 in
theorem u7Plane_1 {ux0 : Value} {x0 : M3} {kx0 : Nat} (hx0 : IsM ux0 x0 kx0) (lx0 : kx0 ≤ 400) {x1 : Z4} {kx1 : Nat} (zx1 : Fk x1 kx1) (lx1 : kx1 ≤ 100) (w : World) (hd : detM x0 ≠ 0) (hq : ¬ flatF x1) (zi : Mk (invM x0) 400) :
    Calls Tryz.prog 26 #[ux0, FV x1] w fun e w' => e = .returned (.tuple #[FV (planeM x0 x1), .bool true]) ∧ Below w.heap.size w w' := by
  replace hx0 := hx0.up lx0
  have zx0 := hx0.sz (by decide)
  obtain ⟨x0b, x0s, rfl, wx00, wx01, wx02, wx03, wx04, wx05, wx06, wx07, wx08, wx09, wx010, wx011⟩ := id hx0
  replace zx1 := zx1.up lx1
  have f1 : Mk (invM x0) 400 := Mk.up (zi) (by decide)
  have f2 : Zk x1.a 100 := Zk.up (zx1.1) (by decide)
  have f3 : Rk (x1.a : Rat) 100 := Rk.up ((Rk.int f2)) (by decide)
  have f4 : Zk x1.b 100 := Zk.up (zx1.2.1) (by decide)
  have f5 : Rk (x1.b : Rat) 100 := Rk.up ((Rk.int f4)) (by decide)
  have f6 : Zk x1.c 100 := Zk.up (zx1.2.2.1) (by decide)
  have f7 : Rk (x1.c : Rat) 100 := Rk.up ((Rk.int f6)) (by decide)
  have f8 : Zk x1.d 100 := Zk.up (zx1.2.2.2) (by decide)
  have f9 : Rk (x1.d : Rat) 100 := Rk.up ((Rk.int f8)) (by decide)
  have f10 : Rk (0 : Rat) 1 := Rk.up ((⟨by decide +kernel, by decide +kernel⟩ : Rk (0 : Rat) 1)) (by decide)
  have f11 : Rk (invM x0).x.a 400 := Rk.up (f1.1.1) (by decide)
  have f12 : Rk ((x1.a : Rat) * (invM x0).x.a) 500 := Rk.up (Is.mul f3 f11) (by decide)
  have f13 : Rk ((0 : Rat) + ((x1.a : Rat) * (invM x0).x.a)) 502 := Rk.up (Rk.add f10 f12) (by decide)
  have f14 : Rk (invM x0).y.a 400 := Rk.up (f1.2.1.1) (by decide)
  have f15 : Rk ((x1.b : Rat) * (invM x0).y.a) 500 := Rk.up (Is.mul f5 f14) (by decide)
  have f16 : Rk (((0 : Rat) + ((x1.a : Rat) * (invM x0).x.a)) + ((x1.b : Rat) * (invM x0).y.a)) 1003 := Rk.up (Rk.add f13 f15) (by decide)
  have f17 : Rk (invM x0).z.a 400 := Rk.up (f1.2.2.1) (by decide)
  have f18 : Rk ((x1.c : Rat) * (invM x0).z.a) 500 := Rk.up (Is.mul f7 f17) (by decide)
  have f19 : Rk ((((0 : Rat) + ((x1.a : Rat) * (invM x0).x.a)) + ((x1.b : Rat) * (invM x0).y.a)) + ((x1.c : Rat) * (invM x0).z.a)) 1504 := Rk.up (Rk.add f16 f18) (by decide)
  have f20 : Rk (invM x0).x.d 400 := Rk.up (f1.1.2.2.2) (by decide)
  have f21 : Rk ((x1.a : Rat) * (invM x0).x.d) 500 := Rk.up (Is.mul f3 f20) (by decide)
  have f22 : Rk ((x1.d : Rat) - ((x1.a : Rat) * (invM x0).x.d)) 601 := Rk.up (Rk.sub f9 f21) (by decide)
  have f23 : Rk (invM x0).x.b 400 := Rk.up (f1.1.2.1) (by decide)
  have f24 : Rk ((x1.a : Rat) * (invM x0).x.b) 500 := Rk.up (Is.mul f3 f23) (by decide)
  have f25 : Rk ((0 : Rat) + ((x1.a : Rat) * (invM x0).x.b)) 502 := Rk.up (Rk.add f10 f24) (by decide)
  have f26 : Rk (invM x0).y.b 400 := Rk.up (f1.2.1.2.1) (by decide)
  have f27 : Rk ((x1.b : Rat) * (invM x0).y.b) 500 := Rk.up (Is.mul f5 f26) (by decide)
  have f28 : Rk (((0 : Rat) + ((x1.a : Rat) * (invM x0).x.b)) + ((x1.b : Rat) * (invM x0).y.b)) 1003 := Rk.up (Rk.add f25 f27) (by decide)
  have f29 : Rk (invM x0).z.b 400 := Rk.up (f1.2.2.2.1) (by decide)
  have f30 : Rk ((x1.c : Rat) * (invM x0).z.b) 500 := Rk.up (Is.mul f7 f29) (by decide)
  have f31 : Rk ((((0 : Rat) + ((x1.a : Rat) * (invM x0).x.b)) + ((x1.b : Rat) * (invM x0).y.b)) + ((x1.c : Rat) * (invM x0).z.b)) 1504 := Rk.up (Rk.add f28 f30) (by decide)
  have f32 : Rk (invM x0).y.d 400 := Rk.up (f1.2.1.2.2.2) (by decide)
  have f33 : Rk ((x1.b : Rat) * (invM x0).y.d) 500 := Rk.up (Is.mul f5 f32) (by decide)
  have f34 : Rk (((x1.d : Rat) - ((x1.a : Rat) * (invM x0).x.d)) - ((x1.b : Rat) * (invM x0).y.d)) 1102 := Rk.up (Rk.sub f22 f33) (by decide)
  have f35 : Rk (invM x0).x.c 400 := Rk.up (f1.1.2.2.1) (by decide)
  have f36 : Rk ((x1.a : Rat) * (invM x0).x.c) 500 := Rk.up (Is.mul f3 f35) (by decide)
  have f37 : Rk ((0 : Rat) + ((x1.a : Rat) * (invM x0).x.c)) 502 := Rk.up (Rk.add f10 f36) (by decide)
  have f38 : Rk (invM x0).y.c 400 := Rk.up (f1.2.1.2.2.1) (by decide)
  have f39 : Rk ((x1.b : Rat) * (invM x0).y.c) 500 := Rk.up (Is.mul f5 f38) (by decide)
  have f40 : Rk (((0 : Rat) + ((x1.a : Rat) * (invM x0).x.c)) + ((x1.b : Rat) * (invM x0).y.c)) 1003 := Rk.up (Rk.add f37 f39) (by decide)
  have f41 : Rk (invM x0).z.c 400 := Rk.up (f1.2.2.2.2.1) (by decide)
  have f42 : Rk ((x1.c : Rat) * (invM x0).z.c) 500 := Rk.up (Is.mul f7 f41) (by decide)
  have f43 : Rk ((((0 : Rat) + ((x1.a : Rat) * (invM x0).x.c)) + ((x1.b : Rat) * (invM x0).y.c)) + ((x1.c : Rat) * (invM x0).z.c)) 1504 := Rk.up (Rk.add f40 f42) (by decide)
  have f44 : Rk (invM x0).z.d 400 := Rk.up (f1.2.2.2.2.2) (by decide)
  have f45 : Rk ((x1.c : Rat) * (invM x0).z.d) 500 := Rk.up (Is.mul f7 f44) (by decide)
  have f46 : Rk ((((x1.d : Rat) - ((x1.a : Rat) * (invM x0).x.d)) - ((x1.b : Rat) * (invM x0).y.d)) - ((x1.c : Rat) * (invM x0).z.d)) 1603 := Rk.up (Rk.sub f34 f45) (by decide)
  have H := SX.run (w := w) (List.flatten [(.bool (x0b 0) :: .string (x0s 0) :: .string (x0s 1) :: .bool (x0b 1) :: .string (x0s 2) :: .string (x0s 3) :: .bool (x0b 2) :: .string (x0s 4) :: .string (x0s 5) :: .bool (x0b 3) :: .string (x0s 6) :: .string (x0s 7) :: .bool (x0b 4) :: .string (x0s 8) :: .string (x0s 9) :: .bool (x0b 5) :: .string (x0s 10) :: .string (x0s 11) :: .bool (x0b 6) :: .string (x0s 12) :: .string (x0s 13) :: .bool (x0b 7) :: .string (x0s 14) :: .string (x0s 15) :: .bool (x0b 8) :: .string (x0s 16) :: .string (x0s 17) :: .bool (x0b 9) :: .string (x0s 18) :: .string (x0s 19) :: .bool (x0b 10) :: .string (x0s 20) :: .string (x0s 21) :: .bool (x0b 11) :: .string (x0s 22) :: .string (x0s 23) :: []), fc x1, mc (invM x0), [.bool true, .bool false], qc (x1.a : Rat), [.bool (decide ((1 : Int) ≠ 0))], qc (x1.b : Rat), [.bool (decide ((1 : Int) ≠ 0))], qc (x1.c : Rat), [.bool (decide ((1 : Int) ≠ 0))], qc (x1.d : Rat), [.bool (decide ((1 : Int) ≠ 0)), .bool (sg (0 : Rat).num), .string (mg (0 : Rat).num), .string (dm (0 : Rat).den)], qc ((x1.a : Rat) * (invM x0).x.a), qc ((0 : Rat) + ((x1.a : Rat) * (invM x0).x.a)), qc ((x1.b : Rat) * (invM x0).y.a), qc (((0 : Rat) + ((x1.a : Rat) * (invM x0).x.a)) + ((x1.b : Rat) * (invM x0).y.a)), qc ((x1.c : Rat) * (invM x0).z.a), qc ((((0 : Rat) + ((x1.a : Rat) * (invM x0).x.a)) + ((x1.b : Rat) * (invM x0).y.a)) + ((x1.c : Rat) * (invM x0).z.a)), qc ((x1.a : Rat) * (invM x0).x.d), qc ((x1.d : Rat) - ((x1.a : Rat) * (invM x0).x.d)), [.bool (sg (0 : Rat).num), .string (mg (0 : Rat).num), .string (dm (0 : Rat).den)], qc ((x1.a : Rat) * (invM x0).x.b), qc ((0 : Rat) + ((x1.a : Rat) * (invM x0).x.b)), qc ((x1.b : Rat) * (invM x0).y.b), qc (((0 : Rat) + ((x1.a : Rat) * (invM x0).x.b)) + ((x1.b : Rat) * (invM x0).y.b)), qc ((x1.c : Rat) * (invM x0).z.b), qc ((((0 : Rat) + ((x1.a : Rat) * (invM x0).x.b)) + ((x1.b : Rat) * (invM x0).y.b)) + ((x1.c : Rat) * (invM x0).z.b)), qc ((x1.b : Rat) * (invM x0).y.d), qc (((x1.d : Rat) - ((x1.a : Rat) * (invM x0).x.d)) - ((x1.b : Rat) * (invM x0).y.d)), [.bool (sg (0 : Rat).num), .string (mg (0 : Rat).num), .string (dm (0 : Rat).den)], qc ((x1.a : Rat) * (invM x0).x.c), qc ((0 : Rat) + ((x1.a : Rat) * (invM x0).x.c)), qc ((x1.b : Rat) * (invM x0).y.c), qc (((0 : Rat) + ((x1.a : Rat) * (invM x0).x.c)) + ((x1.b : Rat) * (invM x0).y.c)), qc ((x1.c : Rat) * (invM x0).z.c), qc ((((0 : Rat) + ((x1.a : Rat) * (invM x0).x.c)) + ((x1.b : Rat) * (invM x0).y.c)) + ((x1.c : Rat) * (invM x0).z.c)), qc ((x1.c : Rat) * (invM x0).z.d), qc ((((x1.d : Rat) - ((x1.a : Rat) * (invM x0).x.d)) - ((x1.b : Rat) * (invM x0).y.d)) - ((x1.c : Rat) * (invM x0).z.d)), fc (planeM x0 x1), [.bool true]]) [.b false] [.ga 0 36, .ga 36 8] 44 (.tup [.ga 179 8, .ca 187]) (.call 15 [.ga 0 36] (.tup [.ga 44 36, .ca 80]) [] :: .op1 .not (.pa 80) 81 :: .isB 81 false :: .call 80 [.ga 36 2, .agg [.p (.lit (.bool false)), .p (.lit (.string ⟨#[1]⟩))]] (.tup [.ga 82 3, .ca 85]) [] :: .call 80 [.ga 38 2, .agg [.p (.lit (.bool false)), .p (.lit (.string ⟨#[1]⟩))]] (.tup [.ga 86 3, .ca 89]) [] :: .call 80 [.ga 40 2, .agg [.p (.lit (.bool false)), .p (.lit (.string ⟨#[1]⟩))]] (.tup [.ga 90 3, .ca 93]) [] :: .call 80 [.ga 42 2, .agg [.p (.lit (.bool false)), .p (.lit (.string ⟨#[1]⟩))]] (.tup [.ga 94 3, .ca 97]) [] :: .call 65 [.c (.p (.lit (.int .i64 0)))] (.one (.ga 98 3)) [] :: .call 67 [.ga 82 3, .ga 44 3] (.one (.ga 101 3)) [] :: .call 66 [.ga 98 3, .ga 101 3] (.one (.ga 104 3)) [] :: .call 67 [.ga 86 3, .ga 56 3] (.one (.ga 107 3)) [] :: .call 66 [.ga 104 3, .ga 107 3] (.one (.ga 110 3)) [] :: .call 67 [.ga 90 3, .ga 68 3] (.one (.ga 113 3)) [] :: .call 66 [.ga 110 3, .ga 113 3] (.one (.ga 116 3)) [] :: .call 67 [.ga 82 3, .ga 53 3] (.one (.ga 119 3)) [] :: .call 81 [.ga 94 3, .ga 119 3] (.one (.ga 122 3)) [] :: .call 65 [.c (.p (.lit (.int .i64 0)))] (.one (.ga 125 3)) [] :: .call 67 [.ga 82 3, .ga 47 3] (.one (.ga 128 3)) [] :: .call 66 [.ga 125 3, .ga 128 3] (.one (.ga 131 3)) [] :: .call 67 [.ga 86 3, .ga 59 3] (.one (.ga 134 3)) [] :: .call 66 [.ga 131 3, .ga 134 3] (.one (.ga 137 3)) [] :: .call 67 [.ga 90 3, .ga 71 3] (.one (.ga 140 3)) [] :: .call 66 [.ga 137 3, .ga 140 3] (.one (.ga 143 3)) [] :: .call 67 [.ga 86 3, .ga 65 3] (.one (.ga 146 3)) [] :: .call 81 [.ga 122 3, .ga 146 3] (.one (.ga 149 3)) [] :: .call 65 [.c (.p (.lit (.int .i64 0)))] (.one (.ga 152 3)) [] :: .call 67 [.ga 82 3, .ga 50 3] (.one (.ga 155 3)) [] :: .call 66 [.ga 152 3, .ga 155 3] (.one (.ga 158 3)) [] :: .call 67 [.ga 86 3, .ga 62 3] (.one (.ga 161 3)) [] :: .call 66 [.ga 158 3, .ga 161 3] (.one (.ga 164 3)) [] :: .call 67 [.ga 90 3, .ga 74 3] (.one (.ga 167 3)) [] :: .call 66 [.ga 164 3, .ga 167 3] (.one (.ga 170 3)) [] :: .call 67 [.ga 90 3, .ga 77 3] (.one (.ga 173 3)) [] :: .call 81 [.ga 149 3, .ga 173 3] (.one (.ga 176 3)) [] :: .call 82 [.agg [.pa 116, .pa 117, .pa 118, .pa 143, .pa 144, .pa 145, .pa 170, .pa 171, .pa 172], .ga 176 3] (.tup [.ga 179 8, .ca 187]) [] :: []) Tryz.func26 (by kernel_rfl) rfl (by kernel_rfl) rfl (by kernel_rfl)
    ⟨fun γ w' _ _ => by have h := u7Back_1 hx0 (by decide) w' hd; exact h,
     congrArg (fun z => some (Value.bool z)) (by first | rfl | assumption | decide | simp [*] : (!true) = false),
     rfl,
     fun γ w' _ _ => by have h := rMake (IsZ.can f2) (by decide) IsZ.one (by decide) w'; rw [divInt_unit] at h; exact h,
     fun γ w' _ _ => by have h := rMake (IsZ.can f4) (by decide) IsZ.one (by decide) w'; rw [divInt_unit] at h; exact h,
     fun γ w' _ _ => by have h := rMake (IsZ.can f6) (by decide) IsZ.one (by decide) w'; rw [divInt_unit] at h; exact h,
     fun γ w' _ _ => by have h := rMake (IsZ.can f8) (by decide) IsZ.one (by decide) w'; rw [divInt_unit] at h; exact h,
     fun γ w' _ _ => by have h := u7num_0 w'; exact h,
     fun γ w' _ _ => rMul (IsQ.can f3) (by decide) (IsQ.can f11) (by decide) w',
     fun γ w' _ _ => rAdd (IsQ.can f10) (by decide) (IsQ.can f12) (by decide) w',
     fun γ w' _ _ => rMul (IsQ.can f5) (by decide) (IsQ.can f14) (by decide) w',
     fun γ w' _ _ => rAdd (IsQ.can f13) (by decide) (IsQ.can f15) (by decide) w',
     fun γ w' _ _ => rMul (IsQ.can f7) (by decide) (IsQ.can f17) (by decide) w',
     fun γ w' _ _ => rAdd (IsQ.can f16) (by decide) (IsQ.can f18) (by decide) w',
     fun γ w' _ _ => rMul (IsQ.can f3) (by decide) (IsQ.can f20) (by decide) w',
     fun γ w' _ _ => rSub (IsQ.can f9) (by decide) (IsQ.can f21) (by decide) w',
     fun γ w' _ _ => by have h := u7num_0 w'; exact h,
     fun γ w' _ _ => rMul (IsQ.can f3) (by decide) (IsQ.can f23) (by decide) w',
     fun γ w' _ _ => rAdd (IsQ.can f10) (by decide) (IsQ.can f24) (by decide) w',
     fun γ w' _ _ => rMul (IsQ.can f5) (by decide) (IsQ.can f26) (by decide) w',
     fun γ w' _ _ => rAdd (IsQ.can f25) (by decide) (IsQ.can f27) (by decide) w',
     fun γ w' _ _ => rMul (IsQ.can f7) (by decide) (IsQ.can f29) (by decide) w',
     fun γ w' _ _ => rAdd (IsQ.can f28) (by decide) (IsQ.can f30) (by decide) w',
     fun γ w' _ _ => rMul (IsQ.can f5) (by decide) (IsQ.can f32) (by decide) w',
     fun γ w' _ _ => rSub (IsQ.can f22) (by decide) (IsQ.can f33) (by decide) w',
     fun γ w' _ _ => by have h := u7num_0 w'; exact h,
     fun γ w' _ _ => rMul (IsQ.can f3) (by decide) (IsQ.can f35) (by decide) w',
     fun γ w' _ _ => rAdd (IsQ.can f10) (by decide) (IsQ.can f36) (by decide) w',
     fun γ w' _ _ => rMul (IsQ.can f5) (by decide) (IsQ.can f38) (by decide) w',
     fun γ w' _ _ => rAdd (IsQ.can f37) (by decide) (IsQ.can f39) (by decide) w',
     fun γ w' _ _ => rMul (IsQ.can f7) (by decide) (IsQ.can f41) (by decide) w',
     fun γ w' _ _ => rAdd (IsQ.can f40) (by decide) (IsQ.can f42) (by decide) w',
     fun γ w' _ _ => rMul (IsQ.can f7) (by decide) (IsQ.can f44) (by decide) w',
     fun γ w' _ _ => rSub (IsQ.can f34) (by decide) (IsQ.can f45) (by decide) w',
     fun γ w' _ _ => by have h := v5Make_any (x0 := ⟨(planeR (invM x0) (toQ x1)).a, (planeR (invM x0) (toQ x1)).b, (planeR (invM x0) (toQ x1)).c⟩) (x1 := (planeR (invM x0) (toQ x1)).d) (IsV.mk (IsQ.can f19) (IsQ.can f31) (IsQ.can f43)) (by decide) (IsQ.can f46) (by decide) w'; rw [planeV, if_neg (planeM_flat hd hq)] at h; exact h⟩
  exact H
set_option maxHeartbeats 4000000 in
set_option maxRecDepth 100000 in
theorem u7Mirror {x0 : Z4} {kx0 : Nat} (zx0 : Fk x0 kx0) (lx0 : kx0 ≤ 1000) (w : World) (hq : ¬ flatF x0) :
    Calls Tryz.prog 28 #[FV x0] w fun e w' => e = .returned (MV (mirM x0)) ∧ Below w.heap.size w w' := by
  replace zx0 := zx0.up lx0
  have f1 : Zk x0.a 1000 := Zk.up (zx0.1) (by decide)
  have f2 : Rk (x0.a : Rat) 1000 := Rk.up ((Rk.int f1)) (by decide)
  have f3 : Zk x0.b 1000 := Zk.up (zx0.2.1) (by decide)
  have f4 : Rk (x0.b : Rat) 1000 := Rk.up ((Rk.int f3)) (by decide)
  have f5 : Zk x0.c 1000 := Zk.up (zx0.2.2.1) (by decide)
  have f6 : Rk (x0.c : Rat) 1000 := Rk.up ((Rk.int f5)) (by decide)
  have f7 : Zk x0.d 1000 := Zk.up (zx0.2.2.2) (by decide)
  have f8 : Rk (x0.d : Rat) 1000 := Rk.up ((Rk.int f7)) (by decide)
  have f9 : Rk (0 : Rat) 1 := Rk.up ((⟨by decide +kernel, by decide +kernel⟩ : Rk (0 : Rat) 1)) (by decide)
  have f10 : Rk ((x0.a : Rat) * (x0.a : Rat)) 2000 := Rk.up (Is.mul f2 f2) (by decide)
  have f11 : Rk ((0 : Rat) + ((x0.a : Rat) * (x0.a : Rat))) 2002 := Rk.up (Rk.add f9 f10) (by decide)
  have f12 : Rk ((x0.b : Rat) * (x0.b : Rat)) 2000 := Rk.up (Is.mul f4 f4) (by decide)
  have f13 : Rk (((0 : Rat) + ((x0.a : Rat) * (x0.a : Rat))) + ((x0.b : Rat) * (x0.b : Rat))) 4003 := Rk.up (Rk.add f11 f12) (by decide)
  have f14 : Rk ((x0.c : Rat) * (x0.c : Rat)) 2000 := Rk.up (Is.mul f6 f6) (by decide)
  have f15 : Rk ((((0 : Rat) + ((x0.a : Rat) * (x0.a : Rat))) + ((x0.b : Rat) * (x0.b : Rat))) + ((x0.c : Rat) * (x0.c : Rat))) 6004 := Rk.up (Rk.add f13 f14) (by decide)
  have f16 : Mk idM 1 := Mk.up (Mk.idM) (by decide)
  have f17 : Rk (2 : Rat) 1 := Rk.up ((⟨by decide +kernel, by decide +kernel⟩ : Rk (2 : Rat) 1)) (by decide)
  have f18 : Rk ((2 : Rat) * (x0.a : Rat)) 1001 := Rk.up (Is.mul f17 f2) (by decide)
  have f19 : Rk (((2 : Rat) * (x0.a : Rat)) / ((((0 : Rat) + ((x0.a : Rat) * (x0.a : Rat))) + ((x0.b : Rat) * (x0.b : Rat))) + ((x0.c : Rat) * (x0.c : Rat)))) 7006 := Rk.up (Is.quo f18 f15) (by decide)
  have f20 : Rk ((((2 : Rat) * (x0.a : Rat)) / ((((0 : Rat) + ((x0.a : Rat) * (x0.a : Rat))) + ((x0.b : Rat) * (x0.b : Rat))) + ((x0.c : Rat) * (x0.c : Rat)))) * (x0.a : Rat)) 8006 := Rk.up (Is.mul f19 f2) (by decide)
  have f21 : Rk idM.x.a 1 := Rk.up (f16.1.1) (by decide)
  have f22 : Rk (idM.x.a - ((((2 : Rat) * (x0.a : Rat)) / ((((0 : Rat) + ((x0.a : Rat) * (x0.a : Rat))) + ((x0.b : Rat) * (x0.b : Rat))) + ((x0.c : Rat) * (x0.c : Rat)))) * (x0.a : Rat))) 8008 := Rk.up (Rk.sub f21 f20) (by decide)
  have f23 : Rk ((((2 : Rat) * (x0.a : Rat)) / ((((0 : Rat) + ((x0.a : Rat) * (x0.a : Rat))) + ((x0.b : Rat) * (x0.b : Rat))) + ((x0.c : Rat) * (x0.c : Rat)))) * (x0.b : Rat)) 8006 := Rk.up (Is.mul f19 f4) (by decide)
  have f24 : Rk idM.x.b 1 := Rk.up (f16.1.2.1) (by decide)
  have f25 : Rk (idM.x.b - ((((2 : Rat) * (x0.a : Rat)) / ((((0 : Rat) + ((x0.a : Rat) * (x0.a : Rat))) + ((x0.b : Rat) * (x0.b : Rat))) + ((x0.c : Rat) * (x0.c : Rat)))) * (x0.b : Rat))) 8008 := Rk.up (Rk.sub f24 f23) (by decide)
  have f26 : Rk ((((2 : Rat) * (x0.a : Rat)) / ((((0 : Rat) + ((x0.a : Rat) * (x0.a : Rat))) + ((x0.b : Rat) * (x0.b : Rat))) + ((x0.c : Rat) * (x0.c : Rat)))) * (x0.c : Rat)) 8006 := Rk.up (Is.mul f19 f6) (by decide)
  have f27 : Rk idM.x.c 1 := Rk.up (f16.1.2.2.1) (by decide)
  have f28 : Rk (idM.x.c - ((((2 : Rat) * (x0.a : Rat)) / ((((0 : Rat) + ((x0.a : Rat) * (x0.a : Rat))) + ((x0.b : Rat) * (x0.b : Rat))) + ((x0.c : Rat) * (x0.c : Rat)))) * (x0.c : Rat))) 8008 := Rk.up (Rk.sub f27 f26) (by decide)
  have f29 : Rk ((((2 : Rat) * (x0.a : Rat)) / ((((0 : Rat) + ((x0.a : Rat) * (x0.a : Rat))) + ((x0.b : Rat) * (x0.b : Rat))) + ((x0.c : Rat) * (x0.c : Rat)))) * (x0.d : Rat)) 8006 := Rk.up (Is.mul f19 f8) (by decide)
  have f30 : Rk ((2 : Rat) * (x0.b : Rat)) 1001 := Rk.up (Is.mul f17 f4) (by decide)
  have f31 : Rk (((2 : Rat) * (x0.b : Rat)) / ((((0 : Rat) + ((x0.a : Rat) * (x0.a : Rat))) + ((x0.b : Rat) * (x0.b : Rat))) + ((x0.c : Rat) * (x0.c : Rat)))) 7006 := Rk.up (Is.quo f30 f15) (by decide)
  have f32 : Rk ((((2 : Rat) * (x0.b : Rat)) / ((((0 : Rat) + ((x0.a : Rat) * (x0.a : Rat))) + ((x0.b : Rat) * (x0.b : Rat))) + ((x0.c : Rat) * (x0.c : Rat)))) * (x0.a : Rat)) 8006 := Rk.up (Is.mul f31 f2) (by decide)
  have f33 : Rk idM.y.a 1 := Rk.up (f16.2.1.1) (by decide)
  have f34 : Rk (idM.y.a - ((((2 : Rat) * (x0.b : Rat)) / ((((0 : Rat) + ((x0.a : Rat) * (x0.a : Rat))) + ((x0.b : Rat) * (x0.b : Rat))) + ((x0.c : Rat) * (x0.c : Rat)))) * (x0.a : Rat))) 8008 := Rk.up (Rk.sub f33 f32) (by decide)
  have f35 : Rk ((((2 : Rat) * (x0.b : Rat)) / ((((0 : Rat) + ((x0.a : Rat) * (x0.a : Rat))) + ((x0.b : Rat) * (x0.b : Rat))) + ((x0.c : Rat) * (x0.c : Rat)))) * (x0.b : Rat)) 8006 := Rk.up (Is.mul f31 f4) (by decide)
  have f36 : Rk idM.y.b 1 := Rk.up (f16.2.1.2.1) (by decide)
  have f37 : Rk (idM.y.b - ((((2 : Rat) * (x0.b : Rat)) / ((((0 : Rat) + ((x0.a : Rat) * (x0.a : Rat))) + ((x0.b : Rat) * (x0.b : Rat))) + ((x0.c : Rat) * (x0.c : Rat)))) * (x0.b : Rat))) 8008 := Rk.up (Rk.sub f36 f35) (by decide)
  have f38 : Rk ((((2 : Rat) * (x0.b : Rat)) / ((((0 : Rat) + ((x0.a : Rat) * (x0.a : Rat))) + ((x0.b : Rat) * (x0.b : Rat))) + ((x0.c : Rat) * (x0.c : Rat)))) * (x0.c : Rat)) 8006 := Rk.up (Is.mul f31 f6) (by decide)
  have f39 : Rk idM.y.c 1 := Rk.up (f16.2.1.2.2.1) (by decide)
  have f40 : Rk (idM.y.c - ((((2 : Rat) * (x0.b : Rat)) / ((((0 : Rat) + ((x0.a : Rat) * (x0.a : Rat))) + ((x0.b : Rat) * (x0.b : Rat))) + ((x0.c : Rat) * (x0.c : Rat)))) * (x0.c : Rat))) 8008 := Rk.up (Rk.sub f39 f38) (by decide)
  have f41 : Rk ((((2 : Rat) * (x0.b : Rat)) / ((((0 : Rat) + ((x0.a : Rat) * (x0.a : Rat))) + ((x0.b : Rat) * (x0.b : Rat))) + ((x0.c : Rat) * (x0.c : Rat)))) * (x0.d : Rat)) 8006 := Rk.up (Is.mul f31 f8) (by decide)
  have f42 : Rk ((2 : Rat) * (x0.c : Rat)) 1001 := Rk.up (Is.mul f17 f6) (by decide)
  have f43 : Rk (((2 : Rat) * (x0.c : Rat)) / ((((0 : Rat) + ((x0.a : Rat) * (x0.a : Rat))) + ((x0.b : Rat) * (x0.b : Rat))) + ((x0.c : Rat) * (x0.c : Rat)))) 7006 := Rk.up (Is.quo f42 f15) (by decide)
  have f44 : Rk ((((2 : Rat) * (x0.c : Rat)) / ((((0 : Rat) + ((x0.a : Rat) * (x0.a : Rat))) + ((x0.b : Rat) * (x0.b : Rat))) + ((x0.c : Rat) * (x0.c : Rat)))) * (x0.a : Rat)) 8006 := Rk.up (Is.mul f43 f2) (by decide)
  have f45 : Rk idM.z.a 1 := Rk.up (f16.2.2.1) (by decide)
  have f46 : Rk (idM.z.a - ((((2 : Rat) * (x0.c : Rat)) / ((((0 : Rat) + ((x0.a : Rat) * (x0.a : Rat))) + ((x0.b : Rat) * (x0.b : Rat))) + ((x0.c : Rat) * (x0.c : Rat)))) * (x0.a : Rat))) 8008 := Rk.up (Rk.sub f45 f44) (by decide)
  have f47 : Rk ((((2 : Rat) * (x0.c : Rat)) / ((((0 : Rat) + ((x0.a : Rat) * (x0.a : Rat))) + ((x0.b : Rat) * (x0.b : Rat))) + ((x0.c : Rat) * (x0.c : Rat)))) * (x0.b : Rat)) 8006 := Rk.up (Is.mul f43 f4) (by decide)
  have f48 : Rk idM.z.b 1 := Rk.up (f16.2.2.2.1) (by decide)
  have f49 : Rk (idM.z.b - ((((2 : Rat) * (x0.c : Rat)) / ((((0 : Rat) + ((x0.a : Rat) * (x0.a : Rat))) + ((x0.b : Rat) * (x0.b : Rat))) + ((x0.c : Rat) * (x0.c : Rat)))) * (x0.b : Rat))) 8008 := Rk.up (Rk.sub f48 f47) (by decide)
  have f50 : Rk ((((2 : Rat) * (x0.c : Rat)) / ((((0 : Rat) + ((x0.a : Rat) * (x0.a : Rat))) + ((x0.b : Rat) * (x0.b : Rat))) + ((x0.c : Rat) * (x0.c : Rat)))) * (x0.c : Rat)) 8006 := Rk.up (Is.mul f43 f6) (by decide)
  have f51 : Rk idM.z.c 1 := Rk.up (f16.2.2.2.2.1) (by decide)
  have f52 : Rk (idM.z.c - ((((2 : Rat) * (x0.c : Rat)) / ((((0 : Rat) + ((x0.a : Rat) * (x0.a : Rat))) + ((x0.b : Rat) * (x0.b : Rat))) + ((x0.c : Rat) * (x0.c : Rat)))) * (x0.c : Rat))) 8008 := Rk.up (Rk.sub f51 f50) (by decide)
  have f53 : Rk ((((2 : Rat) * (x0.c : Rat)) / ((((0 : Rat) + ((x0.a : Rat) * (x0.a : Rat))) + ((x0.b : Rat) * (x0.b : Rat))) + ((x0.c : Rat) * (x0.c : Rat)))) * (x0.d : Rat)) 8006 := Rk.up (Is.mul f43 f8) (by decide)
  have H := SX.run (w := w) (List.flatten [fc x0, qc (x0.a : Rat), [.bool (decide ((1 : Int) ≠ 0))], qc (x0.b : Rat), [.bool (decide ((1 : Int) ≠ 0))], qc (x0.c : Rat), [.bool (decide ((1 : Int) ≠ 0))], qc (x0.d : Rat), [.bool (decide ((1 : Int) ≠ 0)), .bool (sg (0 : Rat).num), .string (mg (0 : Rat).num), .string (dm (0 : Rat).den)], qc ((x0.a : Rat) * (x0.a : Rat)), qc ((0 : Rat) + ((x0.a : Rat) * (x0.a : Rat))), qc ((x0.b : Rat) * (x0.b : Rat)), qc (((0 : Rat) + ((x0.a : Rat) * (x0.a : Rat))) + ((x0.b : Rat) * (x0.b : Rat))), qc ((x0.c : Rat) * (x0.c : Rat)), qc ((((0 : Rat) + ((x0.a : Rat) * (x0.a : Rat))) + ((x0.b : Rat) * (x0.b : Rat))) + ((x0.c : Rat) * (x0.c : Rat))), [.int .i64 (sgQ ((((0 : Rat) + ((x0.a : Rat) * (x0.a : Rat))) + ((x0.b : Rat) * (x0.b : Rat))) + ((x0.c : Rat) * (x0.c : Rat)))), .bool false], mc idM, qc (2 : Rat), qc ((2 : Rat) * (x0.a : Rat)), qc (((2 : Rat) * (x0.a : Rat)) / ((((0 : Rat) + ((x0.a : Rat) * (x0.a : Rat))) + ((x0.b : Rat) * (x0.b : Rat))) + ((x0.c : Rat) * (x0.c : Rat)))), [.bool (decide (((((0 : Rat) + ((x0.a : Rat) * (x0.a : Rat))) + ((x0.b : Rat) * (x0.b : Rat))) + ((x0.c : Rat) * (x0.c : Rat))) ≠ 0))], qc ((((2 : Rat) * (x0.a : Rat)) / ((((0 : Rat) + ((x0.a : Rat) * (x0.a : Rat))) + ((x0.b : Rat) * (x0.b : Rat))) + ((x0.c : Rat) * (x0.c : Rat)))) * (x0.a : Rat)), qc (idM.x.a - ((((2 : Rat) * (x0.a : Rat)) / ((((0 : Rat) + ((x0.a : Rat) * (x0.a : Rat))) + ((x0.b : Rat) * (x0.b : Rat))) + ((x0.c : Rat) * (x0.c : Rat)))) * (x0.a : Rat))), qc ((((2 : Rat) * (x0.a : Rat)) / ((((0 : Rat) + ((x0.a : Rat) * (x0.a : Rat))) + ((x0.b : Rat) * (x0.b : Rat))) + ((x0.c : Rat) * (x0.c : Rat)))) * (x0.b : Rat)), qc (idM.x.b - ((((2 : Rat) * (x0.a : Rat)) / ((((0 : Rat) + ((x0.a : Rat) * (x0.a : Rat))) + ((x0.b : Rat) * (x0.b : Rat))) + ((x0.c : Rat) * (x0.c : Rat)))) * (x0.b : Rat))), qc ((((2 : Rat) * (x0.a : Rat)) / ((((0 : Rat) + ((x0.a : Rat) * (x0.a : Rat))) + ((x0.b : Rat) * (x0.b : Rat))) + ((x0.c : Rat) * (x0.c : Rat)))) * (x0.c : Rat)), qc (idM.x.c - ((((2 : Rat) * (x0.a : Rat)) / ((((0 : Rat) + ((x0.a : Rat) * (x0.a : Rat))) + ((x0.b : Rat) * (x0.b : Rat))) + ((x0.c : Rat) * (x0.c : Rat)))) * (x0.c : Rat))), qc ((((2 : Rat) * (x0.a : Rat)) / ((((0 : Rat) + ((x0.a : Rat) * (x0.a : Rat))) + ((x0.b : Rat) * (x0.b : Rat))) + ((x0.c : Rat) * (x0.c : Rat)))) * (x0.d : Rat)), qc (2 : Rat), qc ((2 : Rat) * (x0.b : Rat)), qc (((2 : Rat) * (x0.b : Rat)) / ((((0 : Rat) + ((x0.a : Rat) * (x0.a : Rat))) + ((x0.b : Rat) * (x0.b : Rat))) + ((x0.c : Rat) * (x0.c : Rat)))), [.bool (decide (((((0 : Rat) + ((x0.a : Rat) * (x0.a : Rat))) + ((x0.b : Rat) * (x0.b : Rat))) + ((x0.c : Rat) * (x0.c : Rat))) ≠ 0))], qc ((((2 : Rat) * (x0.b : Rat)) / ((((0 : Rat) + ((x0.a : Rat) * (x0.a : Rat))) + ((x0.b : Rat) * (x0.b : Rat))) + ((x0.c : Rat) * (x0.c : Rat)))) * (x0.a : Rat)), qc (idM.y.a - ((((2 : Rat) * (x0.b : Rat)) / ((((0 : Rat) + ((x0.a : Rat) * (x0.a : Rat))) + ((x0.b : Rat) * (x0.b : Rat))) + ((x0.c : Rat) * (x0.c : Rat)))) * (x0.a : Rat))), qc ((((2 : Rat) * (x0.b : Rat)) / ((((0 : Rat) + ((x0.a : Rat) * (x0.a : Rat))) + ((x0.b : Rat) * (x0.b : Rat))) + ((x0.c : Rat) * (x0.c : Rat)))) * (x0.b : Rat)), qc (idM.y.b - ((((2 : Rat) * (x0.b : Rat)) / ((((0 : Rat) + ((x0.a : Rat) * (x0.a : Rat))) + ((x0.b : Rat) * (x0.b : Rat))) + ((x0.c : Rat) * (x0.c : Rat)))) * (x0.b : Rat))), qc ((((2 : Rat) * (x0.b : Rat)) / ((((0 : Rat) + ((x0.a : Rat) * (x0.a : Rat))) + ((x0.b : Rat) * (x0.b : Rat))) + ((x0.c : Rat) * (x0.c : Rat)))) * (x0.c : Rat)), qc (idM.y.c - ((((2 : Rat) * (x0.b : Rat)) / ((((0 : Rat) + ((x0.a : Rat) * (x0.a : Rat))) + ((x0.b : Rat) * (x0.b : Rat))) + ((x0.c : Rat) * (x0.c : Rat)))) * (x0.c : Rat))), qc ((((2 : Rat) * (x0.b : Rat)) / ((((0 : Rat) + ((x0.a : Rat) * (x0.a : Rat))) + ((x0.b : Rat) * (x0.b : Rat))) + ((x0.c : Rat) * (x0.c : Rat)))) * (x0.d : Rat)), qc (2 : Rat), qc ((2 : Rat) * (x0.c : Rat)), qc (((2 : Rat) * (x0.c : Rat)) / ((((0 : Rat) + ((x0.a : Rat) * (x0.a : Rat))) + ((x0.b : Rat) * (x0.b : Rat))) + ((x0.c : Rat) * (x0.c : Rat)))), [.bool (decide (((((0 : Rat) + ((x0.a : Rat) * (x0.a : Rat))) + ((x0.b : Rat) * (x0.b : Rat))) + ((x0.c : Rat) * (x0.c : Rat))) ≠ 0))], qc ((((2 : Rat) * (x0.c : Rat)) / ((((0 : Rat) + ((x0.a : Rat) * (x0.a : Rat))) + ((x0.b : Rat) * (x0.b : Rat))) + ((x0.c : Rat) * (x0.c : Rat)))) * (x0.a : Rat)), qc (idM.z.a - ((((2 : Rat) * (x0.c : Rat)) / ((((0 : Rat) + ((x0.a : Rat) * (x0.a : Rat))) + ((x0.b : Rat) * (x0.b : Rat))) + ((x0.c : Rat) * (x0.c : Rat)))) * (x0.a : Rat))), qc ((((2 : Rat) * (x0.c : Rat)) / ((((0 : Rat) + ((x0.a : Rat) * (x0.a : Rat))) + ((x0.b : Rat) * (x0.b : Rat))) + ((x0.c : Rat) * (x0.c : Rat)))) * (x0.b : Rat)), qc (idM.z.b - ((((2 : Rat) * (x0.c : Rat)) / ((((0 : Rat) + ((x0.a : Rat) * (x0.a : Rat))) + ((x0.b : Rat) * (x0.b : Rat))) + ((x0.c : Rat) * (x0.c : Rat)))) * (x0.b : Rat))), qc ((((2 : Rat) * (x0.c : Rat)) / ((((0 : Rat) + ((x0.a : Rat) * (x0.a : Rat))) + ((x0.b : Rat) * (x0.b : Rat))) + ((x0.c : Rat) * (x0.c : Rat)))) * (x0.c : Rat)), qc (idM.z.c - ((((2 : Rat) * (x0.c : Rat)) / ((((0 : Rat) + ((x0.a : Rat) * (x0.a : Rat))) + ((x0.b : Rat) * (x0.b : Rat))) + ((x0.c : Rat) * (x0.c : Rat)))) * (x0.c : Rat))), qc ((((2 : Rat) * (x0.c : Rat)) / ((((0 : Rat) + ((x0.a : Rat) * (x0.a : Rat))) + ((x0.b : Rat) * (x0.b : Rat))) + ((x0.c : Rat) * (x0.c : Rat)))) * (x0.d : Rat))]) [.b false] [.ga 0 8] 8 (.one (.agg [.pa 96, .pa 97, .pa 98, .pa 102, .pa 103, .pa 104, .pa 108, .pa 109, .pa 110, .pa 111, .pa 112, .pa 113, .pa 127, .pa 128, .pa 129, .pa 133, .pa 134, .pa 135, .pa 139, .pa 140, .pa 141, .pa 142, .pa 143, .pa 144, .pa 158, .pa 159, .pa 160, .pa 164, .pa 165, .pa 166, .pa 170, .pa 171, .pa 172, .pa 173, .pa 174, .pa 175])) (.call 80 [.ga 0 2, .agg [.p (.lit (.bool false)), .p (.lit (.string ⟨#[1]⟩))]] (.tup [.ga 8 3, .ca 11]) [] :: .call 80 [.ga 2 2, .agg [.p (.lit (.bool false)), .p (.lit (.string ⟨#[1]⟩))]] (.tup [.ga 12 3, .ca 15]) [] :: .call 80 [.ga 4 2, .agg [.p (.lit (.bool false)), .p (.lit (.string ⟨#[1]⟩))]] (.tup [.ga 16 3, .ca 19]) [] :: .call 80 [.ga 6 2, .agg [.p (.lit (.bool false)), .p (.lit (.string ⟨#[1]⟩))]] (.tup [.ga 20 3, .ca 23]) [] :: .call 65 [.c (.p (.lit (.int .i64 0)))] (.one (.ga 24 3)) [] :: .call 67 [.ga 8 3, .ga 8 3] (.one (.ga 27 3)) [] :: .call 66 [.ga 24 3, .ga 27 3] (.one (.ga 30 3)) [] :: .call 67 [.ga 12 3, .ga 12 3] (.one (.ga 33 3)) [] :: .call 66 [.ga 30 3, .ga 33 3] (.one (.ga 36 3)) [] :: .call 67 [.ga 16 3, .ga 16 3] (.one (.ga 39 3)) [] :: .call 66 [.ga 36 3, .ga 39 3] (.one (.ga 42 3)) [] :: .call 50 [.ga 42 3] (.one (.ca 45)) [] :: .op2 false .eql (.pa 45) (.p (.lit (.int .i64 0))) 46 :: .isB 46 false :: .call 23 [] (.one (.ga 47 36)) [] :: .call 65 [.c (.p (.lit (.int .i64 2)))] (.one (.ga 83 3)) [] :: .call 67 [.ga 83 3, .ga 8 3] (.one (.ga 86 3)) [] :: .call 51 [.ga 86 3, .ga 42 3] (.tup [.ga 89 3, .ca 92]) [] :: .call 67 [.ga 89 3, .ga 8 3] (.one (.ga 93 3)) [] :: .call 81 [.ga 47 3, .ga 93 3] (.one (.ga 96 3)) [] :: .call 67 [.ga 89 3, .ga 12 3] (.one (.ga 99 3)) [] :: .call 81 [.ga 50 3, .ga 99 3] (.one (.ga 102 3)) [] :: .call 67 [.ga 89 3, .ga 16 3] (.one (.ga 105 3)) [] :: .call 81 [.ga 53 3, .ga 105 3] (.one (.ga 108 3)) [] :: .call 67 [.ga 89 3, .ga 20 3] (.one (.ga 111 3)) [] :: .call 65 [.c (.p (.lit (.int .i64 2)))] (.one (.ga 114 3)) [] :: .call 67 [.ga 114 3, .ga 12 3] (.one (.ga 117 3)) [] :: .call 51 [.ga 117 3, .ga 42 3] (.tup [.ga 120 3, .ca 123]) [] :: .call 67 [.ga 120 3, .ga 8 3] (.one (.ga 124 3)) [] :: .call 81 [.ga 59 3, .ga 124 3] (.one (.ga 127 3)) [] :: .call 67 [.ga 120 3, .ga 12 3] (.one (.ga 130 3)) [] :: .call 81 [.ga 62 3, .ga 130 3] (.one (.ga 133 3)) [] :: .call 67 [.ga 120 3, .ga 16 3] (.one (.ga 136 3)) [] :: .call 81 [.ga 65 3, .ga 136 3] (.one (.ga 139 3)) [] :: .call 67 [.ga 120 3, .ga 20 3] (.one (.ga 142 3)) [] :: .call 65 [.c (.p (.lit (.int .i64 2)))] (.one (.ga 145 3)) [] :: .call 67 [.ga 145 3, .ga 16 3] (.one (.ga 148 3)) [] :: .call 51 [.ga 148 3, .ga 42 3] (.tup [.ga 151 3, .ca 154]) [] :: .call 67 [.ga 151 3, .ga 8 3] (.one (.ga 155 3)) [] :: .call 81 [.ga 71 3, .ga 155 3] (.one (.ga 158 3)) [] :: .call 67 [.ga 151 3, .ga 12 3] (.one (.ga 161 3)) [] :: .call 81 [.ga 74 3, .ga 161 3] (.one (.ga 164 3)) [] :: .call 67 [.ga 151 3, .ga 16 3] (.one (.ga 167 3)) [] :: .call 81 [.ga 77 3, .ga 167 3] (.one (.ga 170 3)) [] :: .call 67 [.ga 151 3, .ga 20 3] (.one (.ga 173 3)) [] :: []) Tryz.func28 (by kernel_rfl) rfl (by kernel_rfl) rfl (by kernel_rfl)
    ⟨fun γ w' _ _ => by have h := rMake (IsZ.can f1) (by decide) IsZ.one (by decide) w'; rw [divInt_unit] at h; exact h,
     fun γ w' _ _ => by have h := rMake (IsZ.can f3) (by decide) IsZ.one (by decide) w'; rw [divInt_unit] at h; exact h,
     fun γ w' _ _ => by have h := rMake (IsZ.can f5) (by decide) IsZ.one (by decide) w'; rw [divInt_unit] at h; exact h,
     fun γ w' _ _ => by have h := rMake (IsZ.can f7) (by decide) IsZ.one (by decide) w'; rw [divInt_unit] at h; exact h,
     fun γ w' _ _ => by have h := u7num_0 w'; exact h,
     fun γ w' _ _ => rMul (IsQ.can f2) (by decide) (IsQ.can f2) (by decide) w',
     fun γ w' _ _ => rAdd (IsQ.can f9) (by decide) (IsQ.can f10) (by decide) w',
     fun γ w' _ _ => rMul (IsQ.can f4) (by decide) (IsQ.can f4) (by decide) w',
     fun γ w' _ _ => rAdd (IsQ.can f11) (by decide) (IsQ.can f12) (by decide) w',
     fun γ w' _ _ => rMul (IsQ.can f6) (by decide) (IsQ.can f6) (by decide) w',
     fun γ w' _ _ => rAdd (IsQ.can f13) (by decide) (IsQ.can f14) (by decide) w',
     fun γ w' _ _ => rSign (IsQ.can f15) (by decide) w',
     congrArg (fun z => some (Value.bool z)) (by rw [sgQ_beq]; exact decide_eq_false (sq_ne hq) : ((sgQ ((((0 : Rat) + ((x0.a : Rat) * (x0.a : Rat))) + ((x0.b : Rat) * (x0.b : Rat))) + ((x0.c : Rat) * (x0.c : Rat)))) == (0 : Int)) = false),
     rfl,
     fun γ w' _ _ => by have h := u7Same  w'; exact h,
     fun γ w' _ _ => by have h := u7num_2 w'; exact h,
     fun γ w' _ _ => rMul (IsQ.can f17) (by decide) (IsQ.can f2) (by decide) w',
     fun γ w' _ _ => rDiv (IsQ.can f18) (by decide) (IsQ.can f15) (by decide) w',
     fun γ w' _ _ => rMul (IsQ.can f19) (by decide) (IsQ.can f2) (by decide) w',
     fun γ w' _ _ => rSub (IsQ.can f21) (by decide) (IsQ.can f20) (by decide) w',
     fun γ w' _ _ => rMul (IsQ.can f19) (by decide) (IsQ.can f4) (by decide) w',
     fun γ w' _ _ => rSub (IsQ.can f24) (by decide) (IsQ.can f23) (by decide) w',
     fun γ w' _ _ => rMul (IsQ.can f19) (by decide) (IsQ.can f6) (by decide) w',
     fun γ w' _ _ => rSub (IsQ.can f27) (by decide) (IsQ.can f26) (by decide) w',
     fun γ w' _ _ => rMul (IsQ.can f19) (by decide) (IsQ.can f8) (by decide) w',
     fun γ w' _ _ => by have h := u7num_2 w'; exact h,
     fun γ w' _ _ => rMul (IsQ.can f17) (by decide) (IsQ.can f4) (by decide) w',
     fun γ w' _ _ => rDiv (IsQ.can f30) (by decide) (IsQ.can f15) (by decide) w',
     fun γ w' _ _ => rMul (IsQ.can f31) (by decide) (IsQ.can f2) (by decide) w',
     fun γ w' _ _ => rSub (IsQ.can f33) (by decide) (IsQ.can f32) (by decide) w',
     fun γ w' _ _ => rMul (IsQ.can f31) (by decide) (IsQ.can f4) (by decide) w',
     fun γ w' _ _ => rSub (IsQ.can f36) (by decide) (IsQ.can f35) (by decide) w',
     fun γ w' _ _ => rMul (IsQ.can f31) (by decide) (IsQ.can f6) (by decide) w',
     fun γ w' _ _ => rSub (IsQ.can f39) (by decide) (IsQ.can f38) (by decide) w',
     fun γ w' _ _ => rMul (IsQ.can f31) (by decide) (IsQ.can f8) (by decide) w',
     fun γ w' _ _ => by have h := u7num_2 w'; exact h,
     fun γ w' _ _ => rMul (IsQ.can f17) (by decide) (IsQ.can f6) (by decide) w',
     fun γ w' _ _ => rDiv (IsQ.can f42) (by decide) (IsQ.can f15) (by decide) w',
     fun γ w' _ _ => rMul (IsQ.can f43) (by decide) (IsQ.can f2) (by decide) w',
     fun γ w' _ _ => rSub (IsQ.can f45) (by decide) (IsQ.can f44) (by decide) w',
     fun γ w' _ _ => rMul (IsQ.can f43) (by decide) (IsQ.can f4) (by decide) w',
     fun γ w' _ _ => rSub (IsQ.can f48) (by decide) (IsQ.can f47) (by decide) w',
     fun γ w' _ _ => rMul (IsQ.can f43) (by decide) (IsQ.can f6) (by decide) w',
     fun γ w' _ _ => rSub (IsQ.can f51) (by decide) (IsQ.can f50) (by decide) w',
     fun γ w' _ _ => rMul (IsQ.can f43) (by decide) (IsQ.can f8) (by decide) w'⟩
  exact H
end Go.Proofs.YtodcomijjmobdaaGreatDoor
