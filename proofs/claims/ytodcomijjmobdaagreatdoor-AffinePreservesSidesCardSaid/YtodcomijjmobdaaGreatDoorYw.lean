/- Package affine: planes. -/
import Derived.Test.YtodcomijjmobdaaGreatDoorYp
set_option linter.unusedVariables false
set_option linter.unusedSimpArgs false
namespace Go.Proofs.YtodcomijjmobdaaGreatDoor
open Go.RowKit NM SX
set_option maxRecDepth 100000 in
theorem afPlane_0 {ux0 : Value} {x0 : M3} {kx0 : Nat} (hx0 : IsM ux0 x0 kx0) (lx0 : kx0 ≤ 400) {x1 : Z4} {kx1 : Nat} (zx1 : Fk x1 kx1) (lx1 : kx1 ≤ 100) (w : World) (hT : TabC w) (hd : detM x0 = 0) :
    Calls Tryz.prog 25 #[ux0, FV x1] w fun e w' => e = .returned (.tuple #[.agg #[.bool false, .string ⟨#[]⟩, .bool false, .string ⟨#[]⟩, .bool false, .string ⟨#[]⟩, .bool false, .string ⟨#[]⟩], .bool false]) ∧ Below w.heap.size w w' := by
  replace hx0 := hx0.up lx0
  have zx0 := hx0.sz (by decide)
  obtain ⟨x0b, x0s, rfl, wx00, wx01, wx02, wx03, wx04, wx05, wx06, wx07, wx08, wx09, wx010, wx011⟩ := id hx0
  replace zx1 := zx1.up lx1
  have f1 : Xk (fromE x0) 5201 := Xk.up ((Xk.fromE zx0)) (by decide)
  have H := SX.run (w := w) (List.flatten [(.bool (x0b 0) :: .string (x0s 0) :: .string (x0s 1) :: .bool (x0b 1) :: .string (x0s 2) :: .string (x0s 3) :: .bool (x0b 2) :: .string (x0s 4) :: .string (x0s 5) :: .bool (x0b 3) :: .string (x0s 6) :: .string (x0s 7) :: .bool (x0b 4) :: .string (x0s 8) :: .string (x0s 9) :: .bool (x0b 5) :: .string (x0s 10) :: .string (x0s 11) :: .bool (x0b 6) :: .string (x0s 12) :: .string (x0s 13) :: .bool (x0b 7) :: .string (x0s 14) :: .string (x0s 15) :: .bool (x0b 8) :: .string (x0s 16) :: .string (x0s 17) :: .bool (x0b 9) :: .string (x0s 18) :: .string (x0s 19) :: .bool (x0b 10) :: .string (x0s 20) :: .string (x0s 21) :: .bool (x0b 11) :: .string (x0s 22) :: .string (x0s 23) :: []), fc x1, xc (fromE x0), (.bool false :: .string ⟨#[]⟩ :: .bool false :: .string ⟨#[]⟩ :: .bool false :: .string ⟨#[]⟩ :: .bool false :: .string ⟨#[]⟩ :: .bool false :: .string ⟨#[]⟩ :: .bool false :: .string ⟨#[]⟩ :: .bool false :: .string ⟨#[]⟩ :: .bool false :: .string ⟨#[]⟩ :: .bool false :: .string ⟨#[]⟩ :: .bool false :: .string ⟨#[]⟩ :: .bool false :: .string ⟨#[]⟩ :: .bool false :: .string ⟨#[]⟩ :: .bool false :: .string ⟨#[]⟩ :: .bool false :: .string ⟨#[]⟩ :: .bool false :: .string ⟨#[]⟩ :: .bool false :: .string ⟨#[]⟩ :: .bool false :: .bool true :: [])]) [.b true] [.ga 0 36, .ga 36 8] 44 (.tup [.agg [.p (.lit (.bool false)), .p (.lit (.string ⟨#[]⟩)), .p (.lit (.bool false)), .p (.lit (.string ⟨#[]⟩)), .p (.lit (.bool false)), .p (.lit (.string ⟨#[]⟩)), .p (.lit (.bool false)), .p (.lit (.string ⟨#[]⟩))], .c (.p (.lit (.bool false)))]) [.call 48 [.ga 0 36] (.one (.ga 44 32)) [], .call 47 [.ga 44 32] (.tup [.ga 76 32, .ca 108]) [], .op1 .not (.pa 108) 109, .isB 109 true] Tryz.func25 (by kernel_rfl) rfl (by kernel_rfl) rfl (by kernel_rfl)
    ⟨fun γ w' bw _ => by have h := afFromMap hx0 (by decide) w' (hT.later bw); exact h,
     fun γ w' _ _ => by have h := afInvE_0 f1 (by decide) w' ((det_zero (rep_from x0)).2 hd); exact h,
     congrArg (fun z => some (Value.bool z)) (by first | rfl | assumption | decide | simp [*] : (!false) = true),
     rfl⟩
  exact H
theorem plFlipB {x0 : Z4} {kx0 : Nat} (zx0 : Fk x0 kx0) (lx0 : kx0 ≤ 100000) (w : World) :
    Calls Tryz.prog 79 #[FV x0] w fun e w' => e = .returned (FV (negF x0)) ∧ Below w.heap.size w w' := by
  replace zx0 := zx0.up lx0
  have f1 : Zk x0.a 100000 := Zk.up (zx0.1) (by decide)
  have f2 : Zk (-x0.a) 100000 := Zk.up (mg_neg_size f1) (by decide)
  have f3 : Zk x0.b 100000 := Zk.up (zx0.2.1) (by decide)
  have f4 : Zk (-x0.b) 100000 := Zk.up (mg_neg_size f3) (by decide)
  have f5 : Zk x0.c 100000 := Zk.up (zx0.2.2.1) (by decide)
  have f6 : Zk (-x0.c) 100000 := Zk.up (mg_neg_size f5) (by decide)
  have f7 : Zk x0.d 100000 := Zk.up (zx0.2.2.2) (by decide)
  have f8 : Zk (-x0.d) 100000 := Zk.up (mg_neg_size f7) (by decide)
  have H := SX.run (w := w) (List.flatten [fc x0, fc x0, zc (-x0.a), zc (-x0.b), zc (-x0.c), zc (-x0.d), fc (Z4.mk (-x0.a) (-x0.b) (-x0.c) (-x0.d))]) [] [.ga 0 8] 8 (.one (.ga 24 8)) [.call 94 [.ga 0 8] (.one (.ga 8 8)) [], .call 77 [.ga 8 2] (.one (.ga 16 2)) [], .call 77 [.ga 10 2] (.one (.ga 18 2)) [], .call 77 [.ga 12 2] (.one (.ga 20 2)) [], .call 77 [.ga 14 2] (.one (.ga 22 2)) [], .call 127 [.ga 16 8] (.one (.ga 24 8)) []] Tryz.func79 (by kernel_rfl) rfl (by kernel_rfl) rfl (by kernel_rfl)
    ⟨fun γ w' _ _ => plCo (sg x0.a) (mg x0.a) (sg x0.b) (mg x0.b) (sg x0.c) (mg x0.c) (sg x0.d) (mg x0.d) w',
     fun γ w' _ _ => iNeg (IsZ.can f1) (by decide) w',
     fun γ w' _ _ => iNeg (IsZ.can f3) (by decide) w',
     fun γ w' _ _ => iNeg (IsZ.can f5) (by decide) w',
     fun γ w' _ _ => iNeg (IsZ.can f7) (by decide) w',
     fun γ w' _ _ => plFc (sg (-x0.a)) (mg (-x0.a)) (sg (-x0.b)) (mg (-x0.b)) (sg (-x0.c)) (mg (-x0.c)) (sg (-x0.d)) (mg (-x0.d)) w'⟩
  exact H
set_option maxRecDepth 100000 in
theorem afPlane_p {ux0 : Value} {x0 : M3} {kx0 : Nat} (hx0 : IsM ux0 x0 kx0) (lx0 : kx0 ≤ 400) {x1 : Z4} {kx1 : Nat} (zx1 : Fk x1 kx1) (lx1 : kx1 ≤ 100) (w : World) (hT : TabC w) (hd : detM x0 ≠ 0) (hq : ¬ flatF x1) (zi : Mk (invM x0) 400) (hs : 0 < (invE (fromE x0)) 15) :
    Calls Tryz.prog 25 #[ux0, FV x1] w fun e w' => e = .returned (.tuple #[FV (planeM x0 x1), .bool true]) ∧ Below w.heap.size w w' := by
  replace hx0 := hx0.up lx0
  have zx0 := hx0.sz (by decide)
  obtain ⟨x0b, x0s, rfl, wx00, wx01, wx02, wx03, wx04, wx05, wx06, wx07, wx08, wx09, wx010, wx011⟩ := id hx0
  replace zx1 := zx1.up lx1
  have f1 : Xk (fromE x0) 5201 := Xk.up ((Xk.fromE zx0)) (by decide)
  have f2 : Xk (invE (fromE x0)) 15607 := Xk.up ((Xk.invE f1)) (by decide)
  have f3 : Fk (eq4 x1) 100 := Fk.up ((Fk.eq4 zx1)) (by decide)
  have f4 : Fk (plE (invE (fromE x0)) x1) 15711 := Fk.up ((Fk.plE f2 zx1)) (by decide)
  have f5 : Zk (colE (invE (fromE x0)) x1 3) 15711 := Zk.up ((Zk.colE f2 zx1 (by decide))) (by decide)
  have f6 : Fk (planeM x0 x1) 6412 := Fk.up ((Fk.planeM zi zx1)) (by decide)
  have f7 : Zk ((invE (fromE x0)) 15) 15607 := Zk.up ((f2 15 (by decide))) (by decide)
  have H := SX.run (w := w) (List.flatten [(.bool (x0b 0) :: .string (x0s 0) :: .string (x0s 1) :: .bool (x0b 1) :: .string (x0s 2) :: .string (x0s 3) :: .bool (x0b 2) :: .string (x0s 4) :: .string (x0s 5) :: .bool (x0b 3) :: .string (x0s 6) :: .string (x0s 7) :: .bool (x0b 4) :: .string (x0s 8) :: .string (x0s 9) :: .bool (x0b 5) :: .string (x0s 10) :: .string (x0s 11) :: .bool (x0b 6) :: .string (x0s 12) :: .string (x0s 13) :: .bool (x0b 7) :: .string (x0s 14) :: .string (x0s 15) :: .bool (x0b 8) :: .string (x0s 16) :: .string (x0s 17) :: .bool (x0b 9) :: .string (x0s 18) :: .string (x0s 19) :: .bool (x0b 10) :: .string (x0s 20) :: .string (x0s 21) :: .bool (x0b 11) :: .string (x0s 22) :: .string (x0s 23) :: []), fc x1, xc (fromE x0), xc (invE (fromE x0)), [.bool true, .bool false], fc (eq4 x1), [.bool (sg (plE (invE (fromE x0)) x1).a), .string (mg (plE (invE (fromE x0)) x1).a), .bool (sg (plE (invE (fromE x0)) x1).b), .string (mg (plE (invE (fromE x0)) x1).b), .bool (sg (plE (invE (fromE x0)) x1).c), .string (mg (plE (invE (fromE x0)) x1).c)], zc (colE (invE (fromE x0)) x1 3), [.bool (sg (plE (invE (fromE x0)) x1).d), .string (mg (plE (invE (fromE x0)) x1).d)], fc (planeM x0 x1), [.bool true, .int .i64 (cmpZ ((invE (fromE x0)) 15) 0), .bool false]]) [.b false, .b false] [.ga 0 36, .ga 36 8] 44 (.tup [.ga 128 8, .ca 136]) [.call 48 [.ga 0 36] (.one (.ga 44 32)) [], .call 47 [.ga 44 32] (.tup [.ga 76 32, .ca 108]) [], .op1 .not (.pa 108) 109, .isB 109 false, .call 73 [.ga 36 8] (.one (.ga 110 8)) [], .call 74 [.c (.p (.lit (.int .i64 0))), .c (.p (.ptr 4 0)), .c (.p (.ptr 3 0))] (.one (.ga 118 2)) (SX.number 4097 (SX.rg 110 8) ++ SX.number 3073 (SX.rg 76 32)), .call 74 [.c (.p (.lit (.int .i64 1))), .c (.p (.ptr 4 0)), .c (.p (.ptr 3 0))] (.one (.ga 120 2)) (SX.number 4097 (SX.rg 110 8) ++ SX.number 3073 (SX.rg 76 32)), .call 74 [.c (.p (.lit (.int .i64 2))), .c (.p (.ptr 4 0)), .c (.p (.ptr 3 0))] (.one (.ga 122 2)) (SX.number 4097 (SX.rg 110 8) ++ SX.number 3073 (SX.rg 76 32)), .call 74 [.c (.p (.lit (.int .i64 3))), .c (.p (.ptr 4 0)), .c (.p (.ptr 3 0))] (.one (.ga 124 2)) (SX.number 4097 (SX.rg 110 8) ++ SX.number 3073 (SX.rg 76 32)), .call 77 [.ga 124 2] (.one (.ga 126 2)) [], .call 76 [.agg [.pa 118, .pa 119, .pa 120, .pa 121, .pa 122, .pa 123, .pa 126, .pa 127]] (.tup [.ga 128 8, .ca 136]) [], .call 78 [.ga 106 2] (.one (.ca 137)) [], .op2 false .lss (.pa 137) (.p (.lit (.int .i64 0))) 138, .isB 138 false] Tryz.func25 (by kernel_rfl) rfl (by kernel_rfl) rfl (by kernel_rfl)
    ⟨fun γ w' bw _ => by have h := afFromMap hx0 (by decide) w' (hT.later bw); exact h,
     fun γ w' _ _ => by have h := afInvE_1 f1 (by decide) w' (fun e => hd ((det_zero (rep_from x0)).1 e)); exact h,
     congrArg (fun z => some (Value.bool z)) (by first | rfl | assumption | decide | simp [*] : (!true) = false),
     rfl,
     fun γ w' _ _ => afEq zx1 (by decide) w',
     fun γ w' bw hm => by have h := afPl_c (c := 0) (by decide) f2 (by decide) zx1 (by decide) w' (γ 4) (γ 3) (mem_box (b := 4) (l := SX.rg 110 8) hm rfl (by kernel_rfl)) (mem_box (b := 3) (l := SX.rg 76 32) hm rfl (by kernel_rfl)); exact h,
     fun γ w' bw hm => by have h := afPl_c (c := 1) (by decide) f2 (by decide) zx1 (by decide) w' (γ 4) (γ 3) (mem_box (b := 4) (l := SX.rg 110 8) hm rfl (by kernel_rfl)) (mem_box (b := 3) (l := SX.rg 76 32) hm rfl (by kernel_rfl)); exact h,
     fun γ w' bw hm => by have h := afPl_c (c := 2) (by decide) f2 (by decide) zx1 (by decide) w' (γ 4) (γ 3) (mem_box (b := 4) (l := SX.rg 110 8) hm rfl (by kernel_rfl)) (mem_box (b := 3) (l := SX.rg 76 32) hm rfl (by kernel_rfl)); exact h,
     fun γ w' bw hm => by have h := afPl_c (c := 3) (by decide) f2 (by decide) zx1 (by decide) w' (γ 4) (γ 3) (mem_box (b := 4) (l := SX.rg 110 8) hm rfl (by kernel_rfl)) (mem_box (b := 3) (l := SX.rg 76 32) hm rfl (by kernel_rfl)); exact h,
     fun γ w' _ _ => by have h := iNeg (IsZ.can f5) (by decide) w'; exact h,
     fun γ w' bw _ => by have h := plNormalize_n (IsF.can f4) (by decide) w' (hT.later bw) (pl_flat (rep_inv (rep_from x0) hd) hd hq); rw [pl_pos (rep_inv (rep_from x0) hd) hs x1] at h; exact h,
     fun γ w' _ _ => iSign (IsZ.can f7) (by decide) w',
     congrArg (fun z => some (Value.bool z)) (by rw [cmpZ_lt0]; exact decide_eq_false (by omega) : decide ((cmpZ ((invE (fromE x0)) 15) 0) < (0 : Int)) = false),
     rfl⟩
  exact H
set_option maxRecDepth 100000 in
theorem afPlane_n {ux0 : Value} {x0 : M3} {kx0 : Nat} (hx0 : IsM ux0 x0 kx0) (lx0 : kx0 ≤ 400) {x1 : Z4} {kx1 : Nat} (zx1 : Fk x1 kx1) (lx1 : kx1 ≤ 100) (w : World) (hT : TabC w) (hd : detM x0 ≠ 0) (hq : ¬ flatF x1) (zi : Mk (invM x0) 400) (hs : (invE (fromE x0)) 15 < 0) :
    Calls Tryz.prog 25 #[ux0, FV x1] w fun e w' => e = .returned (.tuple #[FV (planeM x0 x1), .bool true]) ∧ Below w.heap.size w w' := by
  replace hx0 := hx0.up lx0
  have zx0 := hx0.sz (by decide)
  obtain ⟨x0b, x0s, rfl, wx00, wx01, wx02, wx03, wx04, wx05, wx06, wx07, wx08, wx09, wx010, wx011⟩ := id hx0
  replace zx1 := zx1.up lx1
  have f1 : Xk (fromE x0) 5201 := Xk.up ((Xk.fromE zx0)) (by decide)
  have f2 : Xk (invE (fromE x0)) 15607 := Xk.up ((Xk.invE f1)) (by decide)
  have f3 : Fk (eq4 x1) 100 := Fk.up ((Fk.eq4 zx1)) (by decide)
  have f4 : Fk (plE (invE (fromE x0)) x1) 15711 := Fk.up ((Fk.plE f2 zx1)) (by decide)
  have f5 : Zk (colE (invE (fromE x0)) x1 3) 15711 := Zk.up ((Zk.colE f2 zx1 (by decide))) (by decide)
  have f6 : Fk (prim (plE (invE (fromE x0)) x1)) 15711 := Fk.up ((Fk.prim f4)) (by decide)
  have f7 : Zk ((invE (fromE x0)) 15) 15607 := Zk.up ((f2 15 (by decide))) (by decide)
  have f8 : Fk (planeM x0 x1) 6412 := Fk.up ((Fk.planeM zi zx1)) (by decide)
  have H := SX.run (w := w) (List.flatten [(.bool (x0b 0) :: .string (x0s 0) :: .string (x0s 1) :: .bool (x0b 1) :: .string (x0s 2) :: .string (x0s 3) :: .bool (x0b 2) :: .string (x0s 4) :: .string (x0s 5) :: .bool (x0b 3) :: .string (x0s 6) :: .string (x0s 7) :: .bool (x0b 4) :: .string (x0s 8) :: .string (x0s 9) :: .bool (x0b 5) :: .string (x0s 10) :: .string (x0s 11) :: .bool (x0b 6) :: .string (x0s 12) :: .string (x0s 13) :: .bool (x0b 7) :: .string (x0s 14) :: .string (x0s 15) :: .bool (x0b 8) :: .string (x0s 16) :: .string (x0s 17) :: .bool (x0b 9) :: .string (x0s 18) :: .string (x0s 19) :: .bool (x0b 10) :: .string (x0s 20) :: .string (x0s 21) :: .bool (x0b 11) :: .string (x0s 22) :: .string (x0s 23) :: []), fc x1, xc (fromE x0), xc (invE (fromE x0)), [.bool true, .bool false], fc (eq4 x1), [.bool (sg (plE (invE (fromE x0)) x1).a), .string (mg (plE (invE (fromE x0)) x1).a), .bool (sg (plE (invE (fromE x0)) x1).b), .string (mg (plE (invE (fromE x0)) x1).b), .bool (sg (plE (invE (fromE x0)) x1).c), .string (mg (plE (invE (fromE x0)) x1).c)], zc (colE (invE (fromE x0)) x1 3), [.bool (sg (plE (invE (fromE x0)) x1).d), .string (mg (plE (invE (fromE x0)) x1).d)], fc (prim (plE (invE (fromE x0)) x1)), [.bool true, .int .i64 (cmpZ ((invE (fromE x0)) 15) 0), .bool true], fc (planeM x0 x1)]) [.b false, .b true] [.ga 0 36, .ga 36 8] 44 (.tup [.ga 139 8, .ca 136]) [.call 48 [.ga 0 36] (.one (.ga 44 32)) [], .call 47 [.ga 44 32] (.tup [.ga 76 32, .ca 108]) [], .op1 .not (.pa 108) 109, .isB 109 false, .call 73 [.ga 36 8] (.one (.ga 110 8)) [], .call 74 [.c (.p (.lit (.int .i64 0))), .c (.p (.ptr 4 0)), .c (.p (.ptr 3 0))] (.one (.ga 118 2)) (SX.number 4097 (SX.rg 110 8) ++ SX.number 3073 (SX.rg 76 32)), .call 74 [.c (.p (.lit (.int .i64 1))), .c (.p (.ptr 4 0)), .c (.p (.ptr 3 0))] (.one (.ga 120 2)) (SX.number 4097 (SX.rg 110 8) ++ SX.number 3073 (SX.rg 76 32)), .call 74 [.c (.p (.lit (.int .i64 2))), .c (.p (.ptr 4 0)), .c (.p (.ptr 3 0))] (.one (.ga 122 2)) (SX.number 4097 (SX.rg 110 8) ++ SX.number 3073 (SX.rg 76 32)), .call 74 [.c (.p (.lit (.int .i64 3))), .c (.p (.ptr 4 0)), .c (.p (.ptr 3 0))] (.one (.ga 124 2)) (SX.number 4097 (SX.rg 110 8) ++ SX.number 3073 (SX.rg 76 32)), .call 77 [.ga 124 2] (.one (.ga 126 2)) [], .call 76 [.agg [.pa 118, .pa 119, .pa 120, .pa 121, .pa 122, .pa 123, .pa 126, .pa 127]] (.tup [.ga 128 8, .ca 136]) [], .call 78 [.ga 106 2] (.one (.ca 137)) [], .op2 false .lss (.pa 137) (.p (.lit (.int .i64 0))) 138, .isB 138 true, .call 79 [.ga 128 8] (.one (.ga 139 8)) []] Tryz.func25 (by kernel_rfl) rfl (by kernel_rfl) rfl (by kernel_rfl)
    ⟨fun γ w' bw _ => by have h := afFromMap hx0 (by decide) w' (hT.later bw); exact h,
     fun γ w' _ _ => by have h := afInvE_1 f1 (by decide) w' (fun e => hd ((det_zero (rep_from x0)).1 e)); exact h,
     congrArg (fun z => some (Value.bool z)) (by first | rfl | assumption | decide | simp [*] : (!true) = false),
     rfl,
     fun γ w' _ _ => afEq zx1 (by decide) w',
     fun γ w' bw hm => by have h := afPl_c (c := 0) (by decide) f2 (by decide) zx1 (by decide) w' (γ 4) (γ 3) (mem_box (b := 4) (l := SX.rg 110 8) hm rfl (by kernel_rfl)) (mem_box (b := 3) (l := SX.rg 76 32) hm rfl (by kernel_rfl)); exact h,
     fun γ w' bw hm => by have h := afPl_c (c := 1) (by decide) f2 (by decide) zx1 (by decide) w' (γ 4) (γ 3) (mem_box (b := 4) (l := SX.rg 110 8) hm rfl (by kernel_rfl)) (mem_box (b := 3) (l := SX.rg 76 32) hm rfl (by kernel_rfl)); exact h,
     fun γ w' bw hm => by have h := afPl_c (c := 2) (by decide) f2 (by decide) zx1 (by decide) w' (γ 4) (γ 3) (mem_box (b := 4) (l := SX.rg 110 8) hm rfl (by kernel_rfl)) (mem_box (b := 3) (l := SX.rg 76 32) hm rfl (by kernel_rfl)); exact h,
     fun γ w' bw hm => by have h := afPl_c (c := 3) (by decide) f2 (by decide) zx1 (by decide) w' (γ 4) (γ 3) (mem_box (b := 4) (l := SX.rg 110 8) hm rfl (by kernel_rfl)) (mem_box (b := 3) (l := SX.rg 76 32) hm rfl (by kernel_rfl)); exact h,
     fun γ w' _ _ => by have h := iNeg (IsZ.can f5) (by decide) w'; exact h,
     fun γ w' bw _ => by have h := plNormalize_n (IsF.can f4) (by decide) w' (hT.later bw) (pl_flat (rep_inv (rep_from x0) hd) hd hq); exact h,
     fun γ w' _ _ => iSign (IsZ.can f7) (by decide) w',
     congrArg (fun z => some (Value.bool z)) (by rw [cmpZ_lt0]; exact decide_eq_true hs : decide ((cmpZ ((invE (fromE x0)) 15) 0) < (0 : Int)) = true),
     rfl,
     fun γ w' _ _ => by have h := plFlipB f6 (by decide) w'; rw [pl_neg (rep_inv (rep_from x0) hd) hs x1] at h; exact h⟩
  exact H
theorem afPlane_1 {ux0 : Value} {x0 : M3} {kx0 : Nat} (hx0 : IsM ux0 x0 kx0) (lx0 : kx0 ≤ 400) {x1 : Z4} {kx1 : Nat} (zx1 : Fk x1 kx1) (lx1 : kx1 ≤ 100) (w : World) (hT : TabC w) (hd : detM x0 ≠ 0) (hq : ¬ flatF x1) (zi : Mk (invM x0) 400) :
    Calls Tryz.prog 25 #[ux0, FV x1] w fun e w' => e = .returned (.tuple #[FV (planeM x0 x1), .bool true]) ∧ Below w.heap.size w w' := by
  have e15 := (rep_inv (rep_from x0) hd).1
  by_cases hs : 0 < (invE (fromE x0)) 15
  · exact afPlane_p hx0 lx0 zx1 lx1 w hT hd hq zi hs
  · exact afPlane_n hx0 lx0 zx1 lx1 w hT hd hq zi (by omega)
set_option maxRecDepth 100000 in
theorem afPlane_pb {ux0 : Value} {x0 : M3} {kx0 : Nat} (hx0 : IsM ux0 x0 kx0) (lx0 : kx0 ≤ 400) {x1 : Z4} {kx1 : Nat} (zx1 : Fk x1 kx1) (lx1 : kx1 ≤ 4800) (w : World) (hT : TabC w) (hd : detM x0 ≠ 0) (hq : ¬ flatF x1) (zi : Mk (invM x0) 6) (hs : 0 < (invE (fromE x0)) 15) :
    Calls Tryz.prog 25 #[ux0, FV x1] w fun e w' => e = .returned (.tuple #[FV (planeM x0 x1), .bool true]) ∧ Below w.heap.size w w' := by
  replace hx0 := hx0.up lx0
  have zx0 := hx0.sz (by decide)
  obtain ⟨x0b, x0s, rfl, wx00, wx01, wx02, wx03, wx04, wx05, wx06, wx07, wx08, wx09, wx010, wx011⟩ := id hx0
  replace zx1 := zx1.up lx1
  have f1 : Xk (fromE x0) 5201 := Xk.up ((Xk.fromE zx0)) (by decide)
  have f2 : Xk (invE (fromE x0)) 15607 := Xk.up ((Xk.invE f1)) (by decide)
  have f3 : Fk (eq4 x1) 4800 := Fk.up ((Fk.eq4 zx1)) (by decide)
  have f4 : Fk (plE (invE (fromE x0)) x1) 20411 := Fk.up ((Fk.plE f2 zx1)) (by decide)
  have f5 : Zk (colE (invE (fromE x0)) x1 3) 20411 := Zk.up ((Zk.colE f2 zx1 (by decide))) (by decide)
  have f6 : Fk (planeM x0 x1) 76884 := Fk.up ((Fk.planeM zi zx1)) (by decide)
  have f7 : Zk ((invE (fromE x0)) 15) 15607 := Zk.up ((f2 15 (by decide))) (by decide)
  have H := SX.run (w := w) (List.flatten [(.bool (x0b 0) :: .string (x0s 0) :: .string (x0s 1) :: .bool (x0b 1) :: .string (x0s 2) :: .string (x0s 3) :: .bool (x0b 2) :: .string (x0s 4) :: .string (x0s 5) :: .bool (x0b 3) :: .string (x0s 6) :: .string (x0s 7) :: .bool (x0b 4) :: .string (x0s 8) :: .string (x0s 9) :: .bool (x0b 5) :: .string (x0s 10) :: .string (x0s 11) :: .bool (x0b 6) :: .string (x0s 12) :: .string (x0s 13) :: .bool (x0b 7) :: .string (x0s 14) :: .string (x0s 15) :: .bool (x0b 8) :: .string (x0s 16) :: .string (x0s 17) :: .bool (x0b 9) :: .string (x0s 18) :: .string (x0s 19) :: .bool (x0b 10) :: .string (x0s 20) :: .string (x0s 21) :: .bool (x0b 11) :: .string (x0s 22) :: .string (x0s 23) :: []), fc x1, xc (fromE x0), xc (invE (fromE x0)), [.bool true, .bool false], fc (eq4 x1), [.bool (sg (plE (invE (fromE x0)) x1).a), .string (mg (plE (invE (fromE x0)) x1).a), .bool (sg (plE (invE (fromE x0)) x1).b), .string (mg (plE (invE (fromE x0)) x1).b), .bool (sg (plE (invE (fromE x0)) x1).c), .string (mg (plE (invE (fromE x0)) x1).c)], zc (colE (invE (fromE x0)) x1 3), [.bool (sg (plE (invE (fromE x0)) x1).d), .string (mg (plE (invE (fromE x0)) x1).d)], fc (planeM x0 x1), [.bool true, .int .i64 (cmpZ ((invE (fromE x0)) 15) 0), .bool false]]) [.b false, .b false] [.ga 0 36, .ga 36 8] 44 (.tup [.ga 128 8, .ca 136]) [.call 48 [.ga 0 36] (.one (.ga 44 32)) [], .call 47 [.ga 44 32] (.tup [.ga 76 32, .ca 108]) [], .op1 .not (.pa 108) 109, .isB 109 false, .call 73 [.ga 36 8] (.one (.ga 110 8)) [], .call 74 [.c (.p (.lit (.int .i64 0))), .c (.p (.ptr 4 0)), .c (.p (.ptr 3 0))] (.one (.ga 118 2)) (SX.number 4097 (SX.rg 110 8) ++ SX.number 3073 (SX.rg 76 32)), .call 74 [.c (.p (.lit (.int .i64 1))), .c (.p (.ptr 4 0)), .c (.p (.ptr 3 0))] (.one (.ga 120 2)) (SX.number 4097 (SX.rg 110 8) ++ SX.number 3073 (SX.rg 76 32)), .call 74 [.c (.p (.lit (.int .i64 2))), .c (.p (.ptr 4 0)), .c (.p (.ptr 3 0))] (.one (.ga 122 2)) (SX.number 4097 (SX.rg 110 8) ++ SX.number 3073 (SX.rg 76 32)), .call 74 [.c (.p (.lit (.int .i64 3))), .c (.p (.ptr 4 0)), .c (.p (.ptr 3 0))] (.one (.ga 124 2)) (SX.number 4097 (SX.rg 110 8) ++ SX.number 3073 (SX.rg 76 32)), .call 77 [.ga 124 2] (.one (.ga 126 2)) [], .call 76 [.agg [.pa 118, .pa 119, .pa 120, .pa 121, .pa 122, .pa 123, .pa 126, .pa 127]] (.tup [.ga 128 8, .ca 136]) [], .call 78 [.ga 106 2] (.one (.ca 137)) [], .op2 false .lss (.pa 137) (.p (.lit (.int .i64 0))) 138, .isB 138 false] Tryz.func25 (by kernel_rfl) rfl (by kernel_rfl) rfl (by kernel_rfl)
    ⟨fun γ w' bw _ => by have h := afFromMap hx0 (by decide) w' (hT.later bw); exact h,
     fun γ w' _ _ => by have h := afInvE_1 f1 (by decide) w' (fun e => hd ((det_zero (rep_from x0)).1 e)); exact h,
     congrArg (fun z => some (Value.bool z)) (by first | rfl | assumption | decide | simp [*] : (!true) = false),
     rfl,
     fun γ w' _ _ => afEq zx1 (by decide) w',
     fun γ w' bw hm => by have h := afPl_c (c := 0) (by decide) f2 (by decide) zx1 (by decide) w' (γ 4) (γ 3) (mem_box (b := 4) (l := SX.rg 110 8) hm rfl (by kernel_rfl)) (mem_box (b := 3) (l := SX.rg 76 32) hm rfl (by kernel_rfl)); exact h,
     fun γ w' bw hm => by have h := afPl_c (c := 1) (by decide) f2 (by decide) zx1 (by decide) w' (γ 4) (γ 3) (mem_box (b := 4) (l := SX.rg 110 8) hm rfl (by kernel_rfl)) (mem_box (b := 3) (l := SX.rg 76 32) hm rfl (by kernel_rfl)); exact h,
     fun γ w' bw hm => by have h := afPl_c (c := 2) (by decide) f2 (by decide) zx1 (by decide) w' (γ 4) (γ 3) (mem_box (b := 4) (l := SX.rg 110 8) hm rfl (by kernel_rfl)) (mem_box (b := 3) (l := SX.rg 76 32) hm rfl (by kernel_rfl)); exact h,
     fun γ w' bw hm => by have h := afPl_c (c := 3) (by decide) f2 (by decide) zx1 (by decide) w' (γ 4) (γ 3) (mem_box (b := 4) (l := SX.rg 110 8) hm rfl (by kernel_rfl)) (mem_box (b := 3) (l := SX.rg 76 32) hm rfl (by kernel_rfl)); exact h,
     fun γ w' _ _ => by have h := iNeg (IsZ.can f5) (by decide) w'; exact h,
     fun γ w' bw _ => by have h := plNormalize_n (IsF.can f4) (by decide) w' (hT.later bw) (pl_flat (rep_inv (rep_from x0) hd) hd hq); rw [pl_pos (rep_inv (rep_from x0) hd) hs x1] at h; exact h,
     fun γ w' _ _ => iSign (IsZ.can f7) (by decide) w',
     congrArg (fun z => some (Value.bool z)) (by rw [cmpZ_lt0]; exact decide_eq_false (by omega) : decide ((cmpZ ((invE (fromE x0)) 15) 0) < (0 : Int)) = false),
     rfl⟩
  exact H
set_option maxRecDepth 100000 in
theorem afPlane_nb {ux0 : Value} {x0 : M3} {kx0 : Nat} (hx0 : IsM ux0 x0 kx0) (lx0 : kx0 ≤ 400) {x1 : Z4} {kx1 : Nat} (zx1 : Fk x1 kx1) (lx1 : kx1 ≤ 4800) (w : World) (hT : TabC w) (hd : detM x0 ≠ 0) (hq : ¬ flatF x1) (zi : Mk (invM x0) 6) (hs : (invE (fromE x0)) 15 < 0) :
    Calls Tryz.prog 25 #[ux0, FV x1] w fun e w' => e = .returned (.tuple #[FV (planeM x0 x1), .bool true]) ∧ Below w.heap.size w w' := by
  replace hx0 := hx0.up lx0
  have zx0 := hx0.sz (by decide)
  obtain ⟨x0b, x0s, rfl, wx00, wx01, wx02, wx03, wx04, wx05, wx06, wx07, wx08, wx09, wx010, wx011⟩ := id hx0
  replace zx1 := zx1.up lx1
  have f1 : Xk (fromE x0) 5201 := Xk.up ((Xk.fromE zx0)) (by decide)
  have f2 : Xk (invE (fromE x0)) 15607 := Xk.up ((Xk.invE f1)) (by decide)
  have f3 : Fk (eq4 x1) 4800 := Fk.up ((Fk.eq4 zx1)) (by decide)
  have f4 : Fk (plE (invE (fromE x0)) x1) 20411 := Fk.up ((Fk.plE f2 zx1)) (by decide)
  have f5 : Zk (colE (invE (fromE x0)) x1 3) 20411 := Zk.up ((Zk.colE f2 zx1 (by decide))) (by decide)
  have f6 : Fk (prim (plE (invE (fromE x0)) x1)) 20411 := Fk.up ((Fk.prim f4)) (by decide)
  have f7 : Zk ((invE (fromE x0)) 15) 15607 := Zk.up ((f2 15 (by decide))) (by decide)
  have f8 : Fk (planeM x0 x1) 76884 := Fk.up ((Fk.planeM zi zx1)) (by decide)
  have H := SX.run (w := w) (List.flatten [(.bool (x0b 0) :: .string (x0s 0) :: .string (x0s 1) :: .bool (x0b 1) :: .string (x0s 2) :: .string (x0s 3) :: .bool (x0b 2) :: .string (x0s 4) :: .string (x0s 5) :: .bool (x0b 3) :: .string (x0s 6) :: .string (x0s 7) :: .bool (x0b 4) :: .string (x0s 8) :: .string (x0s 9) :: .bool (x0b 5) :: .string (x0s 10) :: .string (x0s 11) :: .bool (x0b 6) :: .string (x0s 12) :: .string (x0s 13) :: .bool (x0b 7) :: .string (x0s 14) :: .string (x0s 15) :: .bool (x0b 8) :: .string (x0s 16) :: .string (x0s 17) :: .bool (x0b 9) :: .string (x0s 18) :: .string (x0s 19) :: .bool (x0b 10) :: .string (x0s 20) :: .string (x0s 21) :: .bool (x0b 11) :: .string (x0s 22) :: .string (x0s 23) :: []), fc x1, xc (fromE x0), xc (invE (fromE x0)), [.bool true, .bool false], fc (eq4 x1), [.bool (sg (plE (invE (fromE x0)) x1).a), .string (mg (plE (invE (fromE x0)) x1).a), .bool (sg (plE (invE (fromE x0)) x1).b), .string (mg (plE (invE (fromE x0)) x1).b), .bool (sg (plE (invE (fromE x0)) x1).c), .string (mg (plE (invE (fromE x0)) x1).c)], zc (colE (invE (fromE x0)) x1 3), [.bool (sg (plE (invE (fromE x0)) x1).d), .string (mg (plE (invE (fromE x0)) x1).d)], fc (prim (plE (invE (fromE x0)) x1)), [.bool true, .int .i64 (cmpZ ((invE (fromE x0)) 15) 0), .bool true], fc (planeM x0 x1)]) [.b false, .b true] [.ga 0 36, .ga 36 8] 44 (.tup [.ga 139 8, .ca 136]) [.call 48 [.ga 0 36] (.one (.ga 44 32)) [], .call 47 [.ga 44 32] (.tup [.ga 76 32, .ca 108]) [], .op1 .not (.pa 108) 109, .isB 109 false, .call 73 [.ga 36 8] (.one (.ga 110 8)) [], .call 74 [.c (.p (.lit (.int .i64 0))), .c (.p (.ptr 4 0)), .c (.p (.ptr 3 0))] (.one (.ga 118 2)) (SX.number 4097 (SX.rg 110 8) ++ SX.number 3073 (SX.rg 76 32)), .call 74 [.c (.p (.lit (.int .i64 1))), .c (.p (.ptr 4 0)), .c (.p (.ptr 3 0))] (.one (.ga 120 2)) (SX.number 4097 (SX.rg 110 8) ++ SX.number 3073 (SX.rg 76 32)), .call 74 [.c (.p (.lit (.int .i64 2))), .c (.p (.ptr 4 0)), .c (.p (.ptr 3 0))] (.one (.ga 122 2)) (SX.number 4097 (SX.rg 110 8) ++ SX.number 3073 (SX.rg 76 32)), .call 74 [.c (.p (.lit (.int .i64 3))), .c (.p (.ptr 4 0)), .c (.p (.ptr 3 0))] (.one (.ga 124 2)) (SX.number 4097 (SX.rg 110 8) ++ SX.number 3073 (SX.rg 76 32)), .call 77 [.ga 124 2] (.one (.ga 126 2)) [], .call 76 [.agg [.pa 118, .pa 119, .pa 120, .pa 121, .pa 122, .pa 123, .pa 126, .pa 127]] (.tup [.ga 128 8, .ca 136]) [], .call 78 [.ga 106 2] (.one (.ca 137)) [], .op2 false .lss (.pa 137) (.p (.lit (.int .i64 0))) 138, .isB 138 true, .call 79 [.ga 128 8] (.one (.ga 139 8)) []] Tryz.func25 (by kernel_rfl) rfl (by kernel_rfl) rfl (by kernel_rfl)
    ⟨fun γ w' bw _ => by have h := afFromMap hx0 (by decide) w' (hT.later bw); exact h,
     fun γ w' _ _ => by have h := afInvE_1 f1 (by decide) w' (fun e => hd ((det_zero (rep_from x0)).1 e)); exact h,
     congrArg (fun z => some (Value.bool z)) (by first | rfl | assumption | decide | simp [*] : (!true) = false),
     rfl,
     fun γ w' _ _ => afEq zx1 (by decide) w',
     fun γ w' bw hm => by have h := afPl_c (c := 0) (by decide) f2 (by decide) zx1 (by decide) w' (γ 4) (γ 3) (mem_box (b := 4) (l := SX.rg 110 8) hm rfl (by kernel_rfl)) (mem_box (b := 3) (l := SX.rg 76 32) hm rfl (by kernel_rfl)); exact h,
     fun γ w' bw hm => by have h := afPl_c (c := 1) (by decide) f2 (by decide) zx1 (by decide) w' (γ 4) (γ 3) (mem_box (b := 4) (l := SX.rg 110 8) hm rfl (by kernel_rfl)) (mem_box (b := 3) (l := SX.rg 76 32) hm rfl (by kernel_rfl)); exact h,
     fun γ w' bw hm => by have h := afPl_c (c := 2) (by decide) f2 (by decide) zx1 (by decide) w' (γ 4) (γ 3) (mem_box (b := 4) (l := SX.rg 110 8) hm rfl (by kernel_rfl)) (mem_box (b := 3) (l := SX.rg 76 32) hm rfl (by kernel_rfl)); exact h,
     fun γ w' bw hm => by have h := afPl_c (c := 3) (by decide) f2 (by decide) zx1 (by decide) w' (γ 4) (γ 3) (mem_box (b := 4) (l := SX.rg 110 8) hm rfl (by kernel_rfl)) (mem_box (b := 3) (l := SX.rg 76 32) hm rfl (by kernel_rfl)); exact h,
     fun γ w' _ _ => by have h := iNeg (IsZ.can f5) (by decide) w'; exact h,
     fun γ w' bw _ => by have h := plNormalize_n (IsF.can f4) (by decide) w' (hT.later bw) (pl_flat (rep_inv (rep_from x0) hd) hd hq); exact h,
     fun γ w' _ _ => iSign (IsZ.can f7) (by decide) w',
     congrArg (fun z => some (Value.bool z)) (by rw [cmpZ_lt0]; exact decide_eq_true hs : decide ((cmpZ ((invE (fromE x0)) 15) 0) < (0 : Int)) = true),
     rfl,
     fun γ w' _ _ => by have h := plFlipB f6 (by decide) w'; rw [pl_neg (rep_inv (rep_from x0) hd) hs x1] at h; exact h⟩
  exact H
theorem afPlane_1b {ux0 : Value} {x0 : M3} {kx0 : Nat} (hx0 : IsM ux0 x0 kx0) (lx0 : kx0 ≤ 400) {x1 : Z4} {kx1 : Nat} (zx1 : Fk x1 kx1) (lx1 : kx1 ≤ 4800) (w : World) (hT : TabC w) (hd : detM x0 ≠ 0) (hq : ¬ flatF x1) (zi : Mk (invM x0) 6) :
    Calls Tryz.prog 25 #[ux0, FV x1] w fun e w' => e = .returned (.tuple #[FV (planeM x0 x1), .bool true]) ∧ Below w.heap.size w w' := by
  have e15 := (rep_inv (rep_from x0) hd).1
  by_cases hs : 0 < (invE (fromE x0)) 15
  · exact afPlane_pb hx0 lx0 zx1 lx1 w hT hd hq zi hs
  · exact afPlane_nb hx0 lx0 zx1 lx1 w hT hd hq zi (by omega)
end Go.Proofs.YtodcomijjmobdaaGreatDoor
