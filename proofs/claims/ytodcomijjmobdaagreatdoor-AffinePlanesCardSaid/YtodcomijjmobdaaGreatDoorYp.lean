/- Package affine: the inverse. -/
import Derived.Test.YtodcomijjmobdaaGreatDoorYd
set_option linter.unusedVariables false
set_option linter.unusedSimpArgs false
namespace Go.Proofs.YtodcomijjmobdaaGreatDoor
open Go.RowKit NM SX
theorem afInvE_0 {x0 : Nat → Int} {kx0 : Nat} (zx0 : Xk x0 kx0) (lx0 : kx0 ≤ 20000) (w : World) (hd : detE x0 = 0) :
    Calls Tryz.prog 47 #[XV x0] w fun e w' => e = .returned (.tuple #[.agg #[.bool false, .string ⟨#[]⟩, .bool false, .string ⟨#[]⟩, .bool false, .string ⟨#[]⟩, .bool false, .string ⟨#[]⟩, .bool false, .string ⟨#[]⟩, .bool false, .string ⟨#[]⟩, .bool false, .string ⟨#[]⟩, .bool false, .string ⟨#[]⟩, .bool false, .string ⟨#[]⟩, .bool false, .string ⟨#[]⟩, .bool false, .string ⟨#[]⟩, .bool false, .string ⟨#[]⟩, .bool false, .string ⟨#[]⟩, .bool false, .string ⟨#[]⟩, .bool false, .string ⟨#[]⟩, .bool false, .string ⟨#[]⟩], .bool false]) ∧ Below w.heap.size w w' := by
  replace zx0 := zx0.up lx0
  have f1 : Zk (detE x0) 60004 := Zk.up ((Zk.detE zx0)) (by decide)
  have H := SX.run (w := w) (List.flatten [xc x0, zc (detE x0), [.int .i64 (cmpZ (detE x0) 0), .bool true]]) [.b true] [.ga 0 32] 32 (.tup [.agg [.p (.lit (.bool false)), .p (.lit (.string ⟨#[]⟩)), .p (.lit (.bool false)), .p (.lit (.string ⟨#[]⟩)), .p (.lit (.bool false)), .p (.lit (.string ⟨#[]⟩)), .p (.lit (.bool false)), .p (.lit (.string ⟨#[]⟩)), .p (.lit (.bool false)), .p (.lit (.string ⟨#[]⟩)), .p (.lit (.bool false)), .p (.lit (.string ⟨#[]⟩)), .p (.lit (.bool false)), .p (.lit (.string ⟨#[]⟩)), .p (.lit (.bool false)), .p (.lit (.string ⟨#[]⟩)), .p (.lit (.bool false)), .p (.lit (.string ⟨#[]⟩)), .p (.lit (.bool false)), .p (.lit (.string ⟨#[]⟩)), .p (.lit (.bool false)), .p (.lit (.string ⟨#[]⟩)), .p (.lit (.bool false)), .p (.lit (.string ⟨#[]⟩)), .p (.lit (.bool false)), .p (.lit (.string ⟨#[]⟩)), .p (.lit (.bool false)), .p (.lit (.string ⟨#[]⟩)), .p (.lit (.bool false)), .p (.lit (.string ⟨#[]⟩)), .p (.lit (.bool false)), .p (.lit (.string ⟨#[]⟩))], .c (.p (.lit (.bool false)))]) [.call 64 [.ga 0 32] (.one (.ga 32 2)) [], .call 78 [.ga 32 2] (.one (.ca 34)) [], .op2 false .eql (.pa 34) (.p (.lit (.int .i64 0))) 35, .isB 35 true] Tryz.func47 (by kernel_rfl) rfl (by kernel_rfl) rfl (by kernel_rfl)
    ⟨fun γ w' _ _ => afDetE zx0 (by decide) w',
     fun γ w' _ _ => iSign (IsZ.can f1) (by decide) w',
     congrArg (fun z => some (Value.bool z)) (by rw [cmpZ_eq0]; exact decide_eq_true hd : ((cmpZ (detE x0) 0) == (0 : Int)) = true),
     rfl⟩
  exact H
theorem afInvE_1 {x0 : Nat → Int} {kx0 : Nat} (zx0 : Xk x0 kx0) (lx0 : kx0 ≤ 20000) (w : World) (hd : detE x0 ≠ 0) :
    Calls Tryz.prog 47 #[XV x0] w fun e w' => e = .returned (.tuple #[XV (invE x0), .bool true]) ∧ Below w.heap.size w w' := by
  replace zx0 := zx0.up lx0
  have f1 : Zk (detE x0) 60004 := Zk.up ((Zk.detE zx0)) (by decide)
  have f2 : Xk (invE x0) 60004 := Xk.up ((Xk.invE zx0)) (by decide)
  have H := SX.run (w := w) (List.flatten [xc x0, zc (detE x0), [.int .i64 (cmpZ (detE x0) 0), .bool false], xc (invE x0)]) [.b false] [.ga 0 32] 32 (.tup [.ga 36 32, .c (.p (.lit (.bool true)))]) [.call 64 [.ga 0 32] (.one (.ga 32 2)) [], .call 78 [.ga 32 2] (.one (.ca 34)) [], .op2 false .eql (.pa 34) (.p (.lit (.int .i64 0))) 35, .isB 35 false, .call 68 [.ga 32 2, .c (.fn 108 [.ptr 0 0])] (.one (.ga 36 32)) (SX.number 1 (SX.rg 0 32))] Tryz.func47 (by kernel_rfl) rfl (by kernel_rfl) rfl (by kernel_rfl)
    ⟨fun γ w' _ _ => afDetE zx0 (by decide) w',
     fun γ w' _ _ => iSign (IsZ.can f1) (by decide) w',
     congrArg (fun z => some (Value.bool z)) (by rw [cmpZ_eq0]; exact decide_eq_false hd : ((cmpZ (detE x0) 0) == (0 : Int)) = false),
     rfl,
     fun γ w' bw hm => by
      have h := afFilled (g := 108) (cl := [.pointer (some ⟨γ 0, 0, none⟩)]) (d := (detE x0)) (e := fun r c => if c = 3 then -(sum3 fun k => cofE x0 k r * x0 (4 * k + 3)) else cofE x0 c r * x0 15) (by kernel_rfl) w' (fun r c hr hc w2 hb2 => by have h2 := afInv_c hr hc zx0 (by decide) w2 (γ 0) (SX.CellsAt.keep (mem_box (b := 0) (l := SX.rg 0 32) hm rfl (by kernel_rfl)) hb2); exact h2)
      exact h⟩
  exact H
set_option maxRecDepth 100000 in
theorem afInverse_0 {ux0 : Value} {x0 : M3} {kx0 : Nat} (hx0 : IsM ux0 x0 kx0) (lx0 : kx0 ≤ 400) (w : World) (hT : TabC w) (hd : detM x0 = 0) :
    Calls Tryz.prog 14 #[ux0] w fun e w' => e = .returned (.tuple #[.agg #[.bool false, .string ⟨#[]⟩, .string ⟨#[]⟩, .bool false, .string ⟨#[]⟩, .string ⟨#[]⟩, .bool false, .string ⟨#[]⟩, .string ⟨#[]⟩, .bool false, .string ⟨#[]⟩, .string ⟨#[]⟩, .bool false, .string ⟨#[]⟩, .string ⟨#[]⟩, .bool false, .string ⟨#[]⟩, .string ⟨#[]⟩, .bool false, .string ⟨#[]⟩, .string ⟨#[]⟩, .bool false, .string ⟨#[]⟩, .string ⟨#[]⟩, .bool false, .string ⟨#[]⟩, .string ⟨#[]⟩, .bool false, .string ⟨#[]⟩, .string ⟨#[]⟩, .bool false, .string ⟨#[]⟩, .string ⟨#[]⟩, .bool false, .string ⟨#[]⟩, .string ⟨#[]⟩], .bool false]) ∧ Below w.heap.size w w' := by
  replace hx0 := hx0.up lx0
  have zx0 := hx0.sz (by decide)
  obtain ⟨x0b, x0s, rfl, wx00, wx01, wx02, wx03, wx04, wx05, wx06, wx07, wx08, wx09, wx010, wx011⟩ := id hx0
  have f1 : Xk (fromE x0) 5201 := Xk.up ((Xk.fromE zx0)) (by decide)
  have H := SX.run (w := w) (List.flatten [(.bool (x0b 0) :: .string (x0s 0) :: .string (x0s 1) :: .bool (x0b 1) :: .string (x0s 2) :: .string (x0s 3) :: .bool (x0b 2) :: .string (x0s 4) :: .string (x0s 5) :: .bool (x0b 3) :: .string (x0s 6) :: .string (x0s 7) :: .bool (x0b 4) :: .string (x0s 8) :: .string (x0s 9) :: .bool (x0b 5) :: .string (x0s 10) :: .string (x0s 11) :: .bool (x0b 6) :: .string (x0s 12) :: .string (x0s 13) :: .bool (x0b 7) :: .string (x0s 14) :: .string (x0s 15) :: .bool (x0b 8) :: .string (x0s 16) :: .string (x0s 17) :: .bool (x0b 9) :: .string (x0s 18) :: .string (x0s 19) :: .bool (x0b 10) :: .string (x0s 20) :: .string (x0s 21) :: .bool (x0b 11) :: .string (x0s 22) :: .string (x0s 23) :: []), xc (fromE x0), (.bool false :: .string ⟨#[]⟩ :: .bool false :: .string ⟨#[]⟩ :: .bool false :: .string ⟨#[]⟩ :: .bool false :: .string ⟨#[]⟩ :: .bool false :: .string ⟨#[]⟩ :: .bool false :: .string ⟨#[]⟩ :: .bool false :: .string ⟨#[]⟩ :: .bool false :: .string ⟨#[]⟩ :: .bool false :: .string ⟨#[]⟩ :: .bool false :: .string ⟨#[]⟩ :: .bool false :: .string ⟨#[]⟩ :: .bool false :: .string ⟨#[]⟩ :: .bool false :: .string ⟨#[]⟩ :: .bool false :: .string ⟨#[]⟩ :: .bool false :: .string ⟨#[]⟩ :: .bool false :: .string ⟨#[]⟩ :: .bool false :: .bool true :: [])]) [.b true] [.ga 0 36] 36 (.tup [.agg [.p (.lit (.bool false)), .p (.lit (.string ⟨#[]⟩)), .p (.lit (.string ⟨#[]⟩)), .p (.lit (.bool false)), .p (.lit (.string ⟨#[]⟩)), .p (.lit (.string ⟨#[]⟩)), .p (.lit (.bool false)), .p (.lit (.string ⟨#[]⟩)), .p (.lit (.string ⟨#[]⟩)), .p (.lit (.bool false)), .p (.lit (.string ⟨#[]⟩)), .p (.lit (.string ⟨#[]⟩)), .p (.lit (.bool false)), .p (.lit (.string ⟨#[]⟩)), .p (.lit (.string ⟨#[]⟩)), .p (.lit (.bool false)), .p (.lit (.string ⟨#[]⟩)), .p (.lit (.string ⟨#[]⟩)), .p (.lit (.bool false)), .p (.lit (.string ⟨#[]⟩)), .p (.lit (.string ⟨#[]⟩)), .p (.lit (.bool false)), .p (.lit (.string ⟨#[]⟩)), .p (.lit (.string ⟨#[]⟩)), .p (.lit (.bool false)), .p (.lit (.string ⟨#[]⟩)), .p (.lit (.string ⟨#[]⟩)), .p (.lit (.bool false)), .p (.lit (.string ⟨#[]⟩)), .p (.lit (.string ⟨#[]⟩)), .p (.lit (.bool false)), .p (.lit (.string ⟨#[]⟩)), .p (.lit (.string ⟨#[]⟩)), .p (.lit (.bool false)), .p (.lit (.string ⟨#[]⟩)), .p (.lit (.string ⟨#[]⟩))], .c (.p (.lit (.bool false)))]) [.call 48 [.ga 0 36] (.one (.ga 36 32)) [], .call 47 [.ga 36 32] (.tup [.ga 68 32, .ca 100]) [], .op1 .not (.pa 100) 101, .isB 101 true] Tryz.func14 (by kernel_rfl) rfl (by kernel_rfl) rfl (by kernel_rfl)
    ⟨fun γ w' bw _ => by have h := afFromMap hx0 (by decide) w' (hT.later bw); exact h,
     fun γ w' _ _ => by have h := afInvE_0 f1 (by decide) w' ((det_zero (rep_from x0)).2 hd); exact h,
     congrArg (fun z => some (Value.bool z)) (by first | rfl | assumption | decide | simp [*] : (!false) = true),
     rfl⟩
  exact H
set_option maxRecDepth 100000 in
theorem afInverse_1 {ux0 : Value} {x0 : M3} {kx0 : Nat} (hx0 : IsM ux0 x0 kx0) (lx0 : kx0 ≤ 400) (w : World) (hT : TabC w) (hd : detM x0 ≠ 0) :
    Calls Tryz.prog 14 #[ux0] w fun e w' => e = .returned (.tuple #[MV (invM x0), .bool true]) ∧ Below w.heap.size w w' := by
  replace hx0 := hx0.up lx0
  have zx0 := hx0.sz (by decide)
  obtain ⟨x0b, x0s, rfl, wx00, wx01, wx02, wx03, wx04, wx05, wx06, wx07, wx08, wx09, wx010, wx011⟩ := id hx0
  have f1 : Xk (fromE x0) 5201 := Xk.up ((Xk.fromE zx0)) (by decide)
  have f2 : Xk (invE (fromE x0)) 15607 := Xk.up ((Xk.invE f1)) (by decide)
  have f3 : Mk (invM x0) 24031 := Mk.up ((Mk.invM zx0)) (by decide)
  have H := SX.run (w := w) (List.flatten [(.bool (x0b 0) :: .string (x0s 0) :: .string (x0s 1) :: .bool (x0b 1) :: .string (x0s 2) :: .string (x0s 3) :: .bool (x0b 2) :: .string (x0s 4) :: .string (x0s 5) :: .bool (x0b 3) :: .string (x0s 6) :: .string (x0s 7) :: .bool (x0b 4) :: .string (x0s 8) :: .string (x0s 9) :: .bool (x0b 5) :: .string (x0s 10) :: .string (x0s 11) :: .bool (x0b 6) :: .string (x0s 12) :: .string (x0s 13) :: .bool (x0b 7) :: .string (x0s 14) :: .string (x0s 15) :: .bool (x0b 8) :: .string (x0s 16) :: .string (x0s 17) :: .bool (x0b 9) :: .string (x0s 18) :: .string (x0s 19) :: .bool (x0b 10) :: .string (x0s 20) :: .string (x0s 21) :: .bool (x0b 11) :: .string (x0s 22) :: .string (x0s 23) :: []), xc (fromE x0), xc (invE (fromE x0)), [.bool true, .bool false], mc (invM x0)]) [.b false] [.ga 0 36] 36 (.tup [.ga 102 36, .c (.p (.lit (.bool true)))]) [.call 48 [.ga 0 36] (.one (.ga 36 32)) [], .call 47 [.ga 36 32] (.tup [.ga 68 32, .ca 100]) [], .op1 .not (.pa 100) 101, .isB 101 false, .call 49 [.ga 68 32] (.one (.ga 102 36)) []] Tryz.func14 (by kernel_rfl) rfl (by kernel_rfl) rfl (by kernel_rfl)
    ⟨fun γ w' bw _ => by have h := afFromMap hx0 (by decide) w' (hT.later bw); exact h,
     fun γ w' _ _ => by have h := afInvE_1 f1 (by decide) w' (fun e => hd ((det_zero (rep_from x0)).1 e)); exact h,
     congrArg (fun z => some (Value.bool z)) (by first | rfl | assumption | decide | simp [*] : (!true) = false),
     rfl,
     fun γ w' bw _ => by have h := afToMap f2 (by decide) w' (hT.later bw); rw [over_rep (rep_inv (rep_from x0) hd)] at h; exact h⟩
  exact H
end Go.Proofs.YtodcomijjmobdaaGreatDoor
