/- voussoirref06.Share: one symbolic run whose decisions are letters. -/
import Derived.Test.YtfapglafeghggaaGreatDoorUr
set_option linter.unusedVariables false
set_option linter.unusedSimpArgs false
namespace Go.Proofs.YtfapglafeghggaaGreatDoor
open Go.RowKit NM SX
/-! Where the points lie among the cells, by the decisions. -/
def shA (s : Bool) : Nat := bif s then 8 else 0
def shB (s : Bool) : Nat := bif s then 0 else 8
def shE (s : Bool) : Nat := bif s then 24 else 16
def shF (s : Bool) : Nat := bif s then 16 else 24
def shHints (s1 s2 k1 k2 e : Bool) : List Hint := [.b false, .b false, .b false, .b false, .b s1, .b s2, .b k1, .b k2, .b e]
def shCmp (i j n : Nat) : Ob := .call 61 [S1.ga i 8, S1.ga j 8] (.one (S1.ca n)) []
def shOp (op : BinOp) (n : Nat) : Ob := .op2 false op (.pa n) (.p (.lit (.int .i64 0))) (n + 1)
def shZ : S1 := .agg [.p (.lit (.bool false)), .p (.lit (.string ⟨#[]⟩)), .p (.lit (.bool false)), .p (.lit (.string ⟨#[]⟩)), .p (.lit (.bool false)), .p (.lit (.string ⟨#[]⟩)), .p (.lit (.bool false)), .p (.lit (.string ⟨#[]⟩))]
def shRes (s1 s2 k1 k2 e : Bool) : SV := bif e then .tup [shZ, shZ, .c (.p (.lit (.bool false)))] else .tup [S1.ga (bif k1 then shE s2 else shA s1) 8, S1.ga (bif k2 then shF s2 else shB s1) 8, .c (.p (.lit (.bool true)))]
def shObs (s1 s2 k1 k2 e : Bool) : List Ob :=
  [shCmp 0 8 32, shOp .eql 32, .isB 33 false, shCmp 16 24 34, shOp .eql 34, .isB 35 false,
   .call 20 [S1.ga 0 8, S1.ga 8 8, S1.ga 16 8] (.one (S1.ca 36)) [], .op1 .not (.pa 36) 37, .isB 37 false,
   .call 20 [S1.ga 0 8, S1.ga 8 8, S1.ga 24 8] (.one (S1.ca 38)) [], .op1 .not (.pa 38) 39, .isB 39 false,
   shCmp 0 8 40, shOp .gtr 40, .isB 41 s1, shCmp 16 24 42, shOp .gtr 42, .isB 43 s2,
   shCmp (shE s2) (shA s1) 44, shOp .gtr 44, .isB 45 k1, shCmp (shF s2) (shB s1) 46, shOp .lss 46, .isB 47 k2,
   shCmp (bif k1 then shE s2 else shA s1) (bif k2 then shF s2 else shB s1) 48, shOp .geq 48, .isB 49 e]
theorem sh_run (s1 s2 k1 k2 e : Bool) : runA Tryz.prog Tryz.f24 (shHints s1 s2 k1 k2 e) = some (shRes s1 s2 k1 k2 e, shObs s1 s2 k1 k2 e) := by
  cases s1 <;> cases s2 <;> cases k1 <;> cases k2 <;> cases e <;> kernel_rfl
set_option maxRecDepth 100000 in
set_option maxHeartbeats 1000000 in
theorem sh_main {x0 x1 x2 x3 : P3} {k : Nat} (z0 : Pk x0 k) (z1 : Pk x1 k) (z2 : Pk x2 k) (z3 : Pk x3 k) (hk : k ≤ 1000) (w : World) (s1 s2 k1 k2 e : Bool)
    (c1 : cmpP x0 x1 ≠ 0) (c2 : cmpP x2 x3 ≠ 0) (c3 : straightP x0 x1 x2) (c4 : straightP x0 x1 x3)
    (h1 : decide (cmpP x0 x1 > 0) = s1) (h2 : decide (cmpP x2 x3 > 0) = s2)
    (g1 : decide (cmpP (lowP x2 x3) (lowP x0 x1) > 0) = k1) (g2 : decide (cmpP (topP x2 x3) (topP x0 x1) < 0) = k2) (g3 : decide (cmpP (loS x0 x1 x2 x3) (hiS x0 x1 x2 x3) ≥ 0) = e) :
    Calls Tryz.prog 24 #[PV x0, PV x1, PV x2, PV x3] w fun e' w' => e' = .returned (bif e then .tuple #[P8, P8, .bool false] else .tuple #[PV (loS x0 x1 x2 x3), PV (hiS x0 x1 x2 x3), .bool true]) ∧ Below w.heap.size w w' := by
  have zl : Pk (loS x0 x1 x2 x3) k := Pk.loS z0 z1 z2 z3
  have zh : Pk (hiS x0 x1 x2 x3) k := Pk.hiS z0 z1 z2 z3
  have za : Pk (lowP x0 x1) k := by unfold lowP; split <;> assumption
  have zb : Pk (topP x0 x1) k := by unfold topP; split <;> assumption
  have ze : Pk (lowP x2 x3) k := by unfold lowP; split <;> assumption
  have zf : Pk (topP x2 x3) k := by unfold topP; split <;> assumption
  have eA : lowP x0 x1 = bif s1 then x1 else x0 := by rw [← h1]; unfold lowP; rw [Bool.cond_decide]
  have eB : topP x0 x1 = bif s1 then x0 else x1 := by rw [← h1]; unfold topP; rw [Bool.cond_decide]
  have eE : lowP x2 x3 = bif s2 then x3 else x2 := by rw [← h2]; unfold lowP; rw [Bool.cond_decide]
  have eF : topP x2 x3 = bif s2 then x2 else x3 := by rw [← h2]; unfold topP; rw [Bool.cond_decide]
  have eL : loS x0 x1 x2 x3 = bif k1 then (bif s2 then x3 else x2) else (bif s1 then x1 else x0) := by rw [← eE, ← eA, ← g1]; unfold loS; rw [Bool.cond_decide]
  have eH : hiS x0 x1 x2 x3 = bif k2 then (bif s2 then x2 else x3) else (bif s1 then x0 else x1) := by rw [← eF, ← eB, ← g2]; unfold hiS; rw [Bool.cond_decide]
  have kc : k ≤ 20000 := Nat.le_trans hk (by decide)
  have cmp : ∀ {p q p' q' : P3}, Pk p k → Pk q k → p = p' → q = q' → ∀ w' : World, Calls Tryz.prog 61 #[PV p', PV q'] w' fun e w'' => e = .returned (.int .i64 (cmpP p q)) ∧ Below w'.heap.size w' w'' := by
    rintro p q _ _ hp hq rfl rfl w'
    exact p4Cmp (IsP.can hp) kc (IsP.can hq) kc w'
  have H := SX.run (w := w) (List.flatten [pc x0, pc x1, pc x2, pc x3, [.int .i64 (cmpP x0 x1), .bool false, .int .i64 (cmpP x2 x3), .bool false, .bool true, .bool false, .bool true, .bool false, .int .i64 (cmpP x0 x1), .bool s1, .int .i64 (cmpP x2 x3), .bool s2, .int .i64 (cmpP (lowP x2 x3) (lowP x0 x1)), .bool k1, .int .i64 (cmpP (topP x2 x3) (topP x0 x1)), .bool k2, .int .i64 (cmpP (loS x0 x1 x2 x3) (hiS x0 x1 x2 x3)), .bool e]])
    (shHints s1 s2 k1 k2 e) [S1.ga 0 8, S1.ga 8 8, S1.ga 16 8, S1.ga 24 8] 32 (shRes s1 s2 k1 k2 e) (shObs s1 s2 k1 k2 e) Tryz.func24 (by kernel_rfl) rfl (by kernel_rfl) rfl (sh_run s1 s2 k1 k2 e)
    (by
      unfold shObs shCmp shOp
      exact ⟨fun γ w' _ _ => cmp z0 z1 rfl rfl w', congrArg (fun z => some (Value.bool z)) (beq_eq_false_iff_ne.2 c1), rfl,
        fun γ w' _ _ => cmp z2 z3 rfl rfl w', congrArg (fun z => some (Value.bool z)) (beq_eq_false_iff_ne.2 c2), rfl,
        fun γ w' _ _ => by have h := u6Straight (IsP.can z0) hk (IsP.can z1) hk (IsP.can z2) hk w'; rw [decide_eq_true c3] at h; exact h, rfl, rfl,
        fun γ w' _ _ => by have h := u6Straight (IsP.can z0) hk (IsP.can z1) hk (IsP.can z3) hk w'; rw [decide_eq_true c4] at h; exact h, rfl, rfl,
        fun γ w' _ _ => cmp z0 z1 rfl rfl w', congrArg (fun z => some (Value.bool z)) h1, rfl,
        fun γ w' _ _ => cmp z2 z3 rfl rfl w', congrArg (fun z => some (Value.bool z)) h2, rfl,
        fun γ w' _ _ => by have h := cmp ze za eE eA w'; clear h1 h2 g1 g2 g3 eA eB eE eF eL eH; cases s1 <;> cases s2 <;> exact h, congrArg (fun z => some (Value.bool z)) g1, rfl,
        fun γ w' _ _ => by have h := cmp zf zb eF eB w'; clear h1 h2 g1 g2 g3 eA eB eE eF eL eH; cases s1 <;> cases s2 <;> exact h, congrArg (fun z => some (Value.bool z)) g2, rfl,
        fun γ w' _ _ => by have h := cmp zl zh eL eH w'; clear h1 h2 g1 g2 g3 eA eB eE eF eL eH; cases s1 <;> cases s2 <;> cases k1 <;> cases k2 <;> exact h, congrArg (fun z => some (Value.bool z)) g3, rfl⟩)
  rw [eL, eH]
  clear h1 h2 g1 g2 g3 eA eB eE eF eL eH
  cases s1 <;> cases s2 <;> cases k1 <;> cases k2 <;> cases e <;> exact H
theorem u6Share_r0 {x0 : P3} {kx0 : Nat} (zx0 : Pk x0 kx0) (lx0 : kx0 ≤ 300) {x1 : P3} {kx1 : Nat} (zx1 : Pk x1 kx1) (lx1 : kx1 ≤ 300) {x2 : P3} {kx2 : Nat} (zx2 : Pk x2 kx2) (lx2 : kx2 ≤ 300) {x3 : P3} {kx3 : Nat} (zx3 : Pk x3 kx3) (lx3 : kx3 ≤ 300) (w : World) (c1 : cmpP x0 x1 = 0) :
    Calls Tryz.prog 24 #[PV x0, PV x1, PV x2, PV x3] w fun e w' => e = .returned (.tuple #[.agg #[.bool false, .string ⟨#[]⟩, .bool false, .string ⟨#[]⟩, .bool false, .string ⟨#[]⟩, .bool false, .string ⟨#[]⟩], .agg #[.bool false, .string ⟨#[]⟩, .bool false, .string ⟨#[]⟩, .bool false, .string ⟨#[]⟩, .bool false, .string ⟨#[]⟩], .bool false]) ∧ Below w.heap.size w w' := by
  replace zx0 := zx0.up lx0
  replace zx1 := zx1.up lx1
  replace zx2 := zx2.up lx2
  replace zx3 := zx3.up lx3
  exact SX.run (w := w) (List.flatten [pc x0, pc x1, pc x2, pc x3, [.int .i64 (cmpP x0 x1), .bool true]]) [.b true] [.ga 0 8, .ga 8 8, .ga 16 8, .ga 24 8] 32 (.tup [.agg [.p (.lit (.bool false)), .p (.lit (.string ⟨#[]⟩)), .p (.lit (.bool false)), .p (.lit (.string ⟨#[]⟩)), .p (.lit (.bool false)), .p (.lit (.string ⟨#[]⟩)), .p (.lit (.bool false)), .p (.lit (.string ⟨#[]⟩))], .agg [.p (.lit (.bool false)), .p (.lit (.string ⟨#[]⟩)), .p (.lit (.bool false)), .p (.lit (.string ⟨#[]⟩)), .p (.lit (.bool false)), .p (.lit (.string ⟨#[]⟩)), .p (.lit (.bool false)), .p (.lit (.string ⟨#[]⟩))], .c (.p (.lit (.bool false)))]) [.call 61 [.ga 0 8, .ga 8 8] (.one (.ca 32)) [], .op2 false .eql (.pa 32) (.p (.lit (.int .i64 0))) 33, .isB 33 true] Tryz.func24 (by kernel_rfl) rfl (by kernel_rfl) rfl (by kernel_rfl)
    ⟨fun γ w' _ _ => p4Cmp (IsP.can zx0) (by decide) (IsP.can zx1) (by decide) w',
     congrArg (fun z => some (Value.bool z)) (beq_iff_eq.2 c1 : ((cmpP x0 x1) == (0 : Int)) = true),
     rfl⟩
theorem u6Share_r1 {x0 : P3} {kx0 : Nat} (zx0 : Pk x0 kx0) (lx0 : kx0 ≤ 300) {x1 : P3} {kx1 : Nat} (zx1 : Pk x1 kx1) (lx1 : kx1 ≤ 300) {x2 : P3} {kx2 : Nat} (zx2 : Pk x2 kx2) (lx2 : kx2 ≤ 300) {x3 : P3} {kx3 : Nat} (zx3 : Pk x3 kx3) (lx3 : kx3 ≤ 300) (w : World) (c1 : cmpP x0 x1 ≠ 0) (c2 : cmpP x2 x3 = 0) :
    Calls Tryz.prog 24 #[PV x0, PV x1, PV x2, PV x3] w fun e w' => e = .returned (.tuple #[.agg #[.bool false, .string ⟨#[]⟩, .bool false, .string ⟨#[]⟩, .bool false, .string ⟨#[]⟩, .bool false, .string ⟨#[]⟩], .agg #[.bool false, .string ⟨#[]⟩, .bool false, .string ⟨#[]⟩, .bool false, .string ⟨#[]⟩, .bool false, .string ⟨#[]⟩], .bool false]) ∧ Below w.heap.size w w' := by
  replace zx0 := zx0.up lx0
  replace zx1 := zx1.up lx1
  replace zx2 := zx2.up lx2
  replace zx3 := zx3.up lx3
  exact SX.run (w := w) (List.flatten [pc x0, pc x1, pc x2, pc x3, [.int .i64 (cmpP x0 x1), .bool false, .int .i64 (cmpP x2 x3), .bool true]]) [.b false, .b true] [.ga 0 8, .ga 8 8, .ga 16 8, .ga 24 8] 32 (.tup [.agg [.p (.lit (.bool false)), .p (.lit (.string ⟨#[]⟩)), .p (.lit (.bool false)), .p (.lit (.string ⟨#[]⟩)), .p (.lit (.bool false)), .p (.lit (.string ⟨#[]⟩)), .p (.lit (.bool false)), .p (.lit (.string ⟨#[]⟩))], .agg [.p (.lit (.bool false)), .p (.lit (.string ⟨#[]⟩)), .p (.lit (.bool false)), .p (.lit (.string ⟨#[]⟩)), .p (.lit (.bool false)), .p (.lit (.string ⟨#[]⟩)), .p (.lit (.bool false)), .p (.lit (.string ⟨#[]⟩))], .c (.p (.lit (.bool false)))]) [.call 61 [.ga 0 8, .ga 8 8] (.one (.ca 32)) [], .op2 false .eql (.pa 32) (.p (.lit (.int .i64 0))) 33, .isB 33 false, .call 61 [.ga 16 8, .ga 24 8] (.one (.ca 34)) [], .op2 false .eql (.pa 34) (.p (.lit (.int .i64 0))) 35, .isB 35 true] Tryz.func24 (by kernel_rfl) rfl (by kernel_rfl) rfl (by kernel_rfl)
    ⟨fun γ w' _ _ => p4Cmp (IsP.can zx0) (by decide) (IsP.can zx1) (by decide) w',
     congrArg (fun z => some (Value.bool z)) (beq_eq_false_iff_ne.2 c1 : ((cmpP x0 x1) == (0 : Int)) = false),
     rfl,
     fun γ w' _ _ => p4Cmp (IsP.can zx2) (by decide) (IsP.can zx3) (by decide) w',
     congrArg (fun z => some (Value.bool z)) (beq_iff_eq.2 c2 : ((cmpP x2 x3) == (0 : Int)) = true),
     rfl⟩
theorem u6Share_r2 {x0 : P3} {kx0 : Nat} (zx0 : Pk x0 kx0) (lx0 : kx0 ≤ 300) {x1 : P3} {kx1 : Nat} (zx1 : Pk x1 kx1) (lx1 : kx1 ≤ 300) {x2 : P3} {kx2 : Nat} (zx2 : Pk x2 kx2) (lx2 : kx2 ≤ 300) {x3 : P3} {kx3 : Nat} (zx3 : Pk x3 kx3) (lx3 : kx3 ≤ 300) (w : World) (c1 : cmpP x0 x1 ≠ 0) (c2 : cmpP x2 x3 ≠ 0) (c3 : ¬ straightP x0 x1 x2) :
    Calls Tryz.prog 24 #[PV x0, PV x1, PV x2, PV x3] w fun e w' => e = .returned (.tuple #[.agg #[.bool false, .string ⟨#[]⟩, .bool false, .string ⟨#[]⟩, .bool false, .string ⟨#[]⟩, .bool false, .string ⟨#[]⟩], .agg #[.bool false, .string ⟨#[]⟩, .bool false, .string ⟨#[]⟩, .bool false, .string ⟨#[]⟩, .bool false, .string ⟨#[]⟩], .bool false]) ∧ Below w.heap.size w w' := by
  replace zx0 := zx0.up lx0
  replace zx1 := zx1.up lx1
  replace zx2 := zx2.up lx2
  replace zx3 := zx3.up lx3
  exact SX.run (w := w) (List.flatten [pc x0, pc x1, pc x2, pc x3, [.int .i64 (cmpP x0 x1), .bool false, .int .i64 (cmpP x2 x3), .bool false, .bool (decide (straightP x0 x1 x2)), .bool true]]) [.b false, .b false, .b true] [.ga 0 8, .ga 8 8, .ga 16 8, .ga 24 8] 32 (.tup [.agg [.p (.lit (.bool false)), .p (.lit (.string ⟨#[]⟩)), .p (.lit (.bool false)), .p (.lit (.string ⟨#[]⟩)), .p (.lit (.bool false)), .p (.lit (.string ⟨#[]⟩)), .p (.lit (.bool false)), .p (.lit (.string ⟨#[]⟩))], .agg [.p (.lit (.bool false)), .p (.lit (.string ⟨#[]⟩)), .p (.lit (.bool false)), .p (.lit (.string ⟨#[]⟩)), .p (.lit (.bool false)), .p (.lit (.string ⟨#[]⟩)), .p (.lit (.bool false)), .p (.lit (.string ⟨#[]⟩))], .c (.p (.lit (.bool false)))]) [.call 61 [.ga 0 8, .ga 8 8] (.one (.ca 32)) [], .op2 false .eql (.pa 32) (.p (.lit (.int .i64 0))) 33, .isB 33 false, .call 61 [.ga 16 8, .ga 24 8] (.one (.ca 34)) [], .op2 false .eql (.pa 34) (.p (.lit (.int .i64 0))) 35, .isB 35 false, .call 20 [.ga 0 8, .ga 8 8, .ga 16 8] (.one (.ca 36)) [], .op1 .not (.pa 36) 37, .isB 37 true] Tryz.func24 (by kernel_rfl) rfl (by kernel_rfl) rfl (by kernel_rfl)
    ⟨fun γ w' _ _ => p4Cmp (IsP.can zx0) (by decide) (IsP.can zx1) (by decide) w',
     congrArg (fun z => some (Value.bool z)) (beq_eq_false_iff_ne.2 c1 : ((cmpP x0 x1) == (0 : Int)) = false),
     rfl,
     fun γ w' _ _ => p4Cmp (IsP.can zx2) (by decide) (IsP.can zx3) (by decide) w',
     congrArg (fun z => some (Value.bool z)) (beq_eq_false_iff_ne.2 c2 : ((cmpP x2 x3) == (0 : Int)) = false),
     rfl,
     fun γ w' _ _ => u6Straight (IsP.can zx0) (by decide) (IsP.can zx1) (by decide) (IsP.can zx2) (by decide) w',
     congrArg (fun z => some (Value.bool z)) (by rw [decide_eq_false c3]; rfl : (!(decide (straightP x0 x1 x2))) = true),
     rfl⟩
theorem u6Share_r3 {x0 : P3} {kx0 : Nat} (zx0 : Pk x0 kx0) (lx0 : kx0 ≤ 300) {x1 : P3} {kx1 : Nat} (zx1 : Pk x1 kx1) (lx1 : kx1 ≤ 300) {x2 : P3} {kx2 : Nat} (zx2 : Pk x2 kx2) (lx2 : kx2 ≤ 300) {x3 : P3} {kx3 : Nat} (zx3 : Pk x3 kx3) (lx3 : kx3 ≤ 300) (w : World) (c1 : cmpP x0 x1 ≠ 0) (c2 : cmpP x2 x3 ≠ 0) (c3 : straightP x0 x1 x2) (c4 : ¬ straightP x0 x1 x3) :
    Calls Tryz.prog 24 #[PV x0, PV x1, PV x2, PV x3] w fun e w' => e = .returned (.tuple #[.agg #[.bool false, .string ⟨#[]⟩, .bool false, .string ⟨#[]⟩, .bool false, .string ⟨#[]⟩, .bool false, .string ⟨#[]⟩], .agg #[.bool false, .string ⟨#[]⟩, .bool false, .string ⟨#[]⟩, .bool false, .string ⟨#[]⟩, .bool false, .string ⟨#[]⟩], .bool false]) ∧ Below w.heap.size w w' := by
  replace zx0 := zx0.up lx0
  replace zx1 := zx1.up lx1
  replace zx2 := zx2.up lx2
  replace zx3 := zx3.up lx3
  exact SX.run (w := w) (List.flatten [pc x0, pc x1, pc x2, pc x3, [.int .i64 (cmpP x0 x1), .bool false, .int .i64 (cmpP x2 x3), .bool false, .bool (decide (straightP x0 x1 x2)), .bool false, .bool (decide (straightP x0 x1 x3)), .bool true]]) [.b false, .b false, .b false, .b true] [.ga 0 8, .ga 8 8, .ga 16 8, .ga 24 8] 32 (.tup [.agg [.p (.lit (.bool false)), .p (.lit (.string ⟨#[]⟩)), .p (.lit (.bool false)), .p (.lit (.string ⟨#[]⟩)), .p (.lit (.bool false)), .p (.lit (.string ⟨#[]⟩)), .p (.lit (.bool false)), .p (.lit (.string ⟨#[]⟩))], .agg [.p (.lit (.bool false)), .p (.lit (.string ⟨#[]⟩)), .p (.lit (.bool false)), .p (.lit (.string ⟨#[]⟩)), .p (.lit (.bool false)), .p (.lit (.string ⟨#[]⟩)), .p (.lit (.bool false)), .p (.lit (.string ⟨#[]⟩))], .c (.p (.lit (.bool false)))]) [.call 61 [.ga 0 8, .ga 8 8] (.one (.ca 32)) [], .op2 false .eql (.pa 32) (.p (.lit (.int .i64 0))) 33, .isB 33 false, .call 61 [.ga 16 8, .ga 24 8] (.one (.ca 34)) [], .op2 false .eql (.pa 34) (.p (.lit (.int .i64 0))) 35, .isB 35 false, .call 20 [.ga 0 8, .ga 8 8, .ga 16 8] (.one (.ca 36)) [], .op1 .not (.pa 36) 37, .isB 37 false, .call 20 [.ga 0 8, .ga 8 8, .ga 24 8] (.one (.ca 38)) [], .op1 .not (.pa 38) 39, .isB 39 true] Tryz.func24 (by kernel_rfl) rfl (by kernel_rfl) rfl (by kernel_rfl)
    ⟨fun γ w' _ _ => p4Cmp (IsP.can zx0) (by decide) (IsP.can zx1) (by decide) w',
     congrArg (fun z => some (Value.bool z)) (beq_eq_false_iff_ne.2 c1 : ((cmpP x0 x1) == (0 : Int)) = false),
     rfl,
     fun γ w' _ _ => p4Cmp (IsP.can zx2) (by decide) (IsP.can zx3) (by decide) w',
     congrArg (fun z => some (Value.bool z)) (beq_eq_false_iff_ne.2 c2 : ((cmpP x2 x3) == (0 : Int)) = false),
     rfl,
     fun γ w' _ _ => u6Straight (IsP.can zx0) (by decide) (IsP.can zx1) (by decide) (IsP.can zx2) (by decide) w',
     congrArg (fun z => some (Value.bool z)) (by rw [decide_eq_true c3]; rfl : (!(decide (straightP x0 x1 x2))) = false),
     rfl,
     fun γ w' _ _ => u6Straight (IsP.can zx0) (by decide) (IsP.can zx1) (by decide) (IsP.can zx3) (by decide) w',
     congrArg (fun z => some (Value.bool z)) (by rw [decide_eq_false c4]; rfl : (!(decide (straightP x0 x1 x3))) = true),
     rfl⟩
theorem u6Share_any {x0 : P3} {kx0 : Nat} (zx0 : Pk x0 kx0) (lx0 : kx0 ≤ 300) {x1 : P3} {kx1 : Nat} (zx1 : Pk x1 kx1) (lx1 : kx1 ≤ 300) {x2 : P3} {kx2 : Nat} (zx2 : Pk x2 kx2) (lx2 : kx2 ≤ 300) {x3 : P3} {kx3 : Nat} (zx3 : Pk x3 kx3) (lx3 : kx3 ≤ 300) (w : World) :
    Calls Tryz.prog 24 #[PV x0, PV x1, PV x2, PV x3] w fun e w' => e = .returned (shareV x0 x1 x2 x3) ∧ Below w.heap.size w w' := by
  unfold shareV
  by_cases c1 : cmpP x0 x1 = 0
  · rw [if_neg (fun h => h.1.1 c1)]; exact u6Share_r0 zx0 lx0 zx1 lx1 zx2 lx2 zx3 lx3 w c1
  by_cases c2 : cmpP x2 x3 = 0
  · rw [if_neg (fun h => h.1.2.1 c2)]; exact u6Share_r1 zx0 lx0 zx1 lx1 zx2 lx2 zx3 lx3 w c1 c2
  by_cases c3 : straightP x0 x1 x2
  rotate_left
  · rw [if_neg (fun h => c3 h.1.2.2.1)]; exact u6Share_r2 zx0 lx0 zx1 lx1 zx2 lx2 zx3 lx3 w c1 c2 c3
  by_cases c4 : straightP x0 x1 x3
  rotate_left
  · rw [if_neg (fun h => c4 h.1.2.2.2)]; exact u6Share_r3 zx0 lx0 zx1 lx1 zx2 lx2 zx3 lx3 w c1 c2 c3 c4
  have h := sh_main (zx0.up lx0) (zx1.up lx1) (zx2.up lx2) (zx3.up lx3) (by decide) w _ _ _ _ _ c1 c2 c3 c4 rfl rfl rfl rfl rfl
  rw [Bool.cond_decide] at h
  by_cases e : 0 ≤ cmpP (loS x0 x1 x2 x3) (hiS x0 x1 x2 x3)
  · rw [if_neg (fun k => by have := k.2; omega)]
    rw [if_pos e] at h
    exact h
  · rw [if_pos ⟨⟨c1, c2, c3, c4⟩, by omega⟩]
    rw [if_neg e] at h
    exact h
end Go.Proofs.YtfapglafeghggaaGreatDoor
