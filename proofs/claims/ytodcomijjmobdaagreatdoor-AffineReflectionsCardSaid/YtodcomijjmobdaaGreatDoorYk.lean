/- Law Reflections of layer 7. -/
import Derived.Test.YtodcomijjmobdaaGreatDoorYh
set_option linter.unusedVariables false
set_option linter.unusedSimpArgs false
namespace Go.Proofs.YtodcomijjmobdaaGreatDoor
open Go.RowKit NM SX
theorem neg_side7 (q : Z4) (p : P3) : IntKind.wrap .i64 (0 - sideF q p) = -sideF q p := by
  have h := sgQ_bd (valF q p)
  show IntKind.wrap .i64 (0 - sgQ (valF q p)) = -sgQ (valF q p)
  generalize sgQ (valF q p) = x at *
  rw [IntKind.wrap_i64] <;> omega
set_option maxRecDepth 100000 in
theorem Mirror_n (x_0 : Bool) (x_1 : ByteArray) (x_2 : Bool) (x_3 : ByteArray) (x_4 : Bool) (x_5 : ByteArray) (x_6 : Bool) (x_7 : ByteArray) (p_0 : Bool) (p_1 : ByteArray) (p_2 : Bool) (p_3 : ByteArray) (p_4 : Bool) (p_5 : ByteArray) (p_6 : Bool) (p_7 : ByteArray) (w : World) (hT : TabC w) {b : Nat → Bool} {s : Nat → ByteArray} (hF : ∀ w : World, Calls Tryz.prog 24 #[.agg #[.bool x_0, .string x_1, .bool x_2, .string x_3, .bool x_4, .string x_5, .bool x_6, .string x_7], .agg #[.bool p_0, .string p_1, .bool p_2, .string p_3, .bool p_4, .string p_5, .bool p_6, .string p_7]] w fun e w' => e = .returned (.tuple #[.agg #[.bool (b 0), .string (s 0), .bool (b 1), .string (s 1), .bool (b 2), .string (s 2), .bool (b 3), .string (s 3)], .agg #[.bool (b 4), .string (s 4), .bool (b 5), .string (s 5), .bool (b 6), .string (s 6), .bool (b 7), .string (s 7)], .bool false]) ∧ Below w.heap.size w w') :
    Calls Tryz.prog 9 #[.agg #[.bool x_0, .string x_1, .bool x_2, .string x_3, .bool x_4, .string x_5, .bool x_6, .string x_7], .agg #[.bool p_0, .string p_1, .bool p_2, .string p_3, .bool p_4, .string p_5, .bool p_6, .string p_7]] w fun e w' => e = .returned (.bool true) ∧ Below w.heap.size w w' := by
  have H := SX.run (w := w) (.bool x_0 :: .string x_1 :: .bool x_2 :: .string x_3 :: .bool x_4 :: .string x_5 :: .bool x_6 :: .string x_7 :: .bool p_0 :: .string p_1 :: .bool p_2 :: .string p_3 :: .bool p_4 :: .string p_5 :: .bool p_6 :: .string p_7 :: .bool (b 0) :: .string (s 0) :: .bool (b 1) :: .string (s 1) :: .bool (b 2) :: .string (s 2) :: .bool (b 3) :: .string (s 3) :: .bool (b 4) :: .string (s 4) :: .bool (b 5) :: .string (s 5) :: .bool (b 6) :: .string (s 6) :: .bool (b 7) :: .string (s 7) :: .bool false :: .bool true :: .bool true :: []) [.b true] [.ga 0 8, .ga 8 8] 16 (.one (.ca 34)) [.call 24 [.ga 0 8, .ga 8 8] (.tup [.ga 16 8, .ga 24 8, .ca 32]) [], .op1 .not (.pa 32) 33, .isB 33 true, .call 12 [] (.one (.ca 34)) []] Tryz.func9 (by kernel_rfl) rfl (by kernel_rfl) rfl (by kernel_rfl)
    ⟨fun γ w' _ _ => hF w',
     congrArg (fun z => some (Value.bool z)) (by first | rfl | assumption | decide | simp [*] : (!false) = true),
     rfl,
     fun γ w' bw _ => awake7 w' (hT.later bw)⟩
  exact H
set_option maxHeartbeats 4000000 in
set_option maxRecDepth 100000 in
theorem Mirror_0 (x_0 : Bool) (x_1 : ByteArray) (x_2 : Bool) (x_3 : ByteArray) (x_4 : Bool) (x_5 : ByteArray) (x_6 : Bool) (x_7 : ByteArray) (p_0 : Bool) (p_1 : ByteArray) (p_2 : Bool) (p_3 : ByteArray) (p_4 : Bool) (p_5 : ByteArray) (p_6 : Bool) (p_7 : ByteArray) (w : World) (hT : TabC w) (hx_1 : x_1.size ≤ 6) (hx_3 : x_3.size ≤ 6) (hx_5 : x_5.size ≤ 6) (hx_7 : x_7.size ≤ 6) (hp_1 : p_1.size ≤ 6) (hp_3 : p_3.size ≤ 6) (hp_5 : p_5.size ≤ 6) (hp_7 : p_7.size ≤ 6) (gp : ¬ flatF (Z4.mk (iv p_0 p_1) (iv p_2 p_3) (iv p_4 p_5) (iv p_6 p_7))) (hk : (sideF (prim (Z4.mk (iv p_0 p_1) (iv p_2 p_3) (iv p_4 p_5) (iv p_6 p_7))) (pt (Z4.mk (iv x_0 x_1) (iv x_2 x_3) (iv x_4 x_5) (iv x_6 x_7)))) = 0) :
    Calls Tryz.prog 9 #[.agg #[.bool x_0, .string x_1, .bool x_2, .string x_3, .bool x_4, .string x_5, .bool x_6, .string x_7], .agg #[.bool p_0, .string p_1, .bool p_2, .string p_3, .bool p_4, .string p_5, .bool p_6, .string p_7]] w fun e w' => e = .returned (.bool true) ∧ Below w.heap.size w w' := by
  obtain ⟨xq, hxq, rxq⟩ : ∃ q, IsF (.agg #[.bool x_0, .string x_1, .bool x_2, .string x_3, .bool x_4, .string x_5, .bool x_6, .string x_7]) q 6 ∧ q = ⟨iv x_0 x_1, iv x_2 x_3, iv x_4 x_5, iv x_6 x_7⟩ := ⟨⟨_, _, _, _⟩, ⟨_, _, _, _, _, _, _, _, rfl, rfl, hx_1, rfl, hx_3, rfl, hx_5, rfl, hx_7⟩, rfl⟩
  have zxq := hxq.sz
  obtain ⟨x, ex⟩ : ∃ p, p = pt xq := ⟨_, rfl⟩
  have hx : IsP (.agg #[.bool x_0, .string x_1, .bool x_2, .string x_3, .bool x_4, .string x_5, .bool x_6, .string x_7]) x 6 := by rw [ex]; exact hxq.pt
  have zx := hx.sz (by decide)
  have rx : x = pt ⟨iv x_0 x_1, iv x_2 x_3, iv x_4 x_5, iv x_6 x_7⟩ := by rw [ex, rxq]
  obtain ⟨p, hp, rp⟩ : ∃ q, IsF (.agg #[.bool p_0, .string p_1, .bool p_2, .string p_3, .bool p_4, .string p_5, .bool p_6, .string p_7]) q 6 ∧ q = ⟨iv p_0 p_1, iv p_2 p_3, iv p_4 p_5, iv p_6 p_7⟩ := ⟨⟨_, _, _, _⟩, ⟨_, _, _, _, _, _, _, _, rfl, rfl, hp_1, rfl, hp_3, rfl, hp_5, rfl, hp_7⟩, rfl⟩
  have zp := hp.sz
  rw [← rp] at gp
  rw [← rp, ← rx] at hk
  have f1 : Pk x 6 := Pk.up (zx) (by decide)
  have f2 : Fk (prim p) 6 := Fk.up ((Fk.prim zp)) (by decide)
  have f3 : Mk (mirM (prim p)) 56 := Mk.up ((Mk.mirM f2)) (by decide)
  have f4 : Pk (vecM (mirM (prim p)) x) 735 := Pk.up ((Pk.vecM f3 f1)) (by decide)
  have f5 : Rk (1 : Rat) 8 := ⟨by decide +kernel, by decide +kernel⟩
  have f6 : Rk (2 : Rat) 8 := ⟨by decide +kernel, by decide +kernel⟩
  have f7 : Rk ((1 : Rat) / (2 : Rat)) 17 := Rk.up (Is.quo f5 f6) (by decide)
  have f8 : Pk (vecM (mirM (prim p)) (vecM (mirM (prim p)) x)) 7296 := Pk.up ((Pk.vecM f3 f4)) (by decide)
  have f9 : Pk (lerp x (vecM (mirM (prim p)) x) ((1 : Rat) / (2 : Rat))) 2298 := Pk.up ((Pk.lerp f1 f4 f7)) (by decide)
  have f10 : Rk (detM (mirM (prim p))) 847 := Rk.up ((Rk.detM f3)) (by decide)
  have f11 : Rk (-1 : Rat) 8 := ⟨by decide +kernel, by decide +kernel⟩
  have f12 : Mk (compM (mirM (prim p)) (mirM (prim p))) 395 := Mk.up ((Mk.comp f3 f3)) (by decide)
  have f13 : Mk idM 1 := Mk.up (Mk.idM) (by decide)
  have H := SX.run (w := w) (List.flatten [[.bool x_0, .string x_1, .bool x_2, .string x_3, .bool x_4, .string x_5, .bool x_6, .string x_7, .bool p_0, .string p_1, .bool p_2, .string p_3, .bool p_4, .string p_5, .bool p_6, .string p_7], pc x, fc (prim p), [.bool true, .bool false], mc (mirM (prim p)), pc (vecM (mirM (prim p)) x), qc (1 : Rat), qc (2 : Rat), qc ((1 : Rat) / (2 : Rat)), [.bool (decide ((2 : Rat) ≠ 0)), .int .i64 (sideF (prim p) x)], pc (vecM (mirM (prim p)) (vecM (mirM (prim p)) x)), [.bool true, .int .i64 (sideF (prim p) (vecM (mirM (prim p)) x)), .int .i64 (-(sideF (prim p) x)), .bool true], pc (lerp x (vecM (mirM (prim p)) x) ((1 : Rat) / (2 : Rat))), [.int .i64 (sideF (prim p) (lerp x (vecM (mirM (prim p)) x) ((1 : Rat) / (2 : Rat)))), .bool true, .bool false, .bool true], qc (detM (mirM (prim p))), qc (-1 : Rat), [.bool true], mc (compM (mirM (prim p)) (mirM (prim p))), mc idM, [.bool true, .bool true]]) [.b false, .b true, .b true, .b true, .b false, .b true, .b true, .b true] [.ga 0 8, .ga 8 8] 16 (.one (.ca 193)) (.call 24 [.ga 0 8, .ga 8 8] (.tup [.ga 16 8, .ga 24 8, .ca 32]) [] :: .op1 .not (.pa 32) 33 :: .isB 33 false :: .call 27 [.ga 24 8] (.one (.ga 34 36)) [] :: .call 16 [.ga 34 36, .ga 16 8] (.one (.ga 70 8)) [] :: .call 34 [.c (.p (.lit (.int .i64 1)))] (.one (.ga 78 3)) [] :: .call 34 [.c (.p (.lit (.int .i64 2)))] (.one (.ga 81 3)) [] :: .call 37 [.ga 78 3, .ga 81 3] (.tup [.ga 84 3, .ca 87]) [] :: .call 35 [.ga 24 8, .ga 16 8] (.one (.ca 88)) [] :: .call 16 [.ga 34 36, .ga 70 8] (.one (.ga 89 8)) [] :: .eqs false [.b, .s, .b, .s, .b, .s, .b, .s] [.pa 89, .pa 90, .pa 91, .pa 92, .pa 93, .pa 94, .pa 95, .pa 96] [.pa 16, .pa 17, .pa 18, .pa 19, .pa 20, .pa 21, .pa 22, .pa 23] 97 :: .isB 97 true :: .call 35 [.ga 24 8, .ga 70 8] (.one (.ca 98)) [] :: .op1 .neg (.pa 88) 99 :: .op2 false .eql (.pa 98) (.pa 99) 100 :: .isB 100 true :: .call 38 [.ga 16 8, .ga 70 8, .ga 84 3] (.one (.ga 101 8)) [] :: .call 35 [.ga 24 8, .ga 101 8] (.one (.ca 109)) [] :: .op2 false .eql (.pa 109) (.p (.lit (.int .i64 0))) 110 :: .isB 110 true :: .op2 false .neq (.pa 88) (.p (.lit (.int .i64 0))) 111 :: .isB 111 false :: .eqs false [.b, .s, .b, .s, .b, .s, .b, .s] [.pa 70, .pa 71, .pa 72, .pa 73, .pa 74, .pa 75, .pa 76, .pa 77] [.pa 16, .pa 17, .pa 18, .pa 19, .pa 20, .pa 21, .pa 22, .pa 23] 112 :: .isB 112 true :: .call 18 [.ga 34 36] (.one (.ga 113 3)) [] :: .call 34 [.c (.p (.lit (.int .i64 (-1))))] (.one (.ga 116 3)) [] :: .eqs false [.b, .s, .s] [.pa 113, .pa 114, .pa 115] [.pa 116, .pa 117, .pa 118] 119 :: .isB 119 true :: .call 20 [.ga 34 36, .ga 34 36] (.one (.ga 120 36)) [] :: .call 22 [] (.one (.ga 156 36)) [] :: .eqs false [.b, .s, .s, .b, .s, .s, .b, .s, .s, .b, .s, .s, .b, .s, .s, .b, .s, .s, .b, .s, .s, .b, .s, .s, .b, .s, .s, .b, .s, .s, .b, .s, .s, .b, .s, .s] [.pa 120, .pa 121, .pa 122, .pa 123, .pa 124, .pa 125, .pa 126, .pa 127, .pa 128, .pa 129, .pa 130, .pa 131, .pa 132, .pa 133, .pa 134, .pa 135, .pa 136, .pa 137, .pa 138, .pa 139, .pa 140, .pa 141, .pa 142, .pa 143, .pa 144, .pa 145, .pa 146, .pa 147, .pa 148, .pa 149, .pa 150, .pa 151, .pa 152, .pa 153, .pa 154, .pa 155] [.pa 156, .pa 157, .pa 158, .pa 159, .pa 160, .pa 161, .pa 162, .pa 163, .pa 164, .pa 165, .pa 166, .pa 167, .pa 168, .pa 169, .pa 170, .pa 171, .pa 172, .pa 173, .pa 174, .pa 175, .pa 176, .pa 177, .pa 178, .pa 179, .pa 180, .pa 181, .pa 182, .pa 183, .pa 184, .pa 185, .pa 186, .pa 187, .pa 188, .pa 189, .pa 190, .pa 191] 192 :: .isB 192 true :: .call 12 [] (.one (.ca 193)) [] :: []) Tryz.func9 (by kernel_rfl) rfl (by kernel_rfl) rfl (by kernel_rfl)
    ⟨fun γ w' _ _ => by have h := formed7_n hx (by decide) hp (by decide) w' gp; exact h,
     congrArg (fun z => some (Value.bool z)) (by first | rfl | decide : (!true) = false),
     rfl,
     fun γ w' bw _ => by have h := afReflection f2 (by decide) w' (hT.later bw) (prim_flat gp); exact h,
     fun γ w' bw _ => by have h := afPoint (IsM.can f3) (by decide) f1 (by decide) w' (hT.later bw); exact h,
     fun γ w' _ _ => FromQ_any 1 w' (by first | decide | omega) (by first | decide | omega),
     fun γ w' _ _ => FromQ_any 2 w' (by first | decide | omega) (by first | decide | omega),
     fun γ w' bw _ => qDiv (IsQ.can f5) (by decide) (IsQ.can f6) (by decide) w' (hT.later bw),
     fun γ w' _ _ => plSide f2 (by decide) f1 (by decide) w',
     fun γ w' bw _ => by have h := afPoint (IsM.can f3) (by decide) f4 (by decide) w' (hT.later bw); exact h,
     ⟨rfl, rfl, eqv_yes (eqL_P (vecM (mirM (prim p)) (vecM (mirM (prim p)) x)) x) (mir_mir (prim_flat gp) x) rfl⟩,
     rfl,
     fun γ w' _ _ => plSide f2 (by decide) f4 (by decide) w',
     congrArg (fun z => some (Value.int .i64 z)) (neg_side7 _ _ : IntKind.wrap .i64 (0 - (sideF (prim p) x)) = (-(sideF (prim p) x))),
     congrArg (fun z => some (Value.bool z)) (by rw [mir_side (prim_flat gp)]; exact beq_self_eq_true _ : ((sideF (prim p) (vecM (mirM (prim p)) x)) == (-(sideF (prim p) x))) = true),
     rfl,
     fun γ w' bw _ => pLerp (IsP.can f1) (by decide) (IsP.can f4) (by decide) (IsQ.can f7) (by decide) w' (hT.later bw),
     fun γ w' _ _ => plSide f2 (by decide) f9 (by decide) w',
     congrArg (fun z => some (Value.bool z)) (by rw [mir_half (prim_flat gp)]; rfl : ((sideF (prim p) (lerp x (vecM (mirM (prim p)) x) ((1 : Rat) / (2 : Rat)))) == (0 : Int)) = true),
     rfl,
     congrArg (fun z => some (Value.bool z)) (bne_eq_false_iff_eq.2 hk : ((sideF (prim p) x) != (0 : Int)) = false),
     rfl,
     ⟨rfl, rfl, eqv_yes (eqL_P (vecM (mirM (prim p)) x) x) (mir_fix hk) rfl⟩,
     rfl,
     fun γ w' bw _ => by have h := afDeterminant (IsM.can f3) (by decide) w' (hT.later bw); exact h,
     fun γ w' _ _ => FromQ_any (-1) w' (by first | decide | omega) (by first | decide | omega),
     ⟨rfl, rfl, eqv_yes (eqL_Q (detM (mirM (prim p))) (-1 : Rat)) (mir_det (prim_flat gp)) rfl⟩,
     rfl,
     fun γ w' bw _ => by have h := afCompose (IsM.can f3) (by decide) (IsM.can f3) (by decide) w' (hT.later bw); exact h,
     fun γ w' bw _ => by have h := afIdentity  w' (hT.later bw); exact h,
     ⟨rfl, rfl, eqv_yes (show eqL _ _ = decide ((compM (mirM (prim p)) (mirM (prim p))) = idM) by have h := eqL_M (compM (mirM (prim p)) (mirM (prim p))) idM; exact h) (mir_comp (prim_flat gp)) rfl⟩,
     rfl,
     fun γ w' bw _ => awake7 w' (hT.later bw)⟩
  exact H
set_option maxHeartbeats 4000000 in
set_option maxRecDepth 100000 in
theorem Mirror_1 (x_0 : Bool) (x_1 : ByteArray) (x_2 : Bool) (x_3 : ByteArray) (x_4 : Bool) (x_5 : ByteArray) (x_6 : Bool) (x_7 : ByteArray) (p_0 : Bool) (p_1 : ByteArray) (p_2 : Bool) (p_3 : ByteArray) (p_4 : Bool) (p_5 : ByteArray) (p_6 : Bool) (p_7 : ByteArray) (w : World) (hT : TabC w) (hx_1 : x_1.size ≤ 6) (hx_3 : x_3.size ≤ 6) (hx_5 : x_5.size ≤ 6) (hx_7 : x_7.size ≤ 6) (hp_1 : p_1.size ≤ 6) (hp_3 : p_3.size ≤ 6) (hp_5 : p_5.size ≤ 6) (hp_7 : p_7.size ≤ 6) (gp : ¬ flatF (Z4.mk (iv p_0 p_1) (iv p_2 p_3) (iv p_4 p_5) (iv p_6 p_7))) (hk : (sideF (prim (Z4.mk (iv p_0 p_1) (iv p_2 p_3) (iv p_4 p_5) (iv p_6 p_7))) (pt (Z4.mk (iv x_0 x_1) (iv x_2 x_3) (iv x_4 x_5) (iv x_6 x_7)))) ≠ 0) :
    Calls Tryz.prog 9 #[.agg #[.bool x_0, .string x_1, .bool x_2, .string x_3, .bool x_4, .string x_5, .bool x_6, .string x_7], .agg #[.bool p_0, .string p_1, .bool p_2, .string p_3, .bool p_4, .string p_5, .bool p_6, .string p_7]] w fun e w' => e = .returned (.bool true) ∧ Below w.heap.size w w' := by
  obtain ⟨xq, hxq, rxq⟩ : ∃ q, IsF (.agg #[.bool x_0, .string x_1, .bool x_2, .string x_3, .bool x_4, .string x_5, .bool x_6, .string x_7]) q 6 ∧ q = ⟨iv x_0 x_1, iv x_2 x_3, iv x_4 x_5, iv x_6 x_7⟩ := ⟨⟨_, _, _, _⟩, ⟨_, _, _, _, _, _, _, _, rfl, rfl, hx_1, rfl, hx_3, rfl, hx_5, rfl, hx_7⟩, rfl⟩
  have zxq := hxq.sz
  obtain ⟨x, ex⟩ : ∃ p, p = pt xq := ⟨_, rfl⟩
  have hx : IsP (.agg #[.bool x_0, .string x_1, .bool x_2, .string x_3, .bool x_4, .string x_5, .bool x_6, .string x_7]) x 6 := by rw [ex]; exact hxq.pt
  have zx := hx.sz (by decide)
  have rx : x = pt ⟨iv x_0 x_1, iv x_2 x_3, iv x_4 x_5, iv x_6 x_7⟩ := by rw [ex, rxq]
  obtain ⟨p, hp, rp⟩ : ∃ q, IsF (.agg #[.bool p_0, .string p_1, .bool p_2, .string p_3, .bool p_4, .string p_5, .bool p_6, .string p_7]) q 6 ∧ q = ⟨iv p_0 p_1, iv p_2 p_3, iv p_4 p_5, iv p_6 p_7⟩ := ⟨⟨_, _, _, _⟩, ⟨_, _, _, _, _, _, _, _, rfl, rfl, hp_1, rfl, hp_3, rfl, hp_5, rfl, hp_7⟩, rfl⟩
  have zp := hp.sz
  rw [← rp] at gp
  rw [← rp, ← rx] at hk
  have f1 : Pk x 6 := Pk.up (zx) (by decide)
  have f2 : Fk (prim p) 6 := Fk.up ((Fk.prim zp)) (by decide)
  have f3 : Mk (mirM (prim p)) 56 := Mk.up ((Mk.mirM f2)) (by decide)
  have f4 : Pk (vecM (mirM (prim p)) x) 735 := Pk.up ((Pk.vecM f3 f1)) (by decide)
  have f5 : Rk (1 : Rat) 8 := ⟨by decide +kernel, by decide +kernel⟩
  have f6 : Rk (2 : Rat) 8 := ⟨by decide +kernel, by decide +kernel⟩
  have f7 : Rk ((1 : Rat) / (2 : Rat)) 17 := Rk.up (Is.quo f5 f6) (by decide)
  have f8 : Pk (vecM (mirM (prim p)) (vecM (mirM (prim p)) x)) 7296 := Pk.up ((Pk.vecM f3 f4)) (by decide)
  have f9 : Pk (lerp x (vecM (mirM (prim p)) x) ((1 : Rat) / (2 : Rat))) 2298 := Pk.up ((Pk.lerp f1 f4 f7)) (by decide)
  have f10 : Rk (detM (mirM (prim p))) 847 := Rk.up ((Rk.detM f3)) (by decide)
  have f11 : Rk (-1 : Rat) 8 := ⟨by decide +kernel, by decide +kernel⟩
  have f12 : Mk (compM (mirM (prim p)) (mirM (prim p))) 395 := Mk.up ((Mk.comp f3 f3)) (by decide)
  have f13 : Mk idM 1 := Mk.up (Mk.idM) (by decide)
  have H := SX.run (w := w) (List.flatten [[.bool x_0, .string x_1, .bool x_2, .string x_3, .bool x_4, .string x_5, .bool x_6, .string x_7, .bool p_0, .string p_1, .bool p_2, .string p_3, .bool p_4, .string p_5, .bool p_6, .string p_7], pc x, fc (prim p), [.bool true, .bool false], mc (mirM (prim p)), pc (vecM (mirM (prim p)) x), qc (1 : Rat), qc (2 : Rat), qc ((1 : Rat) / (2 : Rat)), [.bool (decide ((2 : Rat) ≠ 0)), .int .i64 (sideF (prim p) x)], pc (vecM (mirM (prim p)) (vecM (mirM (prim p)) x)), [.bool true, .int .i64 (sideF (prim p) (vecM (mirM (prim p)) x)), .int .i64 (-(sideF (prim p) x)), .bool true], pc (lerp x (vecM (mirM (prim p)) x) ((1 : Rat) / (2 : Rat))), [.int .i64 (sideF (prim p) (lerp x (vecM (mirM (prim p)) x) ((1 : Rat) / (2 : Rat)))), .bool true, .bool true], qc (detM (mirM (prim p))), qc (-1 : Rat), [.bool true], mc (compM (mirM (prim p)) (mirM (prim p))), mc idM, [.bool true, .bool true]]) [.b false, .b true, .b true, .b true, .b true, .b true, .b true] [.ga 0 8, .ga 8 8] 16 (.one (.ca 192)) (.call 24 [.ga 0 8, .ga 8 8] (.tup [.ga 16 8, .ga 24 8, .ca 32]) [] :: .op1 .not (.pa 32) 33 :: .isB 33 false :: .call 27 [.ga 24 8] (.one (.ga 34 36)) [] :: .call 16 [.ga 34 36, .ga 16 8] (.one (.ga 70 8)) [] :: .call 34 [.c (.p (.lit (.int .i64 1)))] (.one (.ga 78 3)) [] :: .call 34 [.c (.p (.lit (.int .i64 2)))] (.one (.ga 81 3)) [] :: .call 37 [.ga 78 3, .ga 81 3] (.tup [.ga 84 3, .ca 87]) [] :: .call 35 [.ga 24 8, .ga 16 8] (.one (.ca 88)) [] :: .call 16 [.ga 34 36, .ga 70 8] (.one (.ga 89 8)) [] :: .eqs false [.b, .s, .b, .s, .b, .s, .b, .s] [.pa 89, .pa 90, .pa 91, .pa 92, .pa 93, .pa 94, .pa 95, .pa 96] [.pa 16, .pa 17, .pa 18, .pa 19, .pa 20, .pa 21, .pa 22, .pa 23] 97 :: .isB 97 true :: .call 35 [.ga 24 8, .ga 70 8] (.one (.ca 98)) [] :: .op1 .neg (.pa 88) 99 :: .op2 false .eql (.pa 98) (.pa 99) 100 :: .isB 100 true :: .call 38 [.ga 16 8, .ga 70 8, .ga 84 3] (.one (.ga 101 8)) [] :: .call 35 [.ga 24 8, .ga 101 8] (.one (.ca 109)) [] :: .op2 false .eql (.pa 109) (.p (.lit (.int .i64 0))) 110 :: .isB 110 true :: .op2 false .neq (.pa 88) (.p (.lit (.int .i64 0))) 111 :: .isB 111 true :: .call 18 [.ga 34 36] (.one (.ga 112 3)) [] :: .call 34 [.c (.p (.lit (.int .i64 (-1))))] (.one (.ga 115 3)) [] :: .eqs false [.b, .s, .s] [.pa 112, .pa 113, .pa 114] [.pa 115, .pa 116, .pa 117] 118 :: .isB 118 true :: .call 20 [.ga 34 36, .ga 34 36] (.one (.ga 119 36)) [] :: .call 22 [] (.one (.ga 155 36)) [] :: .eqs false [.b, .s, .s, .b, .s, .s, .b, .s, .s, .b, .s, .s, .b, .s, .s, .b, .s, .s, .b, .s, .s, .b, .s, .s, .b, .s, .s, .b, .s, .s, .b, .s, .s, .b, .s, .s] [.pa 119, .pa 120, .pa 121, .pa 122, .pa 123, .pa 124, .pa 125, .pa 126, .pa 127, .pa 128, .pa 129, .pa 130, .pa 131, .pa 132, .pa 133, .pa 134, .pa 135, .pa 136, .pa 137, .pa 138, .pa 139, .pa 140, .pa 141, .pa 142, .pa 143, .pa 144, .pa 145, .pa 146, .pa 147, .pa 148, .pa 149, .pa 150, .pa 151, .pa 152, .pa 153, .pa 154] [.pa 155, .pa 156, .pa 157, .pa 158, .pa 159, .pa 160, .pa 161, .pa 162, .pa 163, .pa 164, .pa 165, .pa 166, .pa 167, .pa 168, .pa 169, .pa 170, .pa 171, .pa 172, .pa 173, .pa 174, .pa 175, .pa 176, .pa 177, .pa 178, .pa 179, .pa 180, .pa 181, .pa 182, .pa 183, .pa 184, .pa 185, .pa 186, .pa 187, .pa 188, .pa 189, .pa 190] 191 :: .isB 191 true :: .call 12 [] (.one (.ca 192)) [] :: []) Tryz.func9 (by kernel_rfl) rfl (by kernel_rfl) rfl (by kernel_rfl)
    ⟨fun γ w' _ _ => by have h := formed7_n hx (by decide) hp (by decide) w' gp; exact h,
     congrArg (fun z => some (Value.bool z)) (by first | rfl | decide : (!true) = false),
     rfl,
     fun γ w' bw _ => by have h := afReflection f2 (by decide) w' (hT.later bw) (prim_flat gp); exact h,
     fun γ w' bw _ => by have h := afPoint (IsM.can f3) (by decide) f1 (by decide) w' (hT.later bw); exact h,
     fun γ w' _ _ => FromQ_any 1 w' (by first | decide | omega) (by first | decide | omega),
     fun γ w' _ _ => FromQ_any 2 w' (by first | decide | omega) (by first | decide | omega),
     fun γ w' bw _ => qDiv (IsQ.can f5) (by decide) (IsQ.can f6) (by decide) w' (hT.later bw),
     fun γ w' _ _ => plSide f2 (by decide) f1 (by decide) w',
     fun γ w' bw _ => by have h := afPoint (IsM.can f3) (by decide) f4 (by decide) w' (hT.later bw); exact h,
     ⟨rfl, rfl, eqv_yes (eqL_P (vecM (mirM (prim p)) (vecM (mirM (prim p)) x)) x) (mir_mir (prim_flat gp) x) rfl⟩,
     rfl,
     fun γ w' _ _ => plSide f2 (by decide) f4 (by decide) w',
     congrArg (fun z => some (Value.int .i64 z)) (neg_side7 _ _ : IntKind.wrap .i64 (0 - (sideF (prim p) x)) = (-(sideF (prim p) x))),
     congrArg (fun z => some (Value.bool z)) (by rw [mir_side (prim_flat gp)]; exact beq_self_eq_true _ : ((sideF (prim p) (vecM (mirM (prim p)) x)) == (-(sideF (prim p) x))) = true),
     rfl,
     fun γ w' bw _ => pLerp (IsP.can f1) (by decide) (IsP.can f4) (by decide) (IsQ.can f7) (by decide) w' (hT.later bw),
     fun γ w' _ _ => plSide f2 (by decide) f9 (by decide) w',
     congrArg (fun z => some (Value.bool z)) (by rw [mir_half (prim_flat gp)]; rfl : ((sideF (prim p) (lerp x (vecM (mirM (prim p)) x) ((1 : Rat) / (2 : Rat)))) == (0 : Int)) = true),
     rfl,
     congrArg (fun z => some (Value.bool z)) (bne_iff_ne.2 hk : ((sideF (prim p) x) != (0 : Int)) = true),
     rfl,
     fun γ w' bw _ => by have h := afDeterminant (IsM.can f3) (by decide) w' (hT.later bw); exact h,
     fun γ w' _ _ => FromQ_any (-1) w' (by first | decide | omega) (by first | decide | omega),
     ⟨rfl, rfl, eqv_yes (eqL_Q (detM (mirM (prim p))) (-1 : Rat)) (mir_det (prim_flat gp)) rfl⟩,
     rfl,
     fun γ w' bw _ => by have h := afCompose (IsM.can f3) (by decide) (IsM.can f3) (by decide) w' (hT.later bw); exact h,
     fun γ w' bw _ => by have h := afIdentity  w' (hT.later bw); exact h,
     ⟨rfl, rfl, eqv_yes (show eqL _ _ = decide ((compM (mirM (prim p)) (mirM (prim p))) = idM) by have h := eqL_M (compM (mirM (prim p)) (mirM (prim p))) idM; exact h) (mir_comp (prim_flat gp)) rfl⟩,
     rfl,
     fun γ w' bw _ => awake7 w' (hT.later bw)⟩
  exact H
set_option maxRecDepth 100000 in
theorem Mirror_any (x_0 : Bool) (x_1 : ByteArray) (x_2 : Bool) (x_3 : ByteArray) (x_4 : Bool) (x_5 : ByteArray) (x_6 : Bool) (x_7 : ByteArray) (p_0 : Bool) (p_1 : ByteArray) (p_2 : Bool) (p_3 : ByteArray) (p_4 : Bool) (p_5 : ByteArray) (p_6 : Bool) (p_7 : ByteArray) (w : World) (hT : TabC w) :
    Calls Tryz.prog 9 #[.agg #[.bool x_0, .string x_1, .bool x_2, .string x_3, .bool x_4, .string x_5, .bool x_6, .string x_7], .agg #[.bool p_0, .string p_1, .bool p_2, .string p_3, .bool p_4, .string p_5, .bool p_6, .string p_7]] w fun e w' => e = .returned (.bool true) ∧ Below w.heap.size w w' := by
  by_cases good : (x_1.size ≤ 6 ∧ x_3.size ≤ 6 ∧ x_5.size ≤ 6 ∧ x_7.size ≤ 6 ∧ p_1.size ≤ 6 ∧ p_3.size ≤ 6 ∧ p_5.size ≤ 6 ∧ p_7.size ≤ 6) ∧ ¬ flatF (Z4.mk (iv p_0 p_1) (iv p_2 p_3) (iv p_4 p_5) (iv p_6 p_7))
  rotate_left
  · obtain ⟨b, s, hF⟩ := formed7_no x_0 x_1 x_2 x_3 x_4 x_5 x_6 x_7 p_0 p_1 p_2 p_3 p_4 p_5 p_6 p_7 good
    exact Mirror_n x_0 x_1 x_2 x_3 x_4 x_5 x_6 x_7 p_0 p_1 p_2 p_3 p_4 p_5 p_6 p_7 w hT hF
  obtain ⟨⟨hx_1, hx_3, hx_5, hx_7, hp_1, hp_3, hp_5, hp_7⟩, gp⟩ := good
  by_cases hk : sideF (prim (Z4.mk (iv p_0 p_1) (iv p_2 p_3) (iv p_4 p_5) (iv p_6 p_7))) (pt (Z4.mk (iv x_0 x_1) (iv x_2 x_3) (iv x_4 x_5) (iv x_6 x_7))) = 0
  · exact Mirror_0 x_0 x_1 x_2 x_3 x_4 x_5 x_6 x_7 p_0 p_1 p_2 p_3 p_4 p_5 p_6 p_7 w hT hx_1 hx_3 hx_5 hx_7 hp_1 hp_3 hp_5 hp_7 gp hk
  · exact Mirror_1 x_0 x_1 x_2 x_3 x_4 x_5 x_6 x_7 p_0 p_1 p_2 p_3 p_4 p_5 p_6 p_7 w hT hx_1 hx_3 hx_5 hx_7 hp_1 hp_3 hp_5 hp_7 gp hk
end Go.Proofs.YtodcomijjmobdaaGreatDoor
