/- Laws of layer 5. -/
import Derived.Test.YtpmfaommooneiaaGreatDoorVe
import Derived.Test.YtpmfaommooneiaaGreatDoorVg
import Derived.Test.YtpmfaommooneiaaGreatDoorVr
set_option linter.unusedVariables false
set_option linter.unusedSimpArgs false
namespace Go.Proofs.YtpmfaommooneiaaGreatDoor
open Go.RowKit NM SX
theorem v5Side_c {x0 : Z4} {kx0 : Nat} (zx0 : Fk x0 kx0) (lx0 : kx0 ≤ 100000) {x1 : P3} {kx1 : Nat} (zx1 : Pk x1 kx1) (lx1 : kx1 ≤ 100000) (w : World) :
    Calls Tryz.prog 22 #[FV x0, PV x1] w fun e w' => e = .returned (.int .i64 (sideF x0 x1)) ∧ Below w.heap.size w w' := by
  have h := v5Side (IsF.can zx0) lx0 (IsF.can zx1) lx1 w
  rw [side_of (q := x0) (can4_wpos x1) (by grind), pt_can4] at h
  exact h
theorem neg_side (q : Z4) (p : P3) : IntKind.wrap .i64 (0 - sideF q p) = sideF (negF q) p := by
  rw [side_neg]
  have h1 := sgQ_bd (valF q p)
  unfold sideF
  generalize sgQ (valF q p) = c at *
  rw [IntKind.wrap_i64]
  omega
theorem can_prim {q : Z4} (h : ¬ flatF q) : prim (prim q) = prim q ∧ ¬ flatF (prim q) := ⟨prim_prim (g4_flat h), prim_flat h⟩
set_option maxRecDepth 100000 in
theorem Sides_x (p_0 : Bool) (p_1 : ByteArray) (p_2 : Bool) (p_3 : ByteArray) (p_4 : Bool) (p_5 : ByteArray) (p_6 : Bool) (p_7 : ByteArray) (x_0 : Bool) (x_1 : ByteArray) (x_2 : Bool) (x_3 : ByteArray) (x_4 : Bool) (x_5 : ByteArray) (x_6 : Bool) (x_7 : ByteArray) (w : World) (hT : TabC w)  (h : ¬ (x_1.size ≤ 6 ∧ x_3.size ≤ 6 ∧ x_5.size ≤ 6 ∧ x_7.size ≤ 6)) :
    Calls Tryz.prog 5 #[.agg #[.bool p_0, .string p_1, .bool p_2, .string p_3, .bool p_4, .string p_5, .bool p_6, .string p_7], .agg #[.bool x_0, .string x_1, .bool x_2, .string x_3, .bool x_4, .string x_5, .bool x_6, .string x_7]] w fun e w' => e = .returned (.bool true) ∧ Below w.heap.size w w' := by
  exact SX.run (w := w) [.bool p_0, .string p_1, .bool p_2, .string p_3, .bool p_4, .string p_5, .bool p_6, .string p_7, .bool x_0, .string x_1, .bool x_2, .string x_3, .bool x_4, .string x_5, .bool x_6, .string x_7, .bool true, .bool false, .bool true] [.b false, .b true] [.ga 0 8, .ga 8 8] 16 (.one (.c (.p (.lit (.bool true))))) [.call 10 [] (.one (.ca 16)) [], .op1 .not (.pa 16) 17, .isB 17 false, .call 11 [.ga 0 8, .c (.p (.slc 2 0 1 1))] (.one (.ca 18)) [(2049, .pa 8), (2050, .pa 9), (2051, .pa 10), (2052, .pa 11), (2053, .pa 12), (2054, .pa 13), (2055, .pa 14), (2056, .pa 15)], .isB 18 true] Tryz.func5 (by kernel_rfl) rfl (by kernel_rfl) rfl (by kernel_rfl)
    ⟨fun γ w' bw _ => alive5_any w' (hT.later bw),
     congrArg (fun z => some (Value.bool z)) (by first | rfl | assumption | decide | simp [*] : (!true) = false),
     rfl,
     fun γ w' _ hm => great5_1_y0 p_0 p_1 p_2 p_3 p_4 p_5 p_6 p_7 x_0 x_1 x_2 x_3 x_4 x_5 x_6 x_7 w' (γ 2) (SX.mem_at (b := 2) (l := [.pa 8, .pa 9, .pa 10, .pa 11, .pa 12, .pa 13, .pa 14, .pa 15]) hm rfl)  h,
     rfl⟩
set_option maxRecDepth 100000 in
theorem Sides_p (p_0 : Bool) (p_1 : ByteArray) (p_2 : Bool) (p_3 : ByteArray) (p_4 : Bool) (p_5 : ByteArray) (p_6 : Bool) (p_7 : ByteArray) (x_0 : Bool) (x_1 : ByteArray) (x_2 : Bool) (x_3 : ByteArray) (x_4 : Bool) (x_5 : ByteArray) (x_6 : Bool) (x_7 : ByteArray) (w : World) (hT : TabC w) (hx_1 : x_1.size ≤ 6) (hx_3 : x_3.size ≤ 6) (hx_5 : x_5.size ≤ 6) (hx_7 : x_7.size ≤ 6) (h : ¬ (p_1.size ≤ 6 ∧ p_3.size ≤ 6 ∧ p_5.size ≤ 6 ∧ p_7.size ≤ 6)) :
    Calls Tryz.prog 5 #[.agg #[.bool p_0, .string p_1, .bool p_2, .string p_3, .bool p_4, .string p_5, .bool p_6, .string p_7], .agg #[.bool x_0, .string x_1, .bool x_2, .string x_3, .bool x_4, .string x_5, .bool x_6, .string x_7]] w fun e w' => e = .returned (.bool true) ∧ Below w.heap.size w w' := by
  exact SX.run (w := w) [.bool p_0, .string p_1, .bool p_2, .string p_3, .bool p_4, .string p_5, .bool p_6, .string p_7, .bool x_0, .string x_1, .bool x_2, .string x_3, .bool x_4, .string x_5, .bool x_6, .string x_7, .bool true, .bool false, .bool true] [.b false, .b true] [.ga 0 8, .ga 8 8] 16 (.one (.c (.p (.lit (.bool true))))) [.call 10 [] (.one (.ca 16)) [], .op1 .not (.pa 16) 17, .isB 17 false, .call 11 [.ga 0 8, .c (.p (.slc 2 0 1 1))] (.one (.ca 18)) [(2049, .pa 8), (2050, .pa 9), (2051, .pa 10), (2052, .pa 11), (2053, .pa 12), (2054, .pa 13), (2055, .pa 14), (2056, .pa 15)], .isB 18 true] Tryz.func5 (by kernel_rfl) rfl (by kernel_rfl) rfl (by kernel_rfl)
    ⟨fun γ w' bw _ => alive5_any w' (hT.later bw),
     congrArg (fun z => some (Value.bool z)) (by first | rfl | assumption | decide | simp [*] : (!true) = false),
     rfl,
     fun γ w' _ hm => great5_1_p p_0 p_1 p_2 p_3 p_4 p_5 p_6 p_7 x_0 x_1 x_2 x_3 x_4 x_5 x_6 x_7 w' (γ 2) (SX.mem_at (b := 2) (l := [.pa 8, .pa 9, .pa 10, .pa 11, .pa 12, .pa 13, .pa 14, .pa 15]) hm rfl) hx_1 hx_3 hx_5 hx_7 h,
     rfl⟩
set_option maxRecDepth 100000 in
theorem Sides_f (p_0 : Bool) (p_1 : ByteArray) (p_2 : Bool) (p_3 : ByteArray) (p_4 : Bool) (p_5 : ByteArray) (p_6 : Bool) (p_7 : ByteArray) (x_0 : Bool) (x_1 : ByteArray) (x_2 : Bool) (x_3 : ByteArray) (x_4 : Bool) (x_5 : ByteArray) (x_6 : Bool) (x_7 : ByteArray) (w : World) (hT : TabC w) (hx_1 : x_1.size ≤ 6) (hx_3 : x_3.size ≤ 6) (hx_5 : x_5.size ≤ 6) (hx_7 : x_7.size ≤ 6) (hp_1 : p_1.size ≤ 6) (hp_3 : p_3.size ≤ 6) (hp_5 : p_5.size ≤ 6) (hp_7 : p_7.size ≤ 6) (hf : flatF (Z4.mk (iv p_0 p_1) (iv p_2 p_3) (iv p_4 p_5) (iv p_6 p_7))) :
    Calls Tryz.prog 5 #[.agg #[.bool p_0, .string p_1, .bool p_2, .string p_3, .bool p_4, .string p_5, .bool p_6, .string p_7], .agg #[.bool x_0, .string x_1, .bool x_2, .string x_3, .bool x_4, .string x_5, .bool x_6, .string x_7]] w fun e w' => e = .returned (.bool true) ∧ Below w.heap.size w w' := by
  obtain ⟨p, hp, rp⟩ : ∃ q, IsF (.agg #[.bool p_0, .string p_1, .bool p_2, .string p_3, .bool p_4, .string p_5, .bool p_6, .string p_7]) q 6 ∧ q = ⟨iv p_0 p_1, iv p_2 p_3, iv p_4 p_5, iv p_6 p_7⟩ := ⟨⟨_, _, _, _⟩, ⟨_, _, _, _, _, _, _, _, rfl, rfl, hp_1, rfl, hp_3, rfl, hp_5, rfl, hp_7⟩, rfl⟩
  have zp := hp.sz
  obtain ⟨xq, hxq, rxq⟩ : ∃ q, IsF (.agg #[.bool x_0, .string x_1, .bool x_2, .string x_3, .bool x_4, .string x_5, .bool x_6, .string x_7]) q 6 ∧ q = ⟨iv x_0 x_1, iv x_2 x_3, iv x_4 x_5, iv x_6 x_7⟩ := ⟨⟨_, _, _, _⟩, ⟨_, _, _, _, _, _, _, _, rfl, rfl, hx_1, rfl, hx_3, rfl, hx_5, rfl, hx_7⟩, rfl⟩
  have zxq := hxq.sz
  obtain ⟨x, ex⟩ : ∃ p, p = pt xq := ⟨_, rfl⟩
  have hx : IsP (.agg #[.bool x_0, .string x_1, .bool x_2, .string x_3, .bool x_4, .string x_5, .bool x_6, .string x_7]) x 6 := by rw [ex]; exact hxq.pt
  have zx := hx.sz (by decide)
  have rx : x = pt ⟨iv x_0 x_1, iv x_2 x_3, iv x_4 x_5, iv x_6 x_7⟩ := by rw [ex, rxq]
  rw [← rp] at hf
  exact SX.run (w := w) (.bool p_0 :: .string p_1 :: .bool p_2 :: .string p_3 :: .bool p_4 :: .string p_5 :: .bool p_6 :: .string p_7 :: .bool x_0 :: .string x_1 :: .bool x_2 :: .string x_3 :: .bool x_4 :: .string x_5 :: .bool x_6 :: .string x_7 :: .bool true :: .bool false :: .bool false :: .bool false :: .string ⟨#[]⟩ :: .bool false :: .string ⟨#[]⟩ :: .bool false :: .string ⟨#[]⟩ :: .bool false :: .string ⟨#[]⟩ :: .bool false :: .bool true :: []) [.b false, .b false, .b true] [.ga 0 8, .ga 8 8] 16 (.one (.c (.p (.lit (.bool true))))) [.call 10 [] (.one (.ca 16)) [], .op1 .not (.pa 16) 17, .isB 17 false, .call 11 [.ga 0 8, .c (.p (.slc 2 0 1 1))] (.one (.ca 18)) [(2049, .pa 8), (2050, .pa 9), (2051, .pa 10), (2052, .pa 11), (2053, .pa 12), (2054, .pa 13), (2055, .pa 14), (2056, .pa 15)], .isB 18 false, .call 14 [.ga 0 8] (.tup [.ga 19 8, .ca 27]) [], .op1 .not (.pa 27) 28, .isB 28 true] Tryz.func5 (by kernel_rfl) rfl (by kernel_rfl) rfl (by kernel_rfl)
    ⟨fun γ w' bw _ => alive5_any w' (hT.later bw),
     congrArg (fun z => some (Value.bool z)) (by first | rfl | assumption | decide | simp [*] : (!true) = false),
     rfl,
     fun γ w' _ hm => great5_1_no p_0 p_1 p_2 p_3 p_4 p_5 p_6 p_7 x_0 x_1 x_2 x_3 x_4 x_5 x_6 x_7 w' (γ 2) (SX.mem_at (b := 2) (l := [.pa 8, .pa 9, .pa 10, .pa 11, .pa 12, .pa 13, .pa 14, .pa 15]) hm rfl) hx_1 hx_3 hx_5 hx_7 hp_1 hp_3 hp_5 hp_7,
     rfl,
     fun γ w' _ _ => by have h := v5Norm_any hp (by decide) w'; rw [normV, if_pos hf] at h; exact h,
     congrArg (fun z => some (Value.bool z)) (by first | rfl | assumption | decide | simp [*] : (!false) = true),
     rfl⟩
set_option maxRecDepth 100000 in
theorem Sides_n (p_0 : Bool) (p_1 : ByteArray) (p_2 : Bool) (p_3 : ByteArray) (p_4 : Bool) (p_5 : ByteArray) (p_6 : Bool) (p_7 : ByteArray) (x_0 : Bool) (x_1 : ByteArray) (x_2 : Bool) (x_3 : ByteArray) (x_4 : Bool) (x_5 : ByteArray) (x_6 : Bool) (x_7 : ByteArray) (w : World) (hT : TabC w) (hx_1 : x_1.size ≤ 6) (hx_3 : x_3.size ≤ 6) (hx_5 : x_5.size ≤ 6) (hx_7 : x_7.size ≤ 6) (hp_1 : p_1.size ≤ 6) (hp_3 : p_3.size ≤ 6) (hp_5 : p_5.size ≤ 6) (hp_7 : p_7.size ≤ 6) (hf : ¬ flatF (Z4.mk (iv p_0 p_1) (iv p_2 p_3) (iv p_4 p_5) (iv p_6 p_7))) :
    Calls Tryz.prog 5 #[.agg #[.bool p_0, .string p_1, .bool p_2, .string p_3, .bool p_4, .string p_5, .bool p_6, .string p_7], .agg #[.bool x_0, .string x_1, .bool x_2, .string x_3, .bool x_4, .string x_5, .bool x_6, .string x_7]] w fun e w' => e = .returned (.bool true) ∧ Below w.heap.size w w' := by
  obtain ⟨p, hp, rp⟩ : ∃ q, IsF (.agg #[.bool p_0, .string p_1, .bool p_2, .string p_3, .bool p_4, .string p_5, .bool p_6, .string p_7]) q 6 ∧ q = ⟨iv p_0 p_1, iv p_2 p_3, iv p_4 p_5, iv p_6 p_7⟩ := ⟨⟨_, _, _, _⟩, ⟨_, _, _, _, _, _, _, _, rfl, rfl, hp_1, rfl, hp_3, rfl, hp_5, rfl, hp_7⟩, rfl⟩
  have zp := hp.sz
  obtain ⟨xq, hxq, rxq⟩ : ∃ q, IsF (.agg #[.bool x_0, .string x_1, .bool x_2, .string x_3, .bool x_4, .string x_5, .bool x_6, .string x_7]) q 6 ∧ q = ⟨iv x_0 x_1, iv x_2 x_3, iv x_4 x_5, iv x_6 x_7⟩ := ⟨⟨_, _, _, _⟩, ⟨_, _, _, _, _, _, _, _, rfl, rfl, hx_1, rfl, hx_3, rfl, hx_5, rfl, hx_7⟩, rfl⟩
  have zxq := hxq.sz
  obtain ⟨x, ex⟩ : ∃ p, p = pt xq := ⟨_, rfl⟩
  have hx : IsP (.agg #[.bool x_0, .string x_1, .bool x_2, .string x_3, .bool x_4, .string x_5, .bool x_6, .string x_7]) x 6 := by rw [ex]; exact hxq.pt
  have zx := hx.sz (by decide)
  have rx : x = pt ⟨iv x_0 x_1, iv x_2 x_3, iv x_4 x_5, iv x_6 x_7⟩ := by rw [ex, rxq]
  rw [← rp] at hf
  have f1 : Fk (prim p) 6 := Fk.up ((Fk.prim zp)) (by decide)
  have f2 : Pk x 6 := Pk.up (zx) (by decide)
  have f3 : Fk (negF (prim p)) 6 := Fk.up ((Fk.neg f1)) (by decide)
  have f4 : Fk (negF (negF (prim p))) 6 := Fk.up ((Fk.neg f3)) (by decide)
  exact SX.run (w := w) (List.flatten [[.bool p_0, .string p_1, .bool p_2, .string p_3, .bool p_4, .string p_5, .bool p_6, .string p_7, .bool x_0, .string x_1, .bool x_2, .string x_3, .bool x_4, .string x_5, .bool x_6, .string x_7, .bool true, .bool false, .bool false], fc (prim p), [.bool true, .bool false], pc x, [.int .i64 (sideF (prim p) x), .int .i64 (sideF (prim p) x), .bool true], fc (negF (prim p)), fc (negF (prim p)), [.bool true], fc (negF (prim p)), [.int .i64 (sideF (negF (prim p)) x), .int .i64 (sideF (negF (prim p)) x), .bool true], fc (negF (prim p)), fc (negF (negF (prim p))), [.bool true]]) [.b false, .b false, .b false, .b true, .b true, .b true] [.ga 0 8, .ga 8 8] 16 (.one (.ca 84)) [.call 10 [] (.one (.ca 16)) [], .op1 .not (.pa 16) 17, .isB 17 false, .call 11 [.ga 0 8, .c (.p (.slc 2 0 1 1))] (.one (.ca 18)) [(2049, .pa 8), (2050, .pa 9), (2051, .pa 10), (2052, .pa 11), (2053, .pa 12), (2054, .pa 13), (2055, .pa 14), (2056, .pa 15)], .isB 18 false, .call 14 [.ga 0 8] (.tup [.ga 19 8, .ca 27]) [], .op1 .not (.pa 27) 28, .isB 28 false, .call 17 [.ga 8 8] (.one (.ga 29 8)) [], .call 21 [.ga 19 8, .ga 29 8] (.one (.ca 37)) [], .call 22 [.ga 19 8, .ga 29 8] (.one (.ca 38)) [], .op2 false .eql (.pa 37) (.pa 38) 39, .isB 39 true, .call 20 [.ga 19 8] (.one (.ga 40 8)) [], .call 23 [.ga 19 8] (.one (.ga 48 8)) [], .eqs false [.b, .s, .b, .s, .b, .s, .b, .s] [.pa 40, .pa 41, .pa 42, .pa 43, .pa 44, .pa 45, .pa 46, .pa 47] [.pa 48, .pa 49, .pa 50, .pa 51, .pa 52, .pa 53, .pa 54, .pa 55] 56, .isB 56 true, .call 20 [.ga 19 8] (.one (.ga 57 8)) [], .call 21 [.ga 57 8, .ga 29 8] (.one (.ca 65)) [], .op1 .neg (.pa 37) 66, .op2 false .eql (.pa 65) (.pa 66) 67, .isB 67 true, .call 20 [.ga 19 8] (.one (.ga 68 8)) [], .call 20 [.ga 68 8] (.one (.ga 76 8)) [], .eqs false [.b, .s, .b, .s, .b, .s, .b, .s] [.pa 76, .pa 77, .pa 78, .pa 79, .pa 80, .pa 81, .pa 82, .pa 83] [.pa 19, .pa 20, .pa 21, .pa 22, .pa 23, .pa 24, .pa 25, .pa 26] 84] Tryz.func5 (by kernel_rfl) rfl (by kernel_rfl) rfl (by kernel_rfl)
    ⟨fun γ w' bw _ => alive5_any w' (hT.later bw),
     congrArg (fun z => some (Value.bool z)) (by first | rfl | assumption | decide | simp [*] : (!true) = false),
     rfl,
     fun γ w' _ hm => great5_1_no p_0 p_1 p_2 p_3 p_4 p_5 p_6 p_7 x_0 x_1 x_2 x_3 x_4 x_5 x_6 x_7 w' (γ 2) (SX.mem_at (b := 2) (l := [.pa 8, .pa 9, .pa 10, .pa 11, .pa 12, .pa 13, .pa 14, .pa 15]) hm rfl) hx_1 hx_3 hx_5 hx_7 hp_1 hp_3 hp_5 hp_7,
     rfl,
     fun γ w' _ _ => by have h := v5Norm_any hp (by decide) w'; rw [normV, if_neg hf] at h; exact h,
     congrArg (fun z => some (Value.bool z)) (by first | rfl | assumption | decide | simp [*] : (!true) = false),
     rfl,
     fun γ w' _ _ => p4Norm hx (by decide) w',
     fun γ w' _ _ => plSide f1 (by decide) f2 (by decide) w',
     fun γ w' _ _ => v5Side_c f1 (by decide) f2 (by decide) w',
     congrArg (fun z => some (Value.bool z)) (beq_self_eq_true _ : ((sideF (prim p) x) == (sideF (prim p) x)) = true),
     rfl,
     fun γ w' _ _ => plFlip f1 (by decide) w',
     fun γ w' _ _ => v5Flip (IsF.can f1) (by decide) w',
     ⟨rfl, rfl, eqv_yes (eqL_F (negF (prim p)) (negF (prim p))) (rfl) rfl⟩,
     rfl,
     fun γ w' _ _ => plFlip f1 (by decide) w',
     fun γ w' _ _ => plSide f3 (by decide) f2 (by decide) w',
     congrArg (fun z => some (Value.int .i64 z)) (neg_side _ _ : IntKind.wrap .i64 (0 - (sideF (prim p) x)) = (sideF (negF (prim p)) x)),
     congrArg (fun z => some (Value.bool z)) (by first | rfl | assumption | decide | simp [*] : ((sideF (negF (prim p)) x) == (sideF (negF (prim p)) x)) = true),
     rfl,
     fun γ w' _ _ => plFlip f1 (by decide) w',
     fun γ w' _ _ => plFlip f3 (by decide) w',
     ⟨rfl, rfl, eqv_yes (eqL_F (negF (negF (prim p))) (prim p)) (negF_negF _) rfl⟩⟩
theorem PlaneSides_any (p_0 : Bool) (p_1 : ByteArray) (p_2 : Bool) (p_3 : ByteArray) (p_4 : Bool) (p_5 : ByteArray) (p_6 : Bool) (p_7 : ByteArray) (x_0 : Bool) (x_1 : ByteArray) (x_2 : Bool) (x_3 : ByteArray) (x_4 : Bool) (x_5 : ByteArray) (x_6 : Bool) (x_7 : ByteArray) (w : World) (hT : TabC w) :
    Calls Tryz.prog 5 #[.agg #[.bool p_0, .string p_1, .bool p_2, .string p_3, .bool p_4, .string p_5, .bool p_6, .string p_7], .agg #[.bool x_0, .string x_1, .bool x_2, .string x_3, .bool x_4, .string x_5, .bool x_6, .string x_7]] w fun e w' => e = .returned (.bool true) ∧ Below w.heap.size w w' := by
  by_cases g : x_1.size ≤ 6 ∧ x_3.size ≤ 6 ∧ x_5.size ≤ 6 ∧ x_7.size ≤ 6
  rotate_left
  · exact Sides_x p_0 p_1 p_2 p_3 p_4 p_5 p_6 p_7 x_0 x_1 x_2 x_3 x_4 x_5 x_6 x_7 w hT  g
  obtain ⟨hx_1, hx_3, hx_5, hx_7⟩ := g
  by_cases g : p_1.size ≤ 6 ∧ p_3.size ≤ 6 ∧ p_5.size ≤ 6 ∧ p_7.size ≤ 6
  rotate_left
  · exact Sides_p p_0 p_1 p_2 p_3 p_4 p_5 p_6 p_7 x_0 x_1 x_2 x_3 x_4 x_5 x_6 x_7 w hT hx_1 hx_3 hx_5 hx_7 g
  obtain ⟨hp_1, hp_3, hp_5, hp_7⟩ := g
  by_cases hf : flatF (Z4.mk (iv p_0 p_1) (iv p_2 p_3) (iv p_4 p_5) (iv p_6 p_7))
  · exact Sides_f p_0 p_1 p_2 p_3 p_4 p_5 p_6 p_7 x_0 x_1 x_2 x_3 x_4 x_5 x_6 x_7 w hT hx_1 hx_3 hx_5 hx_7 hp_1 hp_3 hp_5 hp_7 hf
  · exact Sides_n p_0 p_1 p_2 p_3 p_4 p_5 p_6 p_7 x_0 x_1 x_2 x_3 x_4 x_5 x_6 x_7 w hT hx_1 hx_3 hx_5 hx_7 hp_1 hp_3 hp_5 hp_7 hf
theorem cmpF_bd (p q : Z4) : -1 ≤ cmpF p q ∧ cmpF p q ≤ 1 := by
  have hz : ∀ x y : Int, -1 ≤ cmpZ x y ∧ cmpZ x y ≤ 1 := by
    intro x y
    unfold cmpZ
    split <;> (try split) <;> omega
  have h1 := hz p.a q.a
  have h2 := hz p.b q.b
  have h3 := hz p.c q.c
  have h4 := hz p.d q.d
  unfold cmpF
  split <;> (try split) <;> (try split) <;> omega
theorem neg_cmpF (p q : Z4) : IntKind.wrap .i64 (0 - cmpF q p) = cmpF p q := by
  have h := cmpF_bd p q
  rw [cmpF_swap p q, IntKind.wrap_i64]
  omega
theorem cmpF_eq (p q : Z4) : ((cmpF p q == 0) != (false != decide (p = q))) = false := by
  have h := @cmpF_zero p q
  by_cases e : p = q
  · simp [e, cmpF_zero.2]
  · simp [e, h]
set_option maxRecDepth 100000 in
theorem Order_ga (a_0 : Bool) (a_1 : ByteArray) (a_2 : Bool) (a_3 : ByteArray) (a_4 : Bool) (a_5 : ByteArray) (a_6 : Bool) (a_7 : ByteArray) (b_0 : Bool) (b_1 : ByteArray) (b_2 : Bool) (b_3 : ByteArray) (b_4 : Bool) (b_5 : ByteArray) (b_6 : Bool) (b_7 : ByteArray) (c_0 : Bool) (c_1 : ByteArray) (c_2 : Bool) (c_3 : ByteArray) (c_4 : Bool) (c_5 : ByteArray) (c_6 : Bool) (c_7 : ByteArray) (w : World) (hT : TabC w)  (h : ¬ (a_1.size ≤ 6 ∧ a_3.size ≤ 6 ∧ a_5.size ≤ 6 ∧ a_7.size ≤ 6)) :
    Calls Tryz.prog 9 #[.agg #[.bool a_0, .string a_1, .bool a_2, .string a_3, .bool a_4, .string a_5, .bool a_6, .string a_7, .bool b_0, .string b_1, .bool b_2, .string b_3, .bool b_4, .string b_5, .bool b_6, .string b_7, .bool c_0, .string c_1, .bool c_2, .string c_3, .bool c_4, .string c_5, .bool c_6, .string c_7]] w fun e w' => e = .returned (.bool true) ∧ Below w.heap.size w w' := by
  exact SX.run (w := w) [.bool a_0, .string a_1, .bool a_2, .string a_3, .bool a_4, .string a_5, .bool a_6, .string a_7, .bool b_0, .string b_1, .bool b_2, .string b_3, .bool b_4, .string b_5, .bool b_6, .string b_7, .bool c_0, .string c_1, .bool c_2, .string c_3, .bool c_4, .string c_5, .bool c_6, .string c_7, .bool true, .bool false, .bool true] [.b false, .b true] [.ga 0 24] 24 (.one (.c (.p (.lit (.bool true))))) [.call 10 [] (.one (.ca 24)) [], .op1 .not (.pa 24) 25, .isB 25 false, .call 11 [.ga 0 8, .c (.p (.lit (.slice none 0 0)))] (.one (.ca 26)) [], .isB 26 true] Tryz.func9 (by kernel_rfl) rfl (by kernel_rfl) rfl (by kernel_rfl)
    ⟨fun γ w' bw _ => alive5_any w' (hT.later bw),
     congrArg (fun z => some (Value.bool z)) (by first | rfl | assumption | decide | simp [*] : (!true) = false),
     rfl,
     fun γ w' _ hm => great5_0_p a_0 a_1 a_2 a_3 a_4 a_5 a_6 a_7 w'  h,
     rfl⟩
set_option maxRecDepth 100000 in
theorem Order_fa (a_0 : Bool) (a_1 : ByteArray) (a_2 : Bool) (a_3 : ByteArray) (a_4 : Bool) (a_5 : ByteArray) (a_6 : Bool) (a_7 : ByteArray) (b_0 : Bool) (b_1 : ByteArray) (b_2 : Bool) (b_3 : ByteArray) (b_4 : Bool) (b_5 : ByteArray) (b_6 : Bool) (b_7 : ByteArray) (c_0 : Bool) (c_1 : ByteArray) (c_2 : Bool) (c_3 : ByteArray) (c_4 : Bool) (c_5 : ByteArray) (c_6 : Bool) (c_7 : ByteArray) (w : World) (hT : TabC w)  (ha_1 : a_1.size ≤ 6) (ha_3 : a_3.size ≤ 6) (ha_5 : a_5.size ≤ 6) (ha_7 : a_7.size ≤ 6) (gfa : flatF (Z4.mk (iv a_0 a_1) (iv a_2 a_3) (iv a_4 a_5) (iv a_6 a_7))) :
    Calls Tryz.prog 9 #[.agg #[.bool a_0, .string a_1, .bool a_2, .string a_3, .bool a_4, .string a_5, .bool a_6, .string a_7, .bool b_0, .string b_1, .bool b_2, .string b_3, .bool b_4, .string b_5, .bool b_6, .string b_7, .bool c_0, .string c_1, .bool c_2, .string c_3, .bool c_4, .string c_5, .bool c_6, .string c_7]] w fun e w' => e = .returned (.bool true) ∧ Below w.heap.size w w' := by
  obtain ⟨a, ha, ra⟩ : ∃ q, IsF (.agg #[.bool a_0, .string a_1, .bool a_2, .string a_3, .bool a_4, .string a_5, .bool a_6, .string a_7]) q 6 ∧ q = ⟨iv a_0 a_1, iv a_2 a_3, iv a_4 a_5, iv a_6 a_7⟩ := ⟨⟨_, _, _, _⟩, ⟨_, _, _, _, _, _, _, _, rfl, rfl, ha_1, rfl, ha_3, rfl, ha_5, rfl, ha_7⟩, rfl⟩
  have za := ha.sz
  rw [← ra] at gfa
  exact SX.run (w := w) (.bool a_0 :: .string a_1 :: .bool a_2 :: .string a_3 :: .bool a_4 :: .string a_5 :: .bool a_6 :: .string a_7 :: .bool b_0 :: .string b_1 :: .bool b_2 :: .string b_3 :: .bool b_4 :: .string b_5 :: .bool b_6 :: .string b_7 :: .bool c_0 :: .string c_1 :: .bool c_2 :: .string c_3 :: .bool c_4 :: .string c_5 :: .bool c_6 :: .string c_7 :: .bool true :: .bool false :: .bool false :: .bool false :: .string ⟨#[]⟩ :: .bool false :: .string ⟨#[]⟩ :: .bool false :: .string ⟨#[]⟩ :: .bool false :: .string ⟨#[]⟩ :: .bool false :: .bool true :: []) [.b false, .b false, .b true] [.ga 0 24] 24 (.one (.c (.p (.lit (.bool true))))) [.call 10 [] (.one (.ca 24)) [], .op1 .not (.pa 24) 25, .isB 25 false, .call 11 [.ga 0 8, .c (.p (.lit (.slice none 0 0)))] (.one (.ca 26)) [], .isB 26 false, .call 14 [.ga 0 8] (.tup [.ga 27 8, .ca 35]) [], .op1 .not (.pa 35) 36, .isB 36 true] Tryz.func9 (by kernel_rfl) rfl (by kernel_rfl) rfl (by kernel_rfl)
    ⟨fun γ w' bw _ => alive5_any w' (hT.later bw),
     congrArg (fun z => some (Value.bool z)) (by first | rfl | assumption | decide | simp [*] : (!true) = false),
     rfl,
     fun γ w' _ hm => great5_0_no a_0 a_1 a_2 a_3 a_4 a_5 a_6 a_7 w'  ha_1 ha_3 ha_5 ha_7,
     rfl,
     fun γ w' _ _ => by have h := v5Norm_any ha (by decide) w'; rw [normV, if_pos gfa] at h; exact h,
     congrArg (fun z => some (Value.bool z)) (by first | rfl | assumption | decide | simp [*] : (!false) = true),
     rfl⟩
set_option maxRecDepth 100000 in
theorem Order_gb (a_0 : Bool) (a_1 : ByteArray) (a_2 : Bool) (a_3 : ByteArray) (a_4 : Bool) (a_5 : ByteArray) (a_6 : Bool) (a_7 : ByteArray) (b_0 : Bool) (b_1 : ByteArray) (b_2 : Bool) (b_3 : ByteArray) (b_4 : Bool) (b_5 : ByteArray) (b_6 : Bool) (b_7 : ByteArray) (c_0 : Bool) (c_1 : ByteArray) (c_2 : Bool) (c_3 : ByteArray) (c_4 : Bool) (c_5 : ByteArray) (c_6 : Bool) (c_7 : ByteArray) (w : World) (hT : TabC w)  (ha_1 : a_1.size ≤ 6) (ha_3 : a_3.size ≤ 6) (ha_5 : a_5.size ≤ 6) (ha_7 : a_7.size ≤ 6) (gfa : ¬ flatF (Z4.mk (iv a_0 a_1) (iv a_2 a_3) (iv a_4 a_5) (iv a_6 a_7))) (h : ¬ (b_1.size ≤ 6 ∧ b_3.size ≤ 6 ∧ b_5.size ≤ 6 ∧ b_7.size ≤ 6)) :
    Calls Tryz.prog 9 #[.agg #[.bool a_0, .string a_1, .bool a_2, .string a_3, .bool a_4, .string a_5, .bool a_6, .string a_7, .bool b_0, .string b_1, .bool b_2, .string b_3, .bool b_4, .string b_5, .bool b_6, .string b_7, .bool c_0, .string c_1, .bool c_2, .string c_3, .bool c_4, .string c_5, .bool c_6, .string c_7]] w fun e w' => e = .returned (.bool true) ∧ Below w.heap.size w w' := by
  obtain ⟨a, ha, ra⟩ : ∃ q, IsF (.agg #[.bool a_0, .string a_1, .bool a_2, .string a_3, .bool a_4, .string a_5, .bool a_6, .string a_7]) q 6 ∧ q = ⟨iv a_0 a_1, iv a_2 a_3, iv a_4 a_5, iv a_6 a_7⟩ := ⟨⟨_, _, _, _⟩, ⟨_, _, _, _, _, _, _, _, rfl, rfl, ha_1, rfl, ha_3, rfl, ha_5, rfl, ha_7⟩, rfl⟩
  have za := ha.sz
  rw [← ra] at gfa
  have f1 : Fk (prim a) 6 := Fk.up ((Fk.prim za)) (by decide)
  exact SX.run (w := w) (List.flatten [[.bool a_0, .string a_1, .bool a_2, .string a_3, .bool a_4, .string a_5, .bool a_6, .string a_7, .bool b_0, .string b_1, .bool b_2, .string b_3, .bool b_4, .string b_5, .bool b_6, .string b_7, .bool c_0, .string c_1, .bool c_2, .string c_3, .bool c_4, .string c_5, .bool c_6, .string c_7, .bool true, .bool false, .bool false], fc (prim a), [.bool true, .bool false, .bool true]]) [.b false, .b false, .b false, .b true] [.ga 0 24] 24 (.one (.c (.p (.lit (.bool true))))) [.call 10 [] (.one (.ca 24)) [], .op1 .not (.pa 24) 25, .isB 25 false, .call 11 [.ga 0 8, .c (.p (.lit (.slice none 0 0)))] (.one (.ca 26)) [], .isB 26 false, .call 14 [.ga 0 8] (.tup [.ga 27 8, .ca 35]) [], .op1 .not (.pa 35) 36, .isB 36 false, .call 11 [.ga 8 8, .c (.p (.lit (.slice none 0 0)))] (.one (.ca 37)) [], .isB 37 true] Tryz.func9 (by kernel_rfl) rfl (by kernel_rfl) rfl (by kernel_rfl)
    ⟨fun γ w' bw _ => alive5_any w' (hT.later bw),
     congrArg (fun z => some (Value.bool z)) (by first | rfl | assumption | decide | simp [*] : (!true) = false),
     rfl,
     fun γ w' _ hm => great5_0_no a_0 a_1 a_2 a_3 a_4 a_5 a_6 a_7 w'  ha_1 ha_3 ha_5 ha_7,
     rfl,
     fun γ w' _ _ => by have h := v5Norm_any ha (by decide) w'; rw [normV, if_neg gfa] at h; exact h,
     congrArg (fun z => some (Value.bool z)) (by first | rfl | assumption | decide | simp [*] : (!true) = false),
     rfl,
     fun γ w' _ hm => great5_0_p b_0 b_1 b_2 b_3 b_4 b_5 b_6 b_7 w'  h,
     rfl⟩
set_option maxRecDepth 100000 in
theorem Order_fb (a_0 : Bool) (a_1 : ByteArray) (a_2 : Bool) (a_3 : ByteArray) (a_4 : Bool) (a_5 : ByteArray) (a_6 : Bool) (a_7 : ByteArray) (b_0 : Bool) (b_1 : ByteArray) (b_2 : Bool) (b_3 : ByteArray) (b_4 : Bool) (b_5 : ByteArray) (b_6 : Bool) (b_7 : ByteArray) (c_0 : Bool) (c_1 : ByteArray) (c_2 : Bool) (c_3 : ByteArray) (c_4 : Bool) (c_5 : ByteArray) (c_6 : Bool) (c_7 : ByteArray) (w : World) (hT : TabC w)  (ha_1 : a_1.size ≤ 6) (ha_3 : a_3.size ≤ 6) (ha_5 : a_5.size ≤ 6) (ha_7 : a_7.size ≤ 6) (gfa : ¬ flatF (Z4.mk (iv a_0 a_1) (iv a_2 a_3) (iv a_4 a_5) (iv a_6 a_7))) (hb_1 : b_1.size ≤ 6) (hb_3 : b_3.size ≤ 6) (hb_5 : b_5.size ≤ 6) (hb_7 : b_7.size ≤ 6) (gfb : flatF (Z4.mk (iv b_0 b_1) (iv b_2 b_3) (iv b_4 b_5) (iv b_6 b_7))) :
    Calls Tryz.prog 9 #[.agg #[.bool a_0, .string a_1, .bool a_2, .string a_3, .bool a_4, .string a_5, .bool a_6, .string a_7, .bool b_0, .string b_1, .bool b_2, .string b_3, .bool b_4, .string b_5, .bool b_6, .string b_7, .bool c_0, .string c_1, .bool c_2, .string c_3, .bool c_4, .string c_5, .bool c_6, .string c_7]] w fun e w' => e = .returned (.bool true) ∧ Below w.heap.size w w' := by
  obtain ⟨a, ha, ra⟩ : ∃ q, IsF (.agg #[.bool a_0, .string a_1, .bool a_2, .string a_3, .bool a_4, .string a_5, .bool a_6, .string a_7]) q 6 ∧ q = ⟨iv a_0 a_1, iv a_2 a_3, iv a_4 a_5, iv a_6 a_7⟩ := ⟨⟨_, _, _, _⟩, ⟨_, _, _, _, _, _, _, _, rfl, rfl, ha_1, rfl, ha_3, rfl, ha_5, rfl, ha_7⟩, rfl⟩
  have za := ha.sz
  obtain ⟨b, hb, rb⟩ : ∃ q, IsF (.agg #[.bool b_0, .string b_1, .bool b_2, .string b_3, .bool b_4, .string b_5, .bool b_6, .string b_7]) q 6 ∧ q = ⟨iv b_0 b_1, iv b_2 b_3, iv b_4 b_5, iv b_6 b_7⟩ := ⟨⟨_, _, _, _⟩, ⟨_, _, _, _, _, _, _, _, rfl, rfl, hb_1, rfl, hb_3, rfl, hb_5, rfl, hb_7⟩, rfl⟩
  have zb := hb.sz
  rw [← ra] at gfa
  rw [← rb] at gfb
  have f1 : Fk (prim a) 6 := Fk.up ((Fk.prim za)) (by decide)
  exact SX.run (w := w) (List.flatten [[.bool a_0, .string a_1, .bool a_2, .string a_3, .bool a_4, .string a_5, .bool a_6, .string a_7, .bool b_0, .string b_1, .bool b_2, .string b_3, .bool b_4, .string b_5, .bool b_6, .string b_7, .bool c_0, .string c_1, .bool c_2, .string c_3, .bool c_4, .string c_5, .bool c_6, .string c_7, .bool true, .bool false, .bool false], fc (prim a), [.bool true, .bool false, .bool false, .bool false, .string ⟨#[]⟩, .bool false, .string ⟨#[]⟩, .bool false, .string ⟨#[]⟩, .bool false, .string ⟨#[]⟩, .bool false, .bool true]]) [.b false, .b false, .b false, .b false, .b true] [.ga 0 24] 24 (.one (.c (.p (.lit (.bool true))))) [.call 10 [] (.one (.ca 24)) [], .op1 .not (.pa 24) 25, .isB 25 false, .call 11 [.ga 0 8, .c (.p (.lit (.slice none 0 0)))] (.one (.ca 26)) [], .isB 26 false, .call 14 [.ga 0 8] (.tup [.ga 27 8, .ca 35]) [], .op1 .not (.pa 35) 36, .isB 36 false, .call 11 [.ga 8 8, .c (.p (.lit (.slice none 0 0)))] (.one (.ca 37)) [], .isB 37 false, .call 14 [.ga 8 8] (.tup [.ga 38 8, .ca 46]) [], .op1 .not (.pa 46) 47, .isB 47 true] Tryz.func9 (by kernel_rfl) rfl (by kernel_rfl) rfl (by kernel_rfl)
    ⟨fun γ w' bw _ => alive5_any w' (hT.later bw),
     congrArg (fun z => some (Value.bool z)) (by first | rfl | assumption | decide | simp [*] : (!true) = false),
     rfl,
     fun γ w' _ hm => great5_0_no a_0 a_1 a_2 a_3 a_4 a_5 a_6 a_7 w'  ha_1 ha_3 ha_5 ha_7,
     rfl,
     fun γ w' _ _ => by have h := v5Norm_any ha (by decide) w'; rw [normV, if_neg gfa] at h; exact h,
     congrArg (fun z => some (Value.bool z)) (by first | rfl | assumption | decide | simp [*] : (!true) = false),
     rfl,
     fun γ w' _ hm => great5_0_no b_0 b_1 b_2 b_3 b_4 b_5 b_6 b_7 w'  hb_1 hb_3 hb_5 hb_7,
     rfl,
     fun γ w' _ _ => by have h := v5Norm_any hb (by decide) w'; rw [normV, if_pos gfb] at h; exact h,
     congrArg (fun z => some (Value.bool z)) (by first | rfl | assumption | decide | simp [*] : (!false) = true),
     rfl⟩
set_option maxRecDepth 100000 in
theorem Order_gc (a_0 : Bool) (a_1 : ByteArray) (a_2 : Bool) (a_3 : ByteArray) (a_4 : Bool) (a_5 : ByteArray) (a_6 : Bool) (a_7 : ByteArray) (b_0 : Bool) (b_1 : ByteArray) (b_2 : Bool) (b_3 : ByteArray) (b_4 : Bool) (b_5 : ByteArray) (b_6 : Bool) (b_7 : ByteArray) (c_0 : Bool) (c_1 : ByteArray) (c_2 : Bool) (c_3 : ByteArray) (c_4 : Bool) (c_5 : ByteArray) (c_6 : Bool) (c_7 : ByteArray) (w : World) (hT : TabC w)  (ha_1 : a_1.size ≤ 6) (ha_3 : a_3.size ≤ 6) (ha_5 : a_5.size ≤ 6) (ha_7 : a_7.size ≤ 6) (gfa : ¬ flatF (Z4.mk (iv a_0 a_1) (iv a_2 a_3) (iv a_4 a_5) (iv a_6 a_7))) (hb_1 : b_1.size ≤ 6) (hb_3 : b_3.size ≤ 6) (hb_5 : b_5.size ≤ 6) (hb_7 : b_7.size ≤ 6) (gfb : ¬ flatF (Z4.mk (iv b_0 b_1) (iv b_2 b_3) (iv b_4 b_5) (iv b_6 b_7))) (h : ¬ (c_1.size ≤ 6 ∧ c_3.size ≤ 6 ∧ c_5.size ≤ 6 ∧ c_7.size ≤ 6)) :
    Calls Tryz.prog 9 #[.agg #[.bool a_0, .string a_1, .bool a_2, .string a_3, .bool a_4, .string a_5, .bool a_6, .string a_7, .bool b_0, .string b_1, .bool b_2, .string b_3, .bool b_4, .string b_5, .bool b_6, .string b_7, .bool c_0, .string c_1, .bool c_2, .string c_3, .bool c_4, .string c_5, .bool c_6, .string c_7]] w fun e w' => e = .returned (.bool true) ∧ Below w.heap.size w w' := by
  obtain ⟨a, ha, ra⟩ : ∃ q, IsF (.agg #[.bool a_0, .string a_1, .bool a_2, .string a_3, .bool a_4, .string a_5, .bool a_6, .string a_7]) q 6 ∧ q = ⟨iv a_0 a_1, iv a_2 a_3, iv a_4 a_5, iv a_6 a_7⟩ := ⟨⟨_, _, _, _⟩, ⟨_, _, _, _, _, _, _, _, rfl, rfl, ha_1, rfl, ha_3, rfl, ha_5, rfl, ha_7⟩, rfl⟩
  have za := ha.sz
  obtain ⟨b, hb, rb⟩ : ∃ q, IsF (.agg #[.bool b_0, .string b_1, .bool b_2, .string b_3, .bool b_4, .string b_5, .bool b_6, .string b_7]) q 6 ∧ q = ⟨iv b_0 b_1, iv b_2 b_3, iv b_4 b_5, iv b_6 b_7⟩ := ⟨⟨_, _, _, _⟩, ⟨_, _, _, _, _, _, _, _, rfl, rfl, hb_1, rfl, hb_3, rfl, hb_5, rfl, hb_7⟩, rfl⟩
  have zb := hb.sz
  rw [← ra] at gfa
  rw [← rb] at gfb
  have f1 : Fk (prim a) 6 := Fk.up ((Fk.prim za)) (by decide)
  have f2 : Fk (prim b) 6 := Fk.up ((Fk.prim zb)) (by decide)
  exact SX.run (w := w) (List.flatten [[.bool a_0, .string a_1, .bool a_2, .string a_3, .bool a_4, .string a_5, .bool a_6, .string a_7, .bool b_0, .string b_1, .bool b_2, .string b_3, .bool b_4, .string b_5, .bool b_6, .string b_7, .bool c_0, .string c_1, .bool c_2, .string c_3, .bool c_4, .string c_5, .bool c_6, .string c_7, .bool true, .bool false, .bool false], fc (prim a), [.bool true, .bool false, .bool false], fc (prim b), [.bool true, .bool false, .bool true]]) [.b false, .b false, .b false, .b false, .b false, .b true] [.ga 0 24] 24 (.one (.c (.p (.lit (.bool true))))) [.call 10 [] (.one (.ca 24)) [], .op1 .not (.pa 24) 25, .isB 25 false, .call 11 [.ga 0 8, .c (.p (.lit (.slice none 0 0)))] (.one (.ca 26)) [], .isB 26 false, .call 14 [.ga 0 8] (.tup [.ga 27 8, .ca 35]) [], .op1 .not (.pa 35) 36, .isB 36 false, .call 11 [.ga 8 8, .c (.p (.lit (.slice none 0 0)))] (.one (.ca 37)) [], .isB 37 false, .call 14 [.ga 8 8] (.tup [.ga 38 8, .ca 46]) [], .op1 .not (.pa 46) 47, .isB 47 false, .call 11 [.ga 16 8, .c (.p (.lit (.slice none 0 0)))] (.one (.ca 48)) [], .isB 48 true] Tryz.func9 (by kernel_rfl) rfl (by kernel_rfl) rfl (by kernel_rfl)
    ⟨fun γ w' bw _ => alive5_any w' (hT.later bw),
     congrArg (fun z => some (Value.bool z)) (by first | rfl | assumption | decide | simp [*] : (!true) = false),
     rfl,
     fun γ w' _ hm => great5_0_no a_0 a_1 a_2 a_3 a_4 a_5 a_6 a_7 w'  ha_1 ha_3 ha_5 ha_7,
     rfl,
     fun γ w' _ _ => by have h := v5Norm_any ha (by decide) w'; rw [normV, if_neg gfa] at h; exact h,
     congrArg (fun z => some (Value.bool z)) (by first | rfl | assumption | decide | simp [*] : (!true) = false),
     rfl,
     fun γ w' _ hm => great5_0_no b_0 b_1 b_2 b_3 b_4 b_5 b_6 b_7 w'  hb_1 hb_3 hb_5 hb_7,
     rfl,
     fun γ w' _ _ => by have h := v5Norm_any hb (by decide) w'; rw [normV, if_neg gfb] at h; exact h,
     congrArg (fun z => some (Value.bool z)) (by first | rfl | assumption | decide | simp [*] : (!true) = false),
     rfl,
     fun γ w' _ hm => great5_0_p c_0 c_1 c_2 c_3 c_4 c_5 c_6 c_7 w'  h,
     rfl⟩
set_option maxRecDepth 100000 in
theorem Order_fc (a_0 : Bool) (a_1 : ByteArray) (a_2 : Bool) (a_3 : ByteArray) (a_4 : Bool) (a_5 : ByteArray) (a_6 : Bool) (a_7 : ByteArray) (b_0 : Bool) (b_1 : ByteArray) (b_2 : Bool) (b_3 : ByteArray) (b_4 : Bool) (b_5 : ByteArray) (b_6 : Bool) (b_7 : ByteArray) (c_0 : Bool) (c_1 : ByteArray) (c_2 : Bool) (c_3 : ByteArray) (c_4 : Bool) (c_5 : ByteArray) (c_6 : Bool) (c_7 : ByteArray) (w : World) (hT : TabC w)  (ha_1 : a_1.size ≤ 6) (ha_3 : a_3.size ≤ 6) (ha_5 : a_5.size ≤ 6) (ha_7 : a_7.size ≤ 6) (gfa : ¬ flatF (Z4.mk (iv a_0 a_1) (iv a_2 a_3) (iv a_4 a_5) (iv a_6 a_7))) (hb_1 : b_1.size ≤ 6) (hb_3 : b_3.size ≤ 6) (hb_5 : b_5.size ≤ 6) (hb_7 : b_7.size ≤ 6) (gfb : ¬ flatF (Z4.mk (iv b_0 b_1) (iv b_2 b_3) (iv b_4 b_5) (iv b_6 b_7))) (hc_1 : c_1.size ≤ 6) (hc_3 : c_3.size ≤ 6) (hc_5 : c_5.size ≤ 6) (hc_7 : c_7.size ≤ 6) (gfc : flatF (Z4.mk (iv c_0 c_1) (iv c_2 c_3) (iv c_4 c_5) (iv c_6 c_7))) :
    Calls Tryz.prog 9 #[.agg #[.bool a_0, .string a_1, .bool a_2, .string a_3, .bool a_4, .string a_5, .bool a_6, .string a_7, .bool b_0, .string b_1, .bool b_2, .string b_3, .bool b_4, .string b_5, .bool b_6, .string b_7, .bool c_0, .string c_1, .bool c_2, .string c_3, .bool c_4, .string c_5, .bool c_6, .string c_7]] w fun e w' => e = .returned (.bool true) ∧ Below w.heap.size w w' := by
  obtain ⟨a, ha, ra⟩ : ∃ q, IsF (.agg #[.bool a_0, .string a_1, .bool a_2, .string a_3, .bool a_4, .string a_5, .bool a_6, .string a_7]) q 6 ∧ q = ⟨iv a_0 a_1, iv a_2 a_3, iv a_4 a_5, iv a_6 a_7⟩ := ⟨⟨_, _, _, _⟩, ⟨_, _, _, _, _, _, _, _, rfl, rfl, ha_1, rfl, ha_3, rfl, ha_5, rfl, ha_7⟩, rfl⟩
  have za := ha.sz
  obtain ⟨b, hb, rb⟩ : ∃ q, IsF (.agg #[.bool b_0, .string b_1, .bool b_2, .string b_3, .bool b_4, .string b_5, .bool b_6, .string b_7]) q 6 ∧ q = ⟨iv b_0 b_1, iv b_2 b_3, iv b_4 b_5, iv b_6 b_7⟩ := ⟨⟨_, _, _, _⟩, ⟨_, _, _, _, _, _, _, _, rfl, rfl, hb_1, rfl, hb_3, rfl, hb_5, rfl, hb_7⟩, rfl⟩
  have zb := hb.sz
  obtain ⟨c, hc, rc⟩ : ∃ q, IsF (.agg #[.bool c_0, .string c_1, .bool c_2, .string c_3, .bool c_4, .string c_5, .bool c_6, .string c_7]) q 6 ∧ q = ⟨iv c_0 c_1, iv c_2 c_3, iv c_4 c_5, iv c_6 c_7⟩ := ⟨⟨_, _, _, _⟩, ⟨_, _, _, _, _, _, _, _, rfl, rfl, hc_1, rfl, hc_3, rfl, hc_5, rfl, hc_7⟩, rfl⟩
  have zc := hc.sz
  rw [← ra] at gfa
  rw [← rb] at gfb
  rw [← rc] at gfc
  have f1 : Fk (prim a) 6 := Fk.up ((Fk.prim za)) (by decide)
  have f2 : Fk (prim b) 6 := Fk.up ((Fk.prim zb)) (by decide)
  exact SX.run (w := w) (List.flatten [[.bool a_0, .string a_1, .bool a_2, .string a_3, .bool a_4, .string a_5, .bool a_6, .string a_7, .bool b_0, .string b_1, .bool b_2, .string b_3, .bool b_4, .string b_5, .bool b_6, .string b_7, .bool c_0, .string c_1, .bool c_2, .string c_3, .bool c_4, .string c_5, .bool c_6, .string c_7, .bool true, .bool false, .bool false], fc (prim a), [.bool true, .bool false, .bool false], fc (prim b), [.bool true, .bool false, .bool false, .bool false, .string ⟨#[]⟩, .bool false, .string ⟨#[]⟩, .bool false, .string ⟨#[]⟩, .bool false, .string ⟨#[]⟩, .bool false, .bool true]]) [.b false, .b false, .b false, .b false, .b false, .b false, .b true] [.ga 0 24] 24 (.one (.c (.p (.lit (.bool true))))) [.call 10 [] (.one (.ca 24)) [], .op1 .not (.pa 24) 25, .isB 25 false, .call 11 [.ga 0 8, .c (.p (.lit (.slice none 0 0)))] (.one (.ca 26)) [], .isB 26 false, .call 14 [.ga 0 8] (.tup [.ga 27 8, .ca 35]) [], .op1 .not (.pa 35) 36, .isB 36 false, .call 11 [.ga 8 8, .c (.p (.lit (.slice none 0 0)))] (.one (.ca 37)) [], .isB 37 false, .call 14 [.ga 8 8] (.tup [.ga 38 8, .ca 46]) [], .op1 .not (.pa 46) 47, .isB 47 false, .call 11 [.ga 16 8, .c (.p (.lit (.slice none 0 0)))] (.one (.ca 48)) [], .isB 48 false, .call 14 [.ga 16 8] (.tup [.ga 49 8, .ca 57]) [], .op1 .not (.pa 57) 58, .isB 58 true] Tryz.func9 (by kernel_rfl) rfl (by kernel_rfl) rfl (by kernel_rfl)
    ⟨fun γ w' bw _ => alive5_any w' (hT.later bw),
     congrArg (fun z => some (Value.bool z)) (by first | rfl | assumption | decide | simp [*] : (!true) = false),
     rfl,
     fun γ w' _ hm => great5_0_no a_0 a_1 a_2 a_3 a_4 a_5 a_6 a_7 w'  ha_1 ha_3 ha_5 ha_7,
     rfl,
     fun γ w' _ _ => by have h := v5Norm_any ha (by decide) w'; rw [normV, if_neg gfa] at h; exact h,
     congrArg (fun z => some (Value.bool z)) (by first | rfl | assumption | decide | simp [*] : (!true) = false),
     rfl,
     fun γ w' _ hm => great5_0_no b_0 b_1 b_2 b_3 b_4 b_5 b_6 b_7 w'  hb_1 hb_3 hb_5 hb_7,
     rfl,
     fun γ w' _ _ => by have h := v5Norm_any hb (by decide) w'; rw [normV, if_neg gfb] at h; exact h,
     congrArg (fun z => some (Value.bool z)) (by first | rfl | assumption | decide | simp [*] : (!true) = false),
     rfl,
     fun γ w' _ hm => great5_0_no c_0 c_1 c_2 c_3 c_4 c_5 c_6 c_7 w'  hc_1 hc_3 hc_5 hc_7,
     rfl,
     fun γ w' _ _ => by have h := v5Norm_any hc (by decide) w'; rw [normV, if_pos gfc] at h; exact h,
     congrArg (fun z => some (Value.bool z)) (by first | rfl | assumption | decide | simp [*] : (!false) = true),
     rfl⟩
set_option maxHeartbeats 4000000 in
set_option maxRecDepth 100000 in
theorem Order_1 (a_0 : Bool) (a_1 : ByteArray) (a_2 : Bool) (a_3 : ByteArray) (a_4 : Bool) (a_5 : ByteArray) (a_6 : Bool) (a_7 : ByteArray) (b_0 : Bool) (b_1 : ByteArray) (b_2 : Bool) (b_3 : ByteArray) (b_4 : Bool) (b_5 : ByteArray) (b_6 : Bool) (b_7 : ByteArray) (c_0 : Bool) (c_1 : ByteArray) (c_2 : Bool) (c_3 : ByteArray) (c_4 : Bool) (c_5 : ByteArray) (c_6 : Bool) (c_7 : ByteArray) (w : World) (hT : TabC w)  (ha_1 : a_1.size ≤ 6) (ha_3 : a_3.size ≤ 6) (ha_5 : a_5.size ≤ 6) (ha_7 : a_7.size ≤ 6) (gfa : ¬ flatF (Z4.mk (iv a_0 a_1) (iv a_2 a_3) (iv a_4 a_5) (iv a_6 a_7))) (hb_1 : b_1.size ≤ 6) (hb_3 : b_3.size ≤ 6) (hb_5 : b_5.size ≤ 6) (hb_7 : b_7.size ≤ 6) (gfb : ¬ flatF (Z4.mk (iv b_0 b_1) (iv b_2 b_3) (iv b_4 b_5) (iv b_6 b_7))) (hc_1 : c_1.size ≤ 6) (hc_3 : c_3.size ≤ 6) (hc_5 : c_5.size ≤ 6) (hc_7 : c_7.size ≤ 6) (gfc : ¬ flatF (Z4.mk (iv c_0 c_1) (iv c_2 c_3) (iv c_4 c_5) (iv c_6 c_7))) (h1 : ¬ (cmpF (prim (Z4.mk (iv a_0 a_1) (iv a_2 a_3) (iv a_4 a_5) (iv a_6 a_7))) (prim (Z4.mk (iv b_0 b_1) (iv b_2 b_3) (iv b_4 b_5) (iv b_6 b_7))) < 0)) :
    Calls Tryz.prog 9 #[.agg #[.bool a_0, .string a_1, .bool a_2, .string a_3, .bool a_4, .string a_5, .bool a_6, .string a_7, .bool b_0, .string b_1, .bool b_2, .string b_3, .bool b_4, .string b_5, .bool b_6, .string b_7, .bool c_0, .string c_1, .bool c_2, .string c_3, .bool c_4, .string c_5, .bool c_6, .string c_7]] w fun e w' => e = .returned (.bool true) ∧ Below w.heap.size w w' := by
  obtain ⟨a, ha, ra⟩ : ∃ q, IsF (.agg #[.bool a_0, .string a_1, .bool a_2, .string a_3, .bool a_4, .string a_5, .bool a_6, .string a_7]) q 6 ∧ q = ⟨iv a_0 a_1, iv a_2 a_3, iv a_4 a_5, iv a_6 a_7⟩ := ⟨⟨_, _, _, _⟩, ⟨_, _, _, _, _, _, _, _, rfl, rfl, ha_1, rfl, ha_3, rfl, ha_5, rfl, ha_7⟩, rfl⟩
  have za := ha.sz
  obtain ⟨b, hb, rb⟩ : ∃ q, IsF (.agg #[.bool b_0, .string b_1, .bool b_2, .string b_3, .bool b_4, .string b_5, .bool b_6, .string b_7]) q 6 ∧ q = ⟨iv b_0 b_1, iv b_2 b_3, iv b_4 b_5, iv b_6 b_7⟩ := ⟨⟨_, _, _, _⟩, ⟨_, _, _, _, _, _, _, _, rfl, rfl, hb_1, rfl, hb_3, rfl, hb_5, rfl, hb_7⟩, rfl⟩
  have zb := hb.sz
  obtain ⟨c, hc, rc⟩ : ∃ q, IsF (.agg #[.bool c_0, .string c_1, .bool c_2, .string c_3, .bool c_4, .string c_5, .bool c_6, .string c_7]) q 6 ∧ q = ⟨iv c_0 c_1, iv c_2 c_3, iv c_4 c_5, iv c_6 c_7⟩ := ⟨⟨_, _, _, _⟩, ⟨_, _, _, _, _, _, _, _, rfl, rfl, hc_1, rfl, hc_3, rfl, hc_5, rfl, hc_7⟩, rfl⟩
  have zc := hc.sz
  rw [← ra] at gfa
  rw [← rb] at gfb
  rw [← rc] at gfc
  rw [← ra, ← rb] at h1
  have f1 : Fk (prim a) 6 := Fk.up ((Fk.prim za)) (by decide)
  have f2 : Fk (prim b) 6 := Fk.up ((Fk.prim zb)) (by decide)
  have f3 : Fk (prim c) 6 := Fk.up ((Fk.prim zc)) (by decide)
  exact SX.run (w := w) (List.flatten [[.bool a_0, .string a_1, .bool a_2, .string a_3, .bool a_4, .string a_5, .bool a_6, .string a_7, .bool b_0, .string b_1, .bool b_2, .string b_3, .bool b_4, .string b_5, .bool b_6, .string b_7, .bool c_0, .string c_1, .bool c_2, .string c_3, .bool c_4, .string c_5, .bool c_6, .string c_7, .bool true, .bool false, .bool false], fc (prim a), [.bool true, .bool false, .bool false], fc (prim b), [.bool true, .bool false, .bool false], fc (prim c), (.bool true :: .bool false :: .int .i64 (cmpF (prim a) (prim a)) :: .int .i64 (cmpF (prim a) (prim a)) :: .bool false :: .int .i64 (cmpF (prim a) (prim a)) :: .int .i64 (cmpF (prim a) (prim a)) :: .bool false :: .bool ((cmpF (prim a) (prim a)) == (0 : Int)) :: .bool (false != decide ((prim a) = (prim a))) :: .bool false :: .int .i64 (cmpF (prim a) (prim b)) :: .int .i64 (cmpF (prim a) (prim b)) :: .bool false :: .int .i64 (cmpF (prim b) (prim a)) :: .int .i64 (cmpF (prim a) (prim b)) :: .bool false :: .bool ((cmpF (prim a) (prim b)) == (0 : Int)) :: .bool (false != decide ((prim a) = (prim b))) :: .bool false :: .int .i64 (cmpF (prim a) (prim c)) :: .int .i64 (cmpF (prim a) (prim c)) :: .bool false :: .int .i64 (cmpF (prim c) (prim a)) :: .int .i64 (cmpF (prim a) (prim c)) :: .bool false :: .bool ((cmpF (prim a) (prim c)) == (0 : Int)) :: .bool (false != decide ((prim a) = (prim c))) :: .bool false :: .int .i64 (cmpF (prim b) (prim a)) :: .int .i64 (cmpF (prim b) (prim a)) :: .bool false :: .int .i64 (cmpF (prim a) (prim b)) :: .int .i64 (cmpF (prim b) (prim a)) :: .bool false :: .bool ((cmpF (prim b) (prim a)) == (0 : Int)) :: .bool (false != decide ((prim b) = (prim a))) :: .bool false :: .int .i64 (cmpF (prim b) (prim b)) :: .int .i64 (cmpF (prim b) (prim b)) :: .bool false :: .int .i64 (cmpF (prim b) (prim b)) :: .int .i64 (cmpF (prim b) (prim b)) :: .bool false :: .bool ((cmpF (prim b) (prim b)) == (0 : Int)) :: .bool (false != decide ((prim b) = (prim b))) :: .bool false :: .int .i64 (cmpF (prim b) (prim c)) :: .int .i64 (cmpF (prim b) (prim c)) :: .bool false :: .int .i64 (cmpF (prim c) (prim b)) :: .int .i64 (cmpF (prim b) (prim c)) :: .bool false :: .bool ((cmpF (prim b) (prim c)) == (0 : Int)) :: .bool (false != decide ((prim b) = (prim c))) :: .bool false :: .int .i64 (cmpF (prim c) (prim a)) :: .int .i64 (cmpF (prim c) (prim a)) :: .bool false :: .int .i64 (cmpF (prim a) (prim c)) :: .int .i64 (cmpF (prim c) (prim a)) :: .bool false :: .bool ((cmpF (prim c) (prim a)) == (0 : Int)) :: .bool (false != decide ((prim c) = (prim a))) :: .bool false :: .int .i64 (cmpF (prim c) (prim b)) :: .int .i64 (cmpF (prim c) (prim b)) :: .bool false :: .int .i64 (cmpF (prim b) (prim c)) :: .int .i64 (cmpF (prim c) (prim b)) :: .bool false :: .bool ((cmpF (prim c) (prim b)) == (0 : Int)) :: .bool (false != decide ((prim c) = (prim b))) :: .bool false :: .int .i64 (cmpF (prim c) (prim c)) :: .int .i64 (cmpF (prim c) (prim c)) :: .bool false :: .int .i64 (cmpF (prim c) (prim c)) :: .int .i64 (cmpF (prim c) (prim c)) :: .bool false :: .bool ((cmpF (prim c) (prim c)) == (0 : Int)) :: .bool (false != decide ((prim c) = (prim c))) :: .bool false :: .int .i64 (cmpF (prim a) (prim b)) :: .bool false :: [])]) [.b false, .b false, .b false, .b false, .b false, .b false, .b false, .b false, .b false, .b false, .b false, .b false, .b false, .b false, .b false, .b false, .b false, .b false, .b false, .b false, .b false, .b false, .b false, .b false, .b false, .b false, .b false, .b false, .b false, .b false, .b false, .b false, .b false, .b false, .b false] [.ga 0 24] 24 (.one (.c (.p (.lit (.bool true))))) (.call 10 [] (.one (.ca 24)) [] :: .op1 .not (.pa 24) 25 :: .isB 25 false :: .call 11 [.ga 0 8, .c (.p (.lit (.slice none 0 0)))] (.one (.ca 26)) [] :: .isB 26 false :: .call 14 [.ga 0 8] (.tup [.ga 27 8, .ca 35]) [] :: .op1 .not (.pa 35) 36 :: .isB 36 false :: .call 11 [.ga 8 8, .c (.p (.lit (.slice none 0 0)))] (.one (.ca 37)) [] :: .isB 37 false :: .call 14 [.ga 8 8] (.tup [.ga 38 8, .ca 46]) [] :: .op1 .not (.pa 46) 47 :: .isB 47 false :: .call 11 [.ga 16 8, .c (.p (.lit (.slice none 0 0)))] (.one (.ca 48)) [] :: .isB 48 false :: .call 14 [.ga 16 8] (.tup [.ga 49 8, .ca 57]) [] :: .op1 .not (.pa 57) 58 :: .isB 58 false :: .call 41 [.ga 27 8, .ga 27 8] (.one (.ca 59)) [] :: .call 42 [.ga 27 8, .ga 27 8] (.one (.ca 60)) [] :: .op2 false .neq (.pa 59) (.pa 60) 61 :: .isB 61 false :: .call 41 [.ga 27 8, .ga 27 8] (.one (.ca 62)) [] :: .op1 .neg (.pa 62) 63 :: .op2 false .neq (.pa 59) (.pa 63) 64 :: .isB 64 false :: .op2 false .eql (.pa 59) (.p (.lit (.int .i64 0))) 65 :: .eqs false [.b, .s, .b, .s, .b, .s, .b, .s] [.pa 27, .pa 28, .pa 29, .pa 30, .pa 31, .pa 32, .pa 33, .pa 34] [.pa 27, .pa 28, .pa 29, .pa 30, .pa 31, .pa 32, .pa 33, .pa 34] 66 :: .op2 true .neq (.pa 65) (.pa 66) 67 :: .isB 67 false :: .call 41 [.ga 27 8, .ga 38 8] (.one (.ca 68)) [] :: .call 42 [.ga 27 8, .ga 38 8] (.one (.ca 69)) [] :: .op2 false .neq (.pa 68) (.pa 69) 70 :: .isB 70 false :: .call 41 [.ga 38 8, .ga 27 8] (.one (.ca 71)) [] :: .op1 .neg (.pa 71) 72 :: .op2 false .neq (.pa 68) (.pa 72) 73 :: .isB 73 false :: .op2 false .eql (.pa 68) (.p (.lit (.int .i64 0))) 74 :: .eqs false [.b, .s, .b, .s, .b, .s, .b, .s] [.pa 27, .pa 28, .pa 29, .pa 30, .pa 31, .pa 32, .pa 33, .pa 34] [.pa 38, .pa 39, .pa 40, .pa 41, .pa 42, .pa 43, .pa 44, .pa 45] 75 :: .op2 true .neq (.pa 74) (.pa 75) 76 :: .isB 76 false :: .call 41 [.ga 27 8, .ga 49 8] (.one (.ca 77)) [] :: .call 42 [.ga 27 8, .ga 49 8] (.one (.ca 78)) [] :: .op2 false .neq (.pa 77) (.pa 78) 79 :: .isB 79 false :: .call 41 [.ga 49 8, .ga 27 8] (.one (.ca 80)) [] :: .op1 .neg (.pa 80) 81 :: .op2 false .neq (.pa 77) (.pa 81) 82 :: .isB 82 false :: .op2 false .eql (.pa 77) (.p (.lit (.int .i64 0))) 83 :: .eqs false [.b, .s, .b, .s, .b, .s, .b, .s] [.pa 27, .pa 28, .pa 29, .pa 30, .pa 31, .pa 32, .pa 33, .pa 34] [.pa 49, .pa 50, .pa 51, .pa 52, .pa 53, .pa 54, .pa 55, .pa 56] 84 :: .op2 true .neq (.pa 83) (.pa 84) 85 :: .isB 85 false :: .call 41 [.ga 38 8, .ga 27 8] (.one (.ca 86)) [] :: .call 42 [.ga 38 8, .ga 27 8] (.one (.ca 87)) [] :: .op2 false .neq (.pa 86) (.pa 87) 88 :: .isB 88 false :: .call 41 [.ga 27 8, .ga 38 8] (.one (.ca 89)) [] :: .op1 .neg (.pa 89) 90 :: .op2 false .neq (.pa 86) (.pa 90) 91 :: .isB 91 false :: .op2 false .eql (.pa 86) (.p (.lit (.int .i64 0))) 92 :: .eqs false [.b, .s, .b, .s, .b, .s, .b, .s] [.pa 38, .pa 39, .pa 40, .pa 41, .pa 42, .pa 43, .pa 44, .pa 45] [.pa 27, .pa 28, .pa 29, .pa 30, .pa 31, .pa 32, .pa 33, .pa 34] 93 :: .op2 true .neq (.pa 92) (.pa 93) 94 :: .isB 94 false :: .call 41 [.ga 38 8, .ga 38 8] (.one (.ca 95)) [] :: .call 42 [.ga 38 8, .ga 38 8] (.one (.ca 96)) [] :: .op2 false .neq (.pa 95) (.pa 96) 97 :: .isB 97 false :: .call 41 [.ga 38 8, .ga 38 8] (.one (.ca 98)) [] :: .op1 .neg (.pa 98) 99 :: .op2 false .neq (.pa 95) (.pa 99) 100 :: .isB 100 false :: .op2 false .eql (.pa 95) (.p (.lit (.int .i64 0))) 101 :: .eqs false [.b, .s, .b, .s, .b, .s, .b, .s] [.pa 38, .pa 39, .pa 40, .pa 41, .pa 42, .pa 43, .pa 44, .pa 45] [.pa 38, .pa 39, .pa 40, .pa 41, .pa 42, .pa 43, .pa 44, .pa 45] 102 :: .op2 true .neq (.pa 101) (.pa 102) 103 :: .isB 103 false :: .call 41 [.ga 38 8, .ga 49 8] (.one (.ca 104)) [] :: .call 42 [.ga 38 8, .ga 49 8] (.one (.ca 105)) [] :: .op2 false .neq (.pa 104) (.pa 105) 106 :: .isB 106 false :: .call 41 [.ga 49 8, .ga 38 8] (.one (.ca 107)) [] :: .op1 .neg (.pa 107) 108 :: .op2 false .neq (.pa 104) (.pa 108) 109 :: .isB 109 false :: .op2 false .eql (.pa 104) (.p (.lit (.int .i64 0))) 110 :: .eqs false [.b, .s, .b, .s, .b, .s, .b, .s] [.pa 38, .pa 39, .pa 40, .pa 41, .pa 42, .pa 43, .pa 44, .pa 45] [.pa 49, .pa 50, .pa 51, .pa 52, .pa 53, .pa 54, .pa 55, .pa 56] 111 :: .op2 true .neq (.pa 110) (.pa 111) 112 :: .isB 112 false :: .call 41 [.ga 49 8, .ga 27 8] (.one (.ca 113)) [] :: .call 42 [.ga 49 8, .ga 27 8] (.one (.ca 114)) [] :: .op2 false .neq (.pa 113) (.pa 114) 115 :: .isB 115 false :: .call 41 [.ga 27 8, .ga 49 8] (.one (.ca 116)) [] :: .op1 .neg (.pa 116) 117 :: .op2 false .neq (.pa 113) (.pa 117) 118 :: .isB 118 false :: .op2 false .eql (.pa 113) (.p (.lit (.int .i64 0))) 119 :: .eqs false [.b, .s, .b, .s, .b, .s, .b, .s] [.pa 49, .pa 50, .pa 51, .pa 52, .pa 53, .pa 54, .pa 55, .pa 56] [.pa 27, .pa 28, .pa 29, .pa 30, .pa 31, .pa 32, .pa 33, .pa 34] 120 :: .op2 true .neq (.pa 119) (.pa 120) 121 :: .isB 121 false :: .call 41 [.ga 49 8, .ga 38 8] (.one (.ca 122)) [] :: .call 42 [.ga 49 8, .ga 38 8] (.one (.ca 123)) [] :: .op2 false .neq (.pa 122) (.pa 123) 124 :: .isB 124 false :: .call 41 [.ga 38 8, .ga 49 8] (.one (.ca 125)) [] :: .op1 .neg (.pa 125) 126 :: .op2 false .neq (.pa 122) (.pa 126) 127 :: .isB 127 false :: .op2 false .eql (.pa 122) (.p (.lit (.int .i64 0))) 128 :: .eqs false [.b, .s, .b, .s, .b, .s, .b, .s] [.pa 49, .pa 50, .pa 51, .pa 52, .pa 53, .pa 54, .pa 55, .pa 56] [.pa 38, .pa 39, .pa 40, .pa 41, .pa 42, .pa 43, .pa 44, .pa 45] 129 :: .op2 true .neq (.pa 128) (.pa 129) 130 :: .isB 130 false :: .call 41 [.ga 49 8, .ga 49 8] (.one (.ca 131)) [] :: .call 42 [.ga 49 8, .ga 49 8] (.one (.ca 132)) [] :: .op2 false .neq (.pa 131) (.pa 132) 133 :: .isB 133 false :: .call 41 [.ga 49 8, .ga 49 8] (.one (.ca 134)) [] :: .op1 .neg (.pa 134) 135 :: .op2 false .neq (.pa 131) (.pa 135) 136 :: .isB 136 false :: .op2 false .eql (.pa 131) (.p (.lit (.int .i64 0))) 137 :: .eqs false [.b, .s, .b, .s, .b, .s, .b, .s] [.pa 49, .pa 50, .pa 51, .pa 52, .pa 53, .pa 54, .pa 55, .pa 56] [.pa 49, .pa 50, .pa 51, .pa 52, .pa 53, .pa 54, .pa 55, .pa 56] 138 :: .op2 true .neq (.pa 137) (.pa 138) 139 :: .isB 139 false :: .call 41 [.ga 27 8, .ga 38 8] (.one (.ca 140)) [] :: .op2 false .lss (.pa 140) (.p (.lit (.int .i64 0))) 141 :: .isB 141 false :: []) Tryz.func9 (by kernel_rfl) rfl (by kernel_rfl) rfl (by kernel_rfl)
    ⟨fun γ w' bw _ => alive5_any w' (hT.later bw),
     congrArg (fun z => some (Value.bool z)) (by first | rfl | assumption | decide | simp [*] : (!true) = false),
     rfl,
     fun γ w' _ hm => great5_0_no a_0 a_1 a_2 a_3 a_4 a_5 a_6 a_7 w'  ha_1 ha_3 ha_5 ha_7,
     rfl,
     fun γ w' _ _ => by have h := v5Norm_any ha (by decide) w'; rw [normV, if_neg gfa] at h; exact h,
     congrArg (fun z => some (Value.bool z)) (by first | rfl | assumption | decide | simp [*] : (!true) = false),
     rfl,
     fun γ w' _ hm => great5_0_no b_0 b_1 b_2 b_3 b_4 b_5 b_6 b_7 w'  hb_1 hb_3 hb_5 hb_7,
     rfl,
     fun γ w' _ _ => by have h := v5Norm_any hb (by decide) w'; rw [normV, if_neg gfb] at h; exact h,
     congrArg (fun z => some (Value.bool z)) (by first | rfl | assumption | decide | simp [*] : (!true) = false),
     rfl,
     fun γ w' _ hm => great5_0_no c_0 c_1 c_2 c_3 c_4 c_5 c_6 c_7 w'  hc_1 hc_3 hc_5 hc_7,
     rfl,
     fun γ w' _ _ => by have h := v5Norm_any hc (by decide) w'; rw [normV, if_neg gfc] at h; exact h,
     congrArg (fun z => some (Value.bool z)) (by first | rfl | assumption | decide | simp [*] : (!true) = false),
     rfl,
     fun γ w' _ _ => plCmp f1 (by decide) f1 (by decide) w',
     fun γ w' _ _ => v5Cmp (IsF.can f1) (by decide) (IsF.can f1) (by decide) w',
     congrArg (fun z => some (Value.bool z)) (bne_self_eq_false _ : ((cmpF (prim a) (prim a)) != (cmpF (prim a) (prim a))) = false),
     rfl,
     fun γ w' _ _ => plCmp f1 (by decide) f1 (by decide) w',
     congrArg (fun z => some (Value.int .i64 z)) (neg_cmpF _ _ : IntKind.wrap .i64 (0 - (cmpF (prim a) (prim a))) = (cmpF (prim a) (prim a))),
     congrArg (fun z => some (Value.bool z)) (bne_self_eq_false _ : ((cmpF (prim a) (prim a)) != (cmpF (prim a) (prim a))) = false),
     rfl,
     rfl,
     ⟨rfl, rfl, eqv (eqL_F (prim a) (prim a))⟩,
     congrArg (fun z => some (Value.bool z)) (cmpF_eq _ _ : (!(((cmpF (prim a) (prim a)) == (0 : Int)) == (false != decide ((prim a) = (prim a))))) = false),
     rfl,
     fun γ w' _ _ => plCmp f1 (by decide) f2 (by decide) w',
     fun γ w' _ _ => v5Cmp (IsF.can f1) (by decide) (IsF.can f2) (by decide) w',
     congrArg (fun z => some (Value.bool z)) (bne_self_eq_false _ : ((cmpF (prim a) (prim b)) != (cmpF (prim a) (prim b))) = false),
     rfl,
     fun γ w' _ _ => plCmp f2 (by decide) f1 (by decide) w',
     congrArg (fun z => some (Value.int .i64 z)) (neg_cmpF _ _ : IntKind.wrap .i64 (0 - (cmpF (prim b) (prim a))) = (cmpF (prim a) (prim b))),
     congrArg (fun z => some (Value.bool z)) (bne_self_eq_false _ : ((cmpF (prim a) (prim b)) != (cmpF (prim a) (prim b))) = false),
     rfl,
     rfl,
     ⟨rfl, rfl, eqv (eqL_F (prim a) (prim b))⟩,
     congrArg (fun z => some (Value.bool z)) (cmpF_eq _ _ : (!(((cmpF (prim a) (prim b)) == (0 : Int)) == (false != decide ((prim a) = (prim b))))) = false),
     rfl,
     fun γ w' _ _ => plCmp f1 (by decide) f3 (by decide) w',
     fun γ w' _ _ => v5Cmp (IsF.can f1) (by decide) (IsF.can f3) (by decide) w',
     congrArg (fun z => some (Value.bool z)) (bne_self_eq_false _ : ((cmpF (prim a) (prim c)) != (cmpF (prim a) (prim c))) = false),
     rfl,
     fun γ w' _ _ => plCmp f3 (by decide) f1 (by decide) w',
     congrArg (fun z => some (Value.int .i64 z)) (neg_cmpF _ _ : IntKind.wrap .i64 (0 - (cmpF (prim c) (prim a))) = (cmpF (prim a) (prim c))),
     congrArg (fun z => some (Value.bool z)) (bne_self_eq_false _ : ((cmpF (prim a) (prim c)) != (cmpF (prim a) (prim c))) = false),
     rfl,
     rfl,
     ⟨rfl, rfl, eqv (eqL_F (prim a) (prim c))⟩,
     congrArg (fun z => some (Value.bool z)) (cmpF_eq _ _ : (!(((cmpF (prim a) (prim c)) == (0 : Int)) == (false != decide ((prim a) = (prim c))))) = false),
     rfl,
     fun γ w' _ _ => plCmp f2 (by decide) f1 (by decide) w',
     fun γ w' _ _ => v5Cmp (IsF.can f2) (by decide) (IsF.can f1) (by decide) w',
     congrArg (fun z => some (Value.bool z)) (bne_self_eq_false _ : ((cmpF (prim b) (prim a)) != (cmpF (prim b) (prim a))) = false),
     rfl,
     fun γ w' _ _ => plCmp f1 (by decide) f2 (by decide) w',
     congrArg (fun z => some (Value.int .i64 z)) (neg_cmpF _ _ : IntKind.wrap .i64 (0 - (cmpF (prim a) (prim b))) = (cmpF (prim b) (prim a))),
     congrArg (fun z => some (Value.bool z)) (bne_self_eq_false _ : ((cmpF (prim b) (prim a)) != (cmpF (prim b) (prim a))) = false),
     rfl,
     rfl,
     ⟨rfl, rfl, eqv (eqL_F (prim b) (prim a))⟩,
     congrArg (fun z => some (Value.bool z)) (cmpF_eq _ _ : (!(((cmpF (prim b) (prim a)) == (0 : Int)) == (false != decide ((prim b) = (prim a))))) = false),
     rfl,
     fun γ w' _ _ => plCmp f2 (by decide) f2 (by decide) w',
     fun γ w' _ _ => v5Cmp (IsF.can f2) (by decide) (IsF.can f2) (by decide) w',
     congrArg (fun z => some (Value.bool z)) (bne_self_eq_false _ : ((cmpF (prim b) (prim b)) != (cmpF (prim b) (prim b))) = false),
     rfl,
     fun γ w' _ _ => plCmp f2 (by decide) f2 (by decide) w',
     congrArg (fun z => some (Value.int .i64 z)) (neg_cmpF _ _ : IntKind.wrap .i64 (0 - (cmpF (prim b) (prim b))) = (cmpF (prim b) (prim b))),
     congrArg (fun z => some (Value.bool z)) (bne_self_eq_false _ : ((cmpF (prim b) (prim b)) != (cmpF (prim b) (prim b))) = false),
     rfl,
     rfl,
     ⟨rfl, rfl, eqv (eqL_F (prim b) (prim b))⟩,
     congrArg (fun z => some (Value.bool z)) (cmpF_eq _ _ : (!(((cmpF (prim b) (prim b)) == (0 : Int)) == (false != decide ((prim b) = (prim b))))) = false),
     rfl,
     fun γ w' _ _ => plCmp f2 (by decide) f3 (by decide) w',
     fun γ w' _ _ => v5Cmp (IsF.can f2) (by decide) (IsF.can f3) (by decide) w',
     congrArg (fun z => some (Value.bool z)) (bne_self_eq_false _ : ((cmpF (prim b) (prim c)) != (cmpF (prim b) (prim c))) = false),
     rfl,
     fun γ w' _ _ => plCmp f3 (by decide) f2 (by decide) w',
     congrArg (fun z => some (Value.int .i64 z)) (neg_cmpF _ _ : IntKind.wrap .i64 (0 - (cmpF (prim c) (prim b))) = (cmpF (prim b) (prim c))),
     congrArg (fun z => some (Value.bool z)) (bne_self_eq_false _ : ((cmpF (prim b) (prim c)) != (cmpF (prim b) (prim c))) = false),
     rfl,
     rfl,
     ⟨rfl, rfl, eqv (eqL_F (prim b) (prim c))⟩,
     congrArg (fun z => some (Value.bool z)) (cmpF_eq _ _ : (!(((cmpF (prim b) (prim c)) == (0 : Int)) == (false != decide ((prim b) = (prim c))))) = false),
     rfl,
     fun γ w' _ _ => plCmp f3 (by decide) f1 (by decide) w',
     fun γ w' _ _ => v5Cmp (IsF.can f3) (by decide) (IsF.can f1) (by decide) w',
     congrArg (fun z => some (Value.bool z)) (bne_self_eq_false _ : ((cmpF (prim c) (prim a)) != (cmpF (prim c) (prim a))) = false),
     rfl,
     fun γ w' _ _ => plCmp f1 (by decide) f3 (by decide) w',
     congrArg (fun z => some (Value.int .i64 z)) (neg_cmpF _ _ : IntKind.wrap .i64 (0 - (cmpF (prim a) (prim c))) = (cmpF (prim c) (prim a))),
     congrArg (fun z => some (Value.bool z)) (bne_self_eq_false _ : ((cmpF (prim c) (prim a)) != (cmpF (prim c) (prim a))) = false),
     rfl,
     rfl,
     ⟨rfl, rfl, eqv (eqL_F (prim c) (prim a))⟩,
     congrArg (fun z => some (Value.bool z)) (cmpF_eq _ _ : (!(((cmpF (prim c) (prim a)) == (0 : Int)) == (false != decide ((prim c) = (prim a))))) = false),
     rfl,
     fun γ w' _ _ => plCmp f3 (by decide) f2 (by decide) w',
     fun γ w' _ _ => v5Cmp (IsF.can f3) (by decide) (IsF.can f2) (by decide) w',
     congrArg (fun z => some (Value.bool z)) (bne_self_eq_false _ : ((cmpF (prim c) (prim b)) != (cmpF (prim c) (prim b))) = false),
     rfl,
     fun γ w' _ _ => plCmp f2 (by decide) f3 (by decide) w',
     congrArg (fun z => some (Value.int .i64 z)) (neg_cmpF _ _ : IntKind.wrap .i64 (0 - (cmpF (prim b) (prim c))) = (cmpF (prim c) (prim b))),
     congrArg (fun z => some (Value.bool z)) (bne_self_eq_false _ : ((cmpF (prim c) (prim b)) != (cmpF (prim c) (prim b))) = false),
     rfl,
     rfl,
     ⟨rfl, rfl, eqv (eqL_F (prim c) (prim b))⟩,
     congrArg (fun z => some (Value.bool z)) (cmpF_eq _ _ : (!(((cmpF (prim c) (prim b)) == (0 : Int)) == (false != decide ((prim c) = (prim b))))) = false),
     rfl,
     fun γ w' _ _ => plCmp f3 (by decide) f3 (by decide) w',
     fun γ w' _ _ => v5Cmp (IsF.can f3) (by decide) (IsF.can f3) (by decide) w',
     congrArg (fun z => some (Value.bool z)) (bne_self_eq_false _ : ((cmpF (prim c) (prim c)) != (cmpF (prim c) (prim c))) = false),
     rfl,
     fun γ w' _ _ => plCmp f3 (by decide) f3 (by decide) w',
     congrArg (fun z => some (Value.int .i64 z)) (neg_cmpF _ _ : IntKind.wrap .i64 (0 - (cmpF (prim c) (prim c))) = (cmpF (prim c) (prim c))),
     congrArg (fun z => some (Value.bool z)) (bne_self_eq_false _ : ((cmpF (prim c) (prim c)) != (cmpF (prim c) (prim c))) = false),
     rfl,
     rfl,
     ⟨rfl, rfl, eqv (eqL_F (prim c) (prim c))⟩,
     congrArg (fun z => some (Value.bool z)) (cmpF_eq _ _ : (!(((cmpF (prim c) (prim c)) == (0 : Int)) == (false != decide ((prim c) = (prim c))))) = false),
     rfl,
     fun γ w' _ _ => plCmp f1 (by decide) f2 (by decide) w',
     congrArg (fun z => some (Value.bool z)) (decide_eq_false h1 : decide ((cmpF (prim a) (prim b)) < (0 : Int)) = false),
     rfl⟩
set_option maxHeartbeats 4000000 in
set_option maxRecDepth 100000 in
theorem Order_2 (a_0 : Bool) (a_1 : ByteArray) (a_2 : Bool) (a_3 : ByteArray) (a_4 : Bool) (a_5 : ByteArray) (a_6 : Bool) (a_7 : ByteArray) (b_0 : Bool) (b_1 : ByteArray) (b_2 : Bool) (b_3 : ByteArray) (b_4 : Bool) (b_5 : ByteArray) (b_6 : Bool) (b_7 : ByteArray) (c_0 : Bool) (c_1 : ByteArray) (c_2 : Bool) (c_3 : ByteArray) (c_4 : Bool) (c_5 : ByteArray) (c_6 : Bool) (c_7 : ByteArray) (w : World) (hT : TabC w)  (ha_1 : a_1.size ≤ 6) (ha_3 : a_3.size ≤ 6) (ha_5 : a_5.size ≤ 6) (ha_7 : a_7.size ≤ 6) (gfa : ¬ flatF (Z4.mk (iv a_0 a_1) (iv a_2 a_3) (iv a_4 a_5) (iv a_6 a_7))) (hb_1 : b_1.size ≤ 6) (hb_3 : b_3.size ≤ 6) (hb_5 : b_5.size ≤ 6) (hb_7 : b_7.size ≤ 6) (gfb : ¬ flatF (Z4.mk (iv b_0 b_1) (iv b_2 b_3) (iv b_4 b_5) (iv b_6 b_7))) (hc_1 : c_1.size ≤ 6) (hc_3 : c_3.size ≤ 6) (hc_5 : c_5.size ≤ 6) (hc_7 : c_7.size ≤ 6) (gfc : ¬ flatF (Z4.mk (iv c_0 c_1) (iv c_2 c_3) (iv c_4 c_5) (iv c_6 c_7))) (h1 : (cmpF (prim (Z4.mk (iv a_0 a_1) (iv a_2 a_3) (iv a_4 a_5) (iv a_6 a_7))) (prim (Z4.mk (iv b_0 b_1) (iv b_2 b_3) (iv b_4 b_5) (iv b_6 b_7))) < 0)) (h2 : ¬ (cmpF (prim (Z4.mk (iv b_0 b_1) (iv b_2 b_3) (iv b_4 b_5) (iv b_6 b_7))) (prim (Z4.mk (iv c_0 c_1) (iv c_2 c_3) (iv c_4 c_5) (iv c_6 c_7))) < 0)) :
    Calls Tryz.prog 9 #[.agg #[.bool a_0, .string a_1, .bool a_2, .string a_3, .bool a_4, .string a_5, .bool a_6, .string a_7, .bool b_0, .string b_1, .bool b_2, .string b_3, .bool b_4, .string b_5, .bool b_6, .string b_7, .bool c_0, .string c_1, .bool c_2, .string c_3, .bool c_4, .string c_5, .bool c_6, .string c_7]] w fun e w' => e = .returned (.bool true) ∧ Below w.heap.size w w' := by
  obtain ⟨a, ha, ra⟩ : ∃ q, IsF (.agg #[.bool a_0, .string a_1, .bool a_2, .string a_3, .bool a_4, .string a_5, .bool a_6, .string a_7]) q 6 ∧ q = ⟨iv a_0 a_1, iv a_2 a_3, iv a_4 a_5, iv a_6 a_7⟩ := ⟨⟨_, _, _, _⟩, ⟨_, _, _, _, _, _, _, _, rfl, rfl, ha_1, rfl, ha_3, rfl, ha_5, rfl, ha_7⟩, rfl⟩
  have za := ha.sz
  obtain ⟨b, hb, rb⟩ : ∃ q, IsF (.agg #[.bool b_0, .string b_1, .bool b_2, .string b_3, .bool b_4, .string b_5, .bool b_6, .string b_7]) q 6 ∧ q = ⟨iv b_0 b_1, iv b_2 b_3, iv b_4 b_5, iv b_6 b_7⟩ := ⟨⟨_, _, _, _⟩, ⟨_, _, _, _, _, _, _, _, rfl, rfl, hb_1, rfl, hb_3, rfl, hb_5, rfl, hb_7⟩, rfl⟩
  have zb := hb.sz
  obtain ⟨c, hc, rc⟩ : ∃ q, IsF (.agg #[.bool c_0, .string c_1, .bool c_2, .string c_3, .bool c_4, .string c_5, .bool c_6, .string c_7]) q 6 ∧ q = ⟨iv c_0 c_1, iv c_2 c_3, iv c_4 c_5, iv c_6 c_7⟩ := ⟨⟨_, _, _, _⟩, ⟨_, _, _, _, _, _, _, _, rfl, rfl, hc_1, rfl, hc_3, rfl, hc_5, rfl, hc_7⟩, rfl⟩
  have zc := hc.sz
  rw [← ra] at gfa
  rw [← rb] at gfb
  rw [← rc] at gfc
  rw [← ra, ← rb] at h1
  rw [← rb, ← rc] at h2
  have f1 : Fk (prim a) 6 := Fk.up ((Fk.prim za)) (by decide)
  have f2 : Fk (prim b) 6 := Fk.up ((Fk.prim zb)) (by decide)
  have f3 : Fk (prim c) 6 := Fk.up ((Fk.prim zc)) (by decide)
  exact SX.run (w := w) (List.flatten [[.bool a_0, .string a_1, .bool a_2, .string a_3, .bool a_4, .string a_5, .bool a_6, .string a_7, .bool b_0, .string b_1, .bool b_2, .string b_3, .bool b_4, .string b_5, .bool b_6, .string b_7, .bool c_0, .string c_1, .bool c_2, .string c_3, .bool c_4, .string c_5, .bool c_6, .string c_7, .bool true, .bool false, .bool false], fc (prim a), [.bool true, .bool false, .bool false], fc (prim b), [.bool true, .bool false, .bool false], fc (prim c), (.bool true :: .bool false :: .int .i64 (cmpF (prim a) (prim a)) :: .int .i64 (cmpF (prim a) (prim a)) :: .bool false :: .int .i64 (cmpF (prim a) (prim a)) :: .int .i64 (cmpF (prim a) (prim a)) :: .bool false :: .bool ((cmpF (prim a) (prim a)) == (0 : Int)) :: .bool (false != decide ((prim a) = (prim a))) :: .bool false :: .int .i64 (cmpF (prim a) (prim b)) :: .int .i64 (cmpF (prim a) (prim b)) :: .bool false :: .int .i64 (cmpF (prim b) (prim a)) :: .int .i64 (cmpF (prim a) (prim b)) :: .bool false :: .bool ((cmpF (prim a) (prim b)) == (0 : Int)) :: .bool (false != decide ((prim a) = (prim b))) :: .bool false :: .int .i64 (cmpF (prim a) (prim c)) :: .int .i64 (cmpF (prim a) (prim c)) :: .bool false :: .int .i64 (cmpF (prim c) (prim a)) :: .int .i64 (cmpF (prim a) (prim c)) :: .bool false :: .bool ((cmpF (prim a) (prim c)) == (0 : Int)) :: .bool (false != decide ((prim a) = (prim c))) :: .bool false :: .int .i64 (cmpF (prim b) (prim a)) :: .int .i64 (cmpF (prim b) (prim a)) :: .bool false :: .int .i64 (cmpF (prim a) (prim b)) :: .int .i64 (cmpF (prim b) (prim a)) :: .bool false :: .bool ((cmpF (prim b) (prim a)) == (0 : Int)) :: .bool (false != decide ((prim b) = (prim a))) :: .bool false :: .int .i64 (cmpF (prim b) (prim b)) :: .int .i64 (cmpF (prim b) (prim b)) :: .bool false :: .int .i64 (cmpF (prim b) (prim b)) :: .int .i64 (cmpF (prim b) (prim b)) :: .bool false :: .bool ((cmpF (prim b) (prim b)) == (0 : Int)) :: .bool (false != decide ((prim b) = (prim b))) :: .bool false :: .int .i64 (cmpF (prim b) (prim c)) :: .int .i64 (cmpF (prim b) (prim c)) :: .bool false :: .int .i64 (cmpF (prim c) (prim b)) :: .int .i64 (cmpF (prim b) (prim c)) :: .bool false :: .bool ((cmpF (prim b) (prim c)) == (0 : Int)) :: .bool (false != decide ((prim b) = (prim c))) :: .bool false :: .int .i64 (cmpF (prim c) (prim a)) :: .int .i64 (cmpF (prim c) (prim a)) :: .bool false :: .int .i64 (cmpF (prim a) (prim c)) :: .int .i64 (cmpF (prim c) (prim a)) :: .bool false :: .bool ((cmpF (prim c) (prim a)) == (0 : Int)) :: .bool (false != decide ((prim c) = (prim a))) :: .bool false :: .int .i64 (cmpF (prim c) (prim b)) :: .int .i64 (cmpF (prim c) (prim b)) :: .bool false :: .int .i64 (cmpF (prim b) (prim c)) :: .int .i64 (cmpF (prim c) (prim b)) :: .bool false :: .bool ((cmpF (prim c) (prim b)) == (0 : Int)) :: .bool (false != decide ((prim c) = (prim b))) :: .bool false :: .int .i64 (cmpF (prim c) (prim c)) :: .int .i64 (cmpF (prim c) (prim c)) :: .bool false :: .int .i64 (cmpF (prim c) (prim c)) :: .int .i64 (cmpF (prim c) (prim c)) :: .bool false :: .bool ((cmpF (prim c) (prim c)) == (0 : Int)) :: .bool (false != decide ((prim c) = (prim c))) :: .bool false :: .int .i64 (cmpF (prim a) (prim b)) :: .bool true :: .int .i64 (cmpF (prim b) (prim c)) :: .bool false :: [])]) [.b false, .b false, .b false, .b false, .b false, .b false, .b false, .b false, .b false, .b false, .b false, .b false, .b false, .b false, .b false, .b false, .b false, .b false, .b false, .b false, .b false, .b false, .b false, .b false, .b false, .b false, .b false, .b false, .b false, .b false, .b false, .b false, .b false, .b false, .b true, .b false] [.ga 0 24] 24 (.one (.c (.p (.lit (.bool true))))) (.call 10 [] (.one (.ca 24)) [] :: .op1 .not (.pa 24) 25 :: .isB 25 false :: .call 11 [.ga 0 8, .c (.p (.lit (.slice none 0 0)))] (.one (.ca 26)) [] :: .isB 26 false :: .call 14 [.ga 0 8] (.tup [.ga 27 8, .ca 35]) [] :: .op1 .not (.pa 35) 36 :: .isB 36 false :: .call 11 [.ga 8 8, .c (.p (.lit (.slice none 0 0)))] (.one (.ca 37)) [] :: .isB 37 false :: .call 14 [.ga 8 8] (.tup [.ga 38 8, .ca 46]) [] :: .op1 .not (.pa 46) 47 :: .isB 47 false :: .call 11 [.ga 16 8, .c (.p (.lit (.slice none 0 0)))] (.one (.ca 48)) [] :: .isB 48 false :: .call 14 [.ga 16 8] (.tup [.ga 49 8, .ca 57]) [] :: .op1 .not (.pa 57) 58 :: .isB 58 false :: .call 41 [.ga 27 8, .ga 27 8] (.one (.ca 59)) [] :: .call 42 [.ga 27 8, .ga 27 8] (.one (.ca 60)) [] :: .op2 false .neq (.pa 59) (.pa 60) 61 :: .isB 61 false :: .call 41 [.ga 27 8, .ga 27 8] (.one (.ca 62)) [] :: .op1 .neg (.pa 62) 63 :: .op2 false .neq (.pa 59) (.pa 63) 64 :: .isB 64 false :: .op2 false .eql (.pa 59) (.p (.lit (.int .i64 0))) 65 :: .eqs false [.b, .s, .b, .s, .b, .s, .b, .s] [.pa 27, .pa 28, .pa 29, .pa 30, .pa 31, .pa 32, .pa 33, .pa 34] [.pa 27, .pa 28, .pa 29, .pa 30, .pa 31, .pa 32, .pa 33, .pa 34] 66 :: .op2 true .neq (.pa 65) (.pa 66) 67 :: .isB 67 false :: .call 41 [.ga 27 8, .ga 38 8] (.one (.ca 68)) [] :: .call 42 [.ga 27 8, .ga 38 8] (.one (.ca 69)) [] :: .op2 false .neq (.pa 68) (.pa 69) 70 :: .isB 70 false :: .call 41 [.ga 38 8, .ga 27 8] (.one (.ca 71)) [] :: .op1 .neg (.pa 71) 72 :: .op2 false .neq (.pa 68) (.pa 72) 73 :: .isB 73 false :: .op2 false .eql (.pa 68) (.p (.lit (.int .i64 0))) 74 :: .eqs false [.b, .s, .b, .s, .b, .s, .b, .s] [.pa 27, .pa 28, .pa 29, .pa 30, .pa 31, .pa 32, .pa 33, .pa 34] [.pa 38, .pa 39, .pa 40, .pa 41, .pa 42, .pa 43, .pa 44, .pa 45] 75 :: .op2 true .neq (.pa 74) (.pa 75) 76 :: .isB 76 false :: .call 41 [.ga 27 8, .ga 49 8] (.one (.ca 77)) [] :: .call 42 [.ga 27 8, .ga 49 8] (.one (.ca 78)) [] :: .op2 false .neq (.pa 77) (.pa 78) 79 :: .isB 79 false :: .call 41 [.ga 49 8, .ga 27 8] (.one (.ca 80)) [] :: .op1 .neg (.pa 80) 81 :: .op2 false .neq (.pa 77) (.pa 81) 82 :: .isB 82 false :: .op2 false .eql (.pa 77) (.p (.lit (.int .i64 0))) 83 :: .eqs false [.b, .s, .b, .s, .b, .s, .b, .s] [.pa 27, .pa 28, .pa 29, .pa 30, .pa 31, .pa 32, .pa 33, .pa 34] [.pa 49, .pa 50, .pa 51, .pa 52, .pa 53, .pa 54, .pa 55, .pa 56] 84 :: .op2 true .neq (.pa 83) (.pa 84) 85 :: .isB 85 false :: .call 41 [.ga 38 8, .ga 27 8] (.one (.ca 86)) [] :: .call 42 [.ga 38 8, .ga 27 8] (.one (.ca 87)) [] :: .op2 false .neq (.pa 86) (.pa 87) 88 :: .isB 88 false :: .call 41 [.ga 27 8, .ga 38 8] (.one (.ca 89)) [] :: .op1 .neg (.pa 89) 90 :: .op2 false .neq (.pa 86) (.pa 90) 91 :: .isB 91 false :: .op2 false .eql (.pa 86) (.p (.lit (.int .i64 0))) 92 :: .eqs false [.b, .s, .b, .s, .b, .s, .b, .s] [.pa 38, .pa 39, .pa 40, .pa 41, .pa 42, .pa 43, .pa 44, .pa 45] [.pa 27, .pa 28, .pa 29, .pa 30, .pa 31, .pa 32, .pa 33, .pa 34] 93 :: .op2 true .neq (.pa 92) (.pa 93) 94 :: .isB 94 false :: .call 41 [.ga 38 8, .ga 38 8] (.one (.ca 95)) [] :: .call 42 [.ga 38 8, .ga 38 8] (.one (.ca 96)) [] :: .op2 false .neq (.pa 95) (.pa 96) 97 :: .isB 97 false :: .call 41 [.ga 38 8, .ga 38 8] (.one (.ca 98)) [] :: .op1 .neg (.pa 98) 99 :: .op2 false .neq (.pa 95) (.pa 99) 100 :: .isB 100 false :: .op2 false .eql (.pa 95) (.p (.lit (.int .i64 0))) 101 :: .eqs false [.b, .s, .b, .s, .b, .s, .b, .s] [.pa 38, .pa 39, .pa 40, .pa 41, .pa 42, .pa 43, .pa 44, .pa 45] [.pa 38, .pa 39, .pa 40, .pa 41, .pa 42, .pa 43, .pa 44, .pa 45] 102 :: .op2 true .neq (.pa 101) (.pa 102) 103 :: .isB 103 false :: .call 41 [.ga 38 8, .ga 49 8] (.one (.ca 104)) [] :: .call 42 [.ga 38 8, .ga 49 8] (.one (.ca 105)) [] :: .op2 false .neq (.pa 104) (.pa 105) 106 :: .isB 106 false :: .call 41 [.ga 49 8, .ga 38 8] (.one (.ca 107)) [] :: .op1 .neg (.pa 107) 108 :: .op2 false .neq (.pa 104) (.pa 108) 109 :: .isB 109 false :: .op2 false .eql (.pa 104) (.p (.lit (.int .i64 0))) 110 :: .eqs false [.b, .s, .b, .s, .b, .s, .b, .s] [.pa 38, .pa 39, .pa 40, .pa 41, .pa 42, .pa 43, .pa 44, .pa 45] [.pa 49, .pa 50, .pa 51, .pa 52, .pa 53, .pa 54, .pa 55, .pa 56] 111 :: .op2 true .neq (.pa 110) (.pa 111) 112 :: .isB 112 false :: .call 41 [.ga 49 8, .ga 27 8] (.one (.ca 113)) [] :: .call 42 [.ga 49 8, .ga 27 8] (.one (.ca 114)) [] :: .op2 false .neq (.pa 113) (.pa 114) 115 :: .isB 115 false :: .call 41 [.ga 27 8, .ga 49 8] (.one (.ca 116)) [] :: .op1 .neg (.pa 116) 117 :: .op2 false .neq (.pa 113) (.pa 117) 118 :: .isB 118 false :: .op2 false .eql (.pa 113) (.p (.lit (.int .i64 0))) 119 :: .eqs false [.b, .s, .b, .s, .b, .s, .b, .s] [.pa 49, .pa 50, .pa 51, .pa 52, .pa 53, .pa 54, .pa 55, .pa 56] [.pa 27, .pa 28, .pa 29, .pa 30, .pa 31, .pa 32, .pa 33, .pa 34] 120 :: .op2 true .neq (.pa 119) (.pa 120) 121 :: .isB 121 false :: .call 41 [.ga 49 8, .ga 38 8] (.one (.ca 122)) [] :: .call 42 [.ga 49 8, .ga 38 8] (.one (.ca 123)) [] :: .op2 false .neq (.pa 122) (.pa 123) 124 :: .isB 124 false :: .call 41 [.ga 38 8, .ga 49 8] (.one (.ca 125)) [] :: .op1 .neg (.pa 125) 126 :: .op2 false .neq (.pa 122) (.pa 126) 127 :: .isB 127 false :: .op2 false .eql (.pa 122) (.p (.lit (.int .i64 0))) 128 :: .eqs false [.b, .s, .b, .s, .b, .s, .b, .s] [.pa 49, .pa 50, .pa 51, .pa 52, .pa 53, .pa 54, .pa 55, .pa 56] [.pa 38, .pa 39, .pa 40, .pa 41, .pa 42, .pa 43, .pa 44, .pa 45] 129 :: .op2 true .neq (.pa 128) (.pa 129) 130 :: .isB 130 false :: .call 41 [.ga 49 8, .ga 49 8] (.one (.ca 131)) [] :: .call 42 [.ga 49 8, .ga 49 8] (.one (.ca 132)) [] :: .op2 false .neq (.pa 131) (.pa 132) 133 :: .isB 133 false :: .call 41 [.ga 49 8, .ga 49 8] (.one (.ca 134)) [] :: .op1 .neg (.pa 134) 135 :: .op2 false .neq (.pa 131) (.pa 135) 136 :: .isB 136 false :: .op2 false .eql (.pa 131) (.p (.lit (.int .i64 0))) 137 :: .eqs false [.b, .s, .b, .s, .b, .s, .b, .s] [.pa 49, .pa 50, .pa 51, .pa 52, .pa 53, .pa 54, .pa 55, .pa 56] [.pa 49, .pa 50, .pa 51, .pa 52, .pa 53, .pa 54, .pa 55, .pa 56] 138 :: .op2 true .neq (.pa 137) (.pa 138) 139 :: .isB 139 false :: .call 41 [.ga 27 8, .ga 38 8] (.one (.ca 140)) [] :: .op2 false .lss (.pa 140) (.p (.lit (.int .i64 0))) 141 :: .isB 141 true :: .call 41 [.ga 38 8, .ga 49 8] (.one (.ca 142)) [] :: .op2 false .lss (.pa 142) (.p (.lit (.int .i64 0))) 143 :: .isB 143 false :: []) Tryz.func9 (by kernel_rfl) rfl (by kernel_rfl) rfl (by kernel_rfl)
    ⟨fun γ w' bw _ => alive5_any w' (hT.later bw),
     congrArg (fun z => some (Value.bool z)) (by first | rfl | assumption | decide | simp [*] : (!true) = false),
     rfl,
     fun γ w' _ hm => great5_0_no a_0 a_1 a_2 a_3 a_4 a_5 a_6 a_7 w'  ha_1 ha_3 ha_5 ha_7,
     rfl,
     fun γ w' _ _ => by have h := v5Norm_any ha (by decide) w'; rw [normV, if_neg gfa] at h; exact h,
     congrArg (fun z => some (Value.bool z)) (by first | rfl | assumption | decide | simp [*] : (!true) = false),
     rfl,
     fun γ w' _ hm => great5_0_no b_0 b_1 b_2 b_3 b_4 b_5 b_6 b_7 w'  hb_1 hb_3 hb_5 hb_7,
     rfl,
     fun γ w' _ _ => by have h := v5Norm_any hb (by decide) w'; rw [normV, if_neg gfb] at h; exact h,
     congrArg (fun z => some (Value.bool z)) (by first | rfl | assumption | decide | simp [*] : (!true) = false),
     rfl,
     fun γ w' _ hm => great5_0_no c_0 c_1 c_2 c_3 c_4 c_5 c_6 c_7 w'  hc_1 hc_3 hc_5 hc_7,
     rfl,
     fun γ w' _ _ => by have h := v5Norm_any hc (by decide) w'; rw [normV, if_neg gfc] at h; exact h,
     congrArg (fun z => some (Value.bool z)) (by first | rfl | assumption | decide | simp [*] : (!true) = false),
     rfl,
     fun γ w' _ _ => plCmp f1 (by decide) f1 (by decide) w',
     fun γ w' _ _ => v5Cmp (IsF.can f1) (by decide) (IsF.can f1) (by decide) w',
     congrArg (fun z => some (Value.bool z)) (bne_self_eq_false _ : ((cmpF (prim a) (prim a)) != (cmpF (prim a) (prim a))) = false),
     rfl,
     fun γ w' _ _ => plCmp f1 (by decide) f1 (by decide) w',
     congrArg (fun z => some (Value.int .i64 z)) (neg_cmpF _ _ : IntKind.wrap .i64 (0 - (cmpF (prim a) (prim a))) = (cmpF (prim a) (prim a))),
     congrArg (fun z => some (Value.bool z)) (bne_self_eq_false _ : ((cmpF (prim a) (prim a)) != (cmpF (prim a) (prim a))) = false),
     rfl,
     rfl,
     ⟨rfl, rfl, eqv (eqL_F (prim a) (prim a))⟩,
     congrArg (fun z => some (Value.bool z)) (cmpF_eq _ _ : (!(((cmpF (prim a) (prim a)) == (0 : Int)) == (false != decide ((prim a) = (prim a))))) = false),
     rfl,
     fun γ w' _ _ => plCmp f1 (by decide) f2 (by decide) w',
     fun γ w' _ _ => v5Cmp (IsF.can f1) (by decide) (IsF.can f2) (by decide) w',
     congrArg (fun z => some (Value.bool z)) (bne_self_eq_false _ : ((cmpF (prim a) (prim b)) != (cmpF (prim a) (prim b))) = false),
     rfl,
     fun γ w' _ _ => plCmp f2 (by decide) f1 (by decide) w',
     congrArg (fun z => some (Value.int .i64 z)) (neg_cmpF _ _ : IntKind.wrap .i64 (0 - (cmpF (prim b) (prim a))) = (cmpF (prim a) (prim b))),
     congrArg (fun z => some (Value.bool z)) (bne_self_eq_false _ : ((cmpF (prim a) (prim b)) != (cmpF (prim a) (prim b))) = false),
     rfl,
     rfl,
     ⟨rfl, rfl, eqv (eqL_F (prim a) (prim b))⟩,
     congrArg (fun z => some (Value.bool z)) (cmpF_eq _ _ : (!(((cmpF (prim a) (prim b)) == (0 : Int)) == (false != decide ((prim a) = (prim b))))) = false),
     rfl,
     fun γ w' _ _ => plCmp f1 (by decide) f3 (by decide) w',
     fun γ w' _ _ => v5Cmp (IsF.can f1) (by decide) (IsF.can f3) (by decide) w',
     congrArg (fun z => some (Value.bool z)) (bne_self_eq_false _ : ((cmpF (prim a) (prim c)) != (cmpF (prim a) (prim c))) = false),
     rfl,
     fun γ w' _ _ => plCmp f3 (by decide) f1 (by decide) w',
     congrArg (fun z => some (Value.int .i64 z)) (neg_cmpF _ _ : IntKind.wrap .i64 (0 - (cmpF (prim c) (prim a))) = (cmpF (prim a) (prim c))),
     congrArg (fun z => some (Value.bool z)) (bne_self_eq_false _ : ((cmpF (prim a) (prim c)) != (cmpF (prim a) (prim c))) = false),
     rfl,
     rfl,
     ⟨rfl, rfl, eqv (eqL_F (prim a) (prim c))⟩,
     congrArg (fun z => some (Value.bool z)) (cmpF_eq _ _ : (!(((cmpF (prim a) (prim c)) == (0 : Int)) == (false != decide ((prim a) = (prim c))))) = false),
     rfl,
     fun γ w' _ _ => plCmp f2 (by decide) f1 (by decide) w',
     fun γ w' _ _ => v5Cmp (IsF.can f2) (by decide) (IsF.can f1) (by decide) w',
     congrArg (fun z => some (Value.bool z)) (bne_self_eq_false _ : ((cmpF (prim b) (prim a)) != (cmpF (prim b) (prim a))) = false),
     rfl,
     fun γ w' _ _ => plCmp f1 (by decide) f2 (by decide) w',
     congrArg (fun z => some (Value.int .i64 z)) (neg_cmpF _ _ : IntKind.wrap .i64 (0 - (cmpF (prim a) (prim b))) = (cmpF (prim b) (prim a))),
     congrArg (fun z => some (Value.bool z)) (bne_self_eq_false _ : ((cmpF (prim b) (prim a)) != (cmpF (prim b) (prim a))) = false),
     rfl,
     rfl,
     ⟨rfl, rfl, eqv (eqL_F (prim b) (prim a))⟩,
     congrArg (fun z => some (Value.bool z)) (cmpF_eq _ _ : (!(((cmpF (prim b) (prim a)) == (0 : Int)) == (false != decide ((prim b) = (prim a))))) = false),
     rfl,
     fun γ w' _ _ => plCmp f2 (by decide) f2 (by decide) w',
     fun γ w' _ _ => v5Cmp (IsF.can f2) (by decide) (IsF.can f2) (by decide) w',
     congrArg (fun z => some (Value.bool z)) (bne_self_eq_false _ : ((cmpF (prim b) (prim b)) != (cmpF (prim b) (prim b))) = false),
     rfl,
     fun γ w' _ _ => plCmp f2 (by decide) f2 (by decide) w',
     congrArg (fun z => some (Value.int .i64 z)) (neg_cmpF _ _ : IntKind.wrap .i64 (0 - (cmpF (prim b) (prim b))) = (cmpF (prim b) (prim b))),
     congrArg (fun z => some (Value.bool z)) (bne_self_eq_false _ : ((cmpF (prim b) (prim b)) != (cmpF (prim b) (prim b))) = false),
     rfl,
     rfl,
     ⟨rfl, rfl, eqv (eqL_F (prim b) (prim b))⟩,
     congrArg (fun z => some (Value.bool z)) (cmpF_eq _ _ : (!(((cmpF (prim b) (prim b)) == (0 : Int)) == (false != decide ((prim b) = (prim b))))) = false),
     rfl,
     fun γ w' _ _ => plCmp f2 (by decide) f3 (by decide) w',
     fun γ w' _ _ => v5Cmp (IsF.can f2) (by decide) (IsF.can f3) (by decide) w',
     congrArg (fun z => some (Value.bool z)) (bne_self_eq_false _ : ((cmpF (prim b) (prim c)) != (cmpF (prim b) (prim c))) = false),
     rfl,
     fun γ w' _ _ => plCmp f3 (by decide) f2 (by decide) w',
     congrArg (fun z => some (Value.int .i64 z)) (neg_cmpF _ _ : IntKind.wrap .i64 (0 - (cmpF (prim c) (prim b))) = (cmpF (prim b) (prim c))),
     congrArg (fun z => some (Value.bool z)) (bne_self_eq_false _ : ((cmpF (prim b) (prim c)) != (cmpF (prim b) (prim c))) = false),
     rfl,
     rfl,
     ⟨rfl, rfl, eqv (eqL_F (prim b) (prim c))⟩,
     congrArg (fun z => some (Value.bool z)) (cmpF_eq _ _ : (!(((cmpF (prim b) (prim c)) == (0 : Int)) == (false != decide ((prim b) = (prim c))))) = false),
     rfl,
     fun γ w' _ _ => plCmp f3 (by decide) f1 (by decide) w',
     fun γ w' _ _ => v5Cmp (IsF.can f3) (by decide) (IsF.can f1) (by decide) w',
     congrArg (fun z => some (Value.bool z)) (bne_self_eq_false _ : ((cmpF (prim c) (prim a)) != (cmpF (prim c) (prim a))) = false),
     rfl,
     fun γ w' _ _ => plCmp f1 (by decide) f3 (by decide) w',
     congrArg (fun z => some (Value.int .i64 z)) (neg_cmpF _ _ : IntKind.wrap .i64 (0 - (cmpF (prim a) (prim c))) = (cmpF (prim c) (prim a))),
     congrArg (fun z => some (Value.bool z)) (bne_self_eq_false _ : ((cmpF (prim c) (prim a)) != (cmpF (prim c) (prim a))) = false),
     rfl,
     rfl,
     ⟨rfl, rfl, eqv (eqL_F (prim c) (prim a))⟩,
     congrArg (fun z => some (Value.bool z)) (cmpF_eq _ _ : (!(((cmpF (prim c) (prim a)) == (0 : Int)) == (false != decide ((prim c) = (prim a))))) = false),
     rfl,
     fun γ w' _ _ => plCmp f3 (by decide) f2 (by decide) w',
     fun γ w' _ _ => v5Cmp (IsF.can f3) (by decide) (IsF.can f2) (by decide) w',
     congrArg (fun z => some (Value.bool z)) (bne_self_eq_false _ : ((cmpF (prim c) (prim b)) != (cmpF (prim c) (prim b))) = false),
     rfl,
     fun γ w' _ _ => plCmp f2 (by decide) f3 (by decide) w',
     congrArg (fun z => some (Value.int .i64 z)) (neg_cmpF _ _ : IntKind.wrap .i64 (0 - (cmpF (prim b) (prim c))) = (cmpF (prim c) (prim b))),
     congrArg (fun z => some (Value.bool z)) (bne_self_eq_false _ : ((cmpF (prim c) (prim b)) != (cmpF (prim c) (prim b))) = false),
     rfl,
     rfl,
     ⟨rfl, rfl, eqv (eqL_F (prim c) (prim b))⟩,
     congrArg (fun z => some (Value.bool z)) (cmpF_eq _ _ : (!(((cmpF (prim c) (prim b)) == (0 : Int)) == (false != decide ((prim c) = (prim b))))) = false),
     rfl,
     fun γ w' _ _ => plCmp f3 (by decide) f3 (by decide) w',
     fun γ w' _ _ => v5Cmp (IsF.can f3) (by decide) (IsF.can f3) (by decide) w',
     congrArg (fun z => some (Value.bool z)) (bne_self_eq_false _ : ((cmpF (prim c) (prim c)) != (cmpF (prim c) (prim c))) = false),
     rfl,
     fun γ w' _ _ => plCmp f3 (by decide) f3 (by decide) w',
     congrArg (fun z => some (Value.int .i64 z)) (neg_cmpF _ _ : IntKind.wrap .i64 (0 - (cmpF (prim c) (prim c))) = (cmpF (prim c) (prim c))),
     congrArg (fun z => some (Value.bool z)) (bne_self_eq_false _ : ((cmpF (prim c) (prim c)) != (cmpF (prim c) (prim c))) = false),
     rfl,
     rfl,
     ⟨rfl, rfl, eqv (eqL_F (prim c) (prim c))⟩,
     congrArg (fun z => some (Value.bool z)) (cmpF_eq _ _ : (!(((cmpF (prim c) (prim c)) == (0 : Int)) == (false != decide ((prim c) = (prim c))))) = false),
     rfl,
     fun γ w' _ _ => plCmp f1 (by decide) f2 (by decide) w',
     congrArg (fun z => some (Value.bool z)) (decide_eq_true h1 : decide ((cmpF (prim a) (prim b)) < (0 : Int)) = true),
     rfl,
     fun γ w' _ _ => plCmp f2 (by decide) f3 (by decide) w',
     congrArg (fun z => some (Value.bool z)) (decide_eq_false h2 : decide ((cmpF (prim b) (prim c)) < (0 : Int)) = false),
     rfl⟩
set_option maxHeartbeats 4000000 in
set_option maxRecDepth 100000 in
theorem Order_3 (a_0 : Bool) (a_1 : ByteArray) (a_2 : Bool) (a_3 : ByteArray) (a_4 : Bool) (a_5 : ByteArray) (a_6 : Bool) (a_7 : ByteArray) (b_0 : Bool) (b_1 : ByteArray) (b_2 : Bool) (b_3 : ByteArray) (b_4 : Bool) (b_5 : ByteArray) (b_6 : Bool) (b_7 : ByteArray) (c_0 : Bool) (c_1 : ByteArray) (c_2 : Bool) (c_3 : ByteArray) (c_4 : Bool) (c_5 : ByteArray) (c_6 : Bool) (c_7 : ByteArray) (w : World) (hT : TabC w)  (ha_1 : a_1.size ≤ 6) (ha_3 : a_3.size ≤ 6) (ha_5 : a_5.size ≤ 6) (ha_7 : a_7.size ≤ 6) (gfa : ¬ flatF (Z4.mk (iv a_0 a_1) (iv a_2 a_3) (iv a_4 a_5) (iv a_6 a_7))) (hb_1 : b_1.size ≤ 6) (hb_3 : b_3.size ≤ 6) (hb_5 : b_5.size ≤ 6) (hb_7 : b_7.size ≤ 6) (gfb : ¬ flatF (Z4.mk (iv b_0 b_1) (iv b_2 b_3) (iv b_4 b_5) (iv b_6 b_7))) (hc_1 : c_1.size ≤ 6) (hc_3 : c_3.size ≤ 6) (hc_5 : c_5.size ≤ 6) (hc_7 : c_7.size ≤ 6) (gfc : ¬ flatF (Z4.mk (iv c_0 c_1) (iv c_2 c_3) (iv c_4 c_5) (iv c_6 c_7))) (h1 : (cmpF (prim (Z4.mk (iv a_0 a_1) (iv a_2 a_3) (iv a_4 a_5) (iv a_6 a_7))) (prim (Z4.mk (iv b_0 b_1) (iv b_2 b_3) (iv b_4 b_5) (iv b_6 b_7))) < 0)) (h2 : (cmpF (prim (Z4.mk (iv b_0 b_1) (iv b_2 b_3) (iv b_4 b_5) (iv b_6 b_7))) (prim (Z4.mk (iv c_0 c_1) (iv c_2 c_3) (iv c_4 c_5) (iv c_6 c_7))) < 0)) :
    Calls Tryz.prog 9 #[.agg #[.bool a_0, .string a_1, .bool a_2, .string a_3, .bool a_4, .string a_5, .bool a_6, .string a_7, .bool b_0, .string b_1, .bool b_2, .string b_3, .bool b_4, .string b_5, .bool b_6, .string b_7, .bool c_0, .string c_1, .bool c_2, .string c_3, .bool c_4, .string c_5, .bool c_6, .string c_7]] w fun e w' => e = .returned (.bool true) ∧ Below w.heap.size w w' := by
  obtain ⟨a, ha, ra⟩ : ∃ q, IsF (.agg #[.bool a_0, .string a_1, .bool a_2, .string a_3, .bool a_4, .string a_5, .bool a_6, .string a_7]) q 6 ∧ q = ⟨iv a_0 a_1, iv a_2 a_3, iv a_4 a_5, iv a_6 a_7⟩ := ⟨⟨_, _, _, _⟩, ⟨_, _, _, _, _, _, _, _, rfl, rfl, ha_1, rfl, ha_3, rfl, ha_5, rfl, ha_7⟩, rfl⟩
  have za := ha.sz
  obtain ⟨b, hb, rb⟩ : ∃ q, IsF (.agg #[.bool b_0, .string b_1, .bool b_2, .string b_3, .bool b_4, .string b_5, .bool b_6, .string b_7]) q 6 ∧ q = ⟨iv b_0 b_1, iv b_2 b_3, iv b_4 b_5, iv b_6 b_7⟩ := ⟨⟨_, _, _, _⟩, ⟨_, _, _, _, _, _, _, _, rfl, rfl, hb_1, rfl, hb_3, rfl, hb_5, rfl, hb_7⟩, rfl⟩
  have zb := hb.sz
  obtain ⟨c, hc, rc⟩ : ∃ q, IsF (.agg #[.bool c_0, .string c_1, .bool c_2, .string c_3, .bool c_4, .string c_5, .bool c_6, .string c_7]) q 6 ∧ q = ⟨iv c_0 c_1, iv c_2 c_3, iv c_4 c_5, iv c_6 c_7⟩ := ⟨⟨_, _, _, _⟩, ⟨_, _, _, _, _, _, _, _, rfl, rfl, hc_1, rfl, hc_3, rfl, hc_5, rfl, hc_7⟩, rfl⟩
  have zc := hc.sz
  rw [← ra] at gfa
  rw [← rb] at gfb
  rw [← rc] at gfc
  rw [← ra, ← rb] at h1
  rw [← rb, ← rc] at h2
  have f1 : Fk (prim a) 6 := Fk.up ((Fk.prim za)) (by decide)
  have f2 : Fk (prim b) 6 := Fk.up ((Fk.prim zb)) (by decide)
  have f3 : Fk (prim c) 6 := Fk.up ((Fk.prim zc)) (by decide)
  exact SX.run (w := w) (List.flatten [[.bool a_0, .string a_1, .bool a_2, .string a_3, .bool a_4, .string a_5, .bool a_6, .string a_7, .bool b_0, .string b_1, .bool b_2, .string b_3, .bool b_4, .string b_5, .bool b_6, .string b_7, .bool c_0, .string c_1, .bool c_2, .string c_3, .bool c_4, .string c_5, .bool c_6, .string c_7, .bool true, .bool false, .bool false], fc (prim a), [.bool true, .bool false, .bool false], fc (prim b), [.bool true, .bool false, .bool false], fc (prim c), (.bool true :: .bool false :: .int .i64 (cmpF (prim a) (prim a)) :: .int .i64 (cmpF (prim a) (prim a)) :: .bool false :: .int .i64 (cmpF (prim a) (prim a)) :: .int .i64 (cmpF (prim a) (prim a)) :: .bool false :: .bool ((cmpF (prim a) (prim a)) == (0 : Int)) :: .bool (false != decide ((prim a) = (prim a))) :: .bool false :: .int .i64 (cmpF (prim a) (prim b)) :: .int .i64 (cmpF (prim a) (prim b)) :: .bool false :: .int .i64 (cmpF (prim b) (prim a)) :: .int .i64 (cmpF (prim a) (prim b)) :: .bool false :: .bool ((cmpF (prim a) (prim b)) == (0 : Int)) :: .bool (false != decide ((prim a) = (prim b))) :: .bool false :: .int .i64 (cmpF (prim a) (prim c)) :: .int .i64 (cmpF (prim a) (prim c)) :: .bool false :: .int .i64 (cmpF (prim c) (prim a)) :: .int .i64 (cmpF (prim a) (prim c)) :: .bool false :: .bool ((cmpF (prim a) (prim c)) == (0 : Int)) :: .bool (false != decide ((prim a) = (prim c))) :: .bool false :: .int .i64 (cmpF (prim b) (prim a)) :: .int .i64 (cmpF (prim b) (prim a)) :: .bool false :: .int .i64 (cmpF (prim a) (prim b)) :: .int .i64 (cmpF (prim b) (prim a)) :: .bool false :: .bool ((cmpF (prim b) (prim a)) == (0 : Int)) :: .bool (false != decide ((prim b) = (prim a))) :: .bool false :: .int .i64 (cmpF (prim b) (prim b)) :: .int .i64 (cmpF (prim b) (prim b)) :: .bool false :: .int .i64 (cmpF (prim b) (prim b)) :: .int .i64 (cmpF (prim b) (prim b)) :: .bool false :: .bool ((cmpF (prim b) (prim b)) == (0 : Int)) :: .bool (false != decide ((prim b) = (prim b))) :: .bool false :: .int .i64 (cmpF (prim b) (prim c)) :: .int .i64 (cmpF (prim b) (prim c)) :: .bool false :: .int .i64 (cmpF (prim c) (prim b)) :: .int .i64 (cmpF (prim b) (prim c)) :: .bool false :: .bool ((cmpF (prim b) (prim c)) == (0 : Int)) :: .bool (false != decide ((prim b) = (prim c))) :: .bool false :: .int .i64 (cmpF (prim c) (prim a)) :: .int .i64 (cmpF (prim c) (prim a)) :: .bool false :: .int .i64 (cmpF (prim a) (prim c)) :: .int .i64 (cmpF (prim c) (prim a)) :: .bool false :: .bool ((cmpF (prim c) (prim a)) == (0 : Int)) :: .bool (false != decide ((prim c) = (prim a))) :: .bool false :: .int .i64 (cmpF (prim c) (prim b)) :: .int .i64 (cmpF (prim c) (prim b)) :: .bool false :: .int .i64 (cmpF (prim b) (prim c)) :: .int .i64 (cmpF (prim c) (prim b)) :: .bool false :: .bool ((cmpF (prim c) (prim b)) == (0 : Int)) :: .bool (false != decide ((prim c) = (prim b))) :: .bool false :: .int .i64 (cmpF (prim c) (prim c)) :: .int .i64 (cmpF (prim c) (prim c)) :: .bool false :: .int .i64 (cmpF (prim c) (prim c)) :: .int .i64 (cmpF (prim c) (prim c)) :: .bool false :: .bool ((cmpF (prim c) (prim c)) == (0 : Int)) :: .bool (false != decide ((prim c) = (prim c))) :: .bool false :: .int .i64 (cmpF (prim a) (prim b)) :: .bool true :: .int .i64 (cmpF (prim b) (prim c)) :: .bool true :: .int .i64 (cmpF (prim a) (prim c)) :: .bool (decide ((cmpF (prim a) (prim c)) ≥ (0 : Int))) :: .bool true :: [])]) [.b false, .b false, .b false, .b false, .b false, .b false, .b false, .b false, .b false, .b false, .b false, .b false, .b false, .b false, .b false, .b false, .b false, .b false, .b false, .b false, .b false, .b false, .b false, .b false, .b false, .b false, .b false, .b false, .b false, .b false, .b false, .b false, .b false, .b false, .b true, .b true] [.ga 0 24] 24 (.one (.ca 146)) (.call 10 [] (.one (.ca 24)) [] :: .op1 .not (.pa 24) 25 :: .isB 25 false :: .call 11 [.ga 0 8, .c (.p (.lit (.slice none 0 0)))] (.one (.ca 26)) [] :: .isB 26 false :: .call 14 [.ga 0 8] (.tup [.ga 27 8, .ca 35]) [] :: .op1 .not (.pa 35) 36 :: .isB 36 false :: .call 11 [.ga 8 8, .c (.p (.lit (.slice none 0 0)))] (.one (.ca 37)) [] :: .isB 37 false :: .call 14 [.ga 8 8] (.tup [.ga 38 8, .ca 46]) [] :: .op1 .not (.pa 46) 47 :: .isB 47 false :: .call 11 [.ga 16 8, .c (.p (.lit (.slice none 0 0)))] (.one (.ca 48)) [] :: .isB 48 false :: .call 14 [.ga 16 8] (.tup [.ga 49 8, .ca 57]) [] :: .op1 .not (.pa 57) 58 :: .isB 58 false :: .call 41 [.ga 27 8, .ga 27 8] (.one (.ca 59)) [] :: .call 42 [.ga 27 8, .ga 27 8] (.one (.ca 60)) [] :: .op2 false .neq (.pa 59) (.pa 60) 61 :: .isB 61 false :: .call 41 [.ga 27 8, .ga 27 8] (.one (.ca 62)) [] :: .op1 .neg (.pa 62) 63 :: .op2 false .neq (.pa 59) (.pa 63) 64 :: .isB 64 false :: .op2 false .eql (.pa 59) (.p (.lit (.int .i64 0))) 65 :: .eqs false [.b, .s, .b, .s, .b, .s, .b, .s] [.pa 27, .pa 28, .pa 29, .pa 30, .pa 31, .pa 32, .pa 33, .pa 34] [.pa 27, .pa 28, .pa 29, .pa 30, .pa 31, .pa 32, .pa 33, .pa 34] 66 :: .op2 true .neq (.pa 65) (.pa 66) 67 :: .isB 67 false :: .call 41 [.ga 27 8, .ga 38 8] (.one (.ca 68)) [] :: .call 42 [.ga 27 8, .ga 38 8] (.one (.ca 69)) [] :: .op2 false .neq (.pa 68) (.pa 69) 70 :: .isB 70 false :: .call 41 [.ga 38 8, .ga 27 8] (.one (.ca 71)) [] :: .op1 .neg (.pa 71) 72 :: .op2 false .neq (.pa 68) (.pa 72) 73 :: .isB 73 false :: .op2 false .eql (.pa 68) (.p (.lit (.int .i64 0))) 74 :: .eqs false [.b, .s, .b, .s, .b, .s, .b, .s] [.pa 27, .pa 28, .pa 29, .pa 30, .pa 31, .pa 32, .pa 33, .pa 34] [.pa 38, .pa 39, .pa 40, .pa 41, .pa 42, .pa 43, .pa 44, .pa 45] 75 :: .op2 true .neq (.pa 74) (.pa 75) 76 :: .isB 76 false :: .call 41 [.ga 27 8, .ga 49 8] (.one (.ca 77)) [] :: .call 42 [.ga 27 8, .ga 49 8] (.one (.ca 78)) [] :: .op2 false .neq (.pa 77) (.pa 78) 79 :: .isB 79 false :: .call 41 [.ga 49 8, .ga 27 8] (.one (.ca 80)) [] :: .op1 .neg (.pa 80) 81 :: .op2 false .neq (.pa 77) (.pa 81) 82 :: .isB 82 false :: .op2 false .eql (.pa 77) (.p (.lit (.int .i64 0))) 83 :: .eqs false [.b, .s, .b, .s, .b, .s, .b, .s] [.pa 27, .pa 28, .pa 29, .pa 30, .pa 31, .pa 32, .pa 33, .pa 34] [.pa 49, .pa 50, .pa 51, .pa 52, .pa 53, .pa 54, .pa 55, .pa 56] 84 :: .op2 true .neq (.pa 83) (.pa 84) 85 :: .isB 85 false :: .call 41 [.ga 38 8, .ga 27 8] (.one (.ca 86)) [] :: .call 42 [.ga 38 8, .ga 27 8] (.one (.ca 87)) [] :: .op2 false .neq (.pa 86) (.pa 87) 88 :: .isB 88 false :: .call 41 [.ga 27 8, .ga 38 8] (.one (.ca 89)) [] :: .op1 .neg (.pa 89) 90 :: .op2 false .neq (.pa 86) (.pa 90) 91 :: .isB 91 false :: .op2 false .eql (.pa 86) (.p (.lit (.int .i64 0))) 92 :: .eqs false [.b, .s, .b, .s, .b, .s, .b, .s] [.pa 38, .pa 39, .pa 40, .pa 41, .pa 42, .pa 43, .pa 44, .pa 45] [.pa 27, .pa 28, .pa 29, .pa 30, .pa 31, .pa 32, .pa 33, .pa 34] 93 :: .op2 true .neq (.pa 92) (.pa 93) 94 :: .isB 94 false :: .call 41 [.ga 38 8, .ga 38 8] (.one (.ca 95)) [] :: .call 42 [.ga 38 8, .ga 38 8] (.one (.ca 96)) [] :: .op2 false .neq (.pa 95) (.pa 96) 97 :: .isB 97 false :: .call 41 [.ga 38 8, .ga 38 8] (.one (.ca 98)) [] :: .op1 .neg (.pa 98) 99 :: .op2 false .neq (.pa 95) (.pa 99) 100 :: .isB 100 false :: .op2 false .eql (.pa 95) (.p (.lit (.int .i64 0))) 101 :: .eqs false [.b, .s, .b, .s, .b, .s, .b, .s] [.pa 38, .pa 39, .pa 40, .pa 41, .pa 42, .pa 43, .pa 44, .pa 45] [.pa 38, .pa 39, .pa 40, .pa 41, .pa 42, .pa 43, .pa 44, .pa 45] 102 :: .op2 true .neq (.pa 101) (.pa 102) 103 :: .isB 103 false :: .call 41 [.ga 38 8, .ga 49 8] (.one (.ca 104)) [] :: .call 42 [.ga 38 8, .ga 49 8] (.one (.ca 105)) [] :: .op2 false .neq (.pa 104) (.pa 105) 106 :: .isB 106 false :: .call 41 [.ga 49 8, .ga 38 8] (.one (.ca 107)) [] :: .op1 .neg (.pa 107) 108 :: .op2 false .neq (.pa 104) (.pa 108) 109 :: .isB 109 false :: .op2 false .eql (.pa 104) (.p (.lit (.int .i64 0))) 110 :: .eqs false [.b, .s, .b, .s, .b, .s, .b, .s] [.pa 38, .pa 39, .pa 40, .pa 41, .pa 42, .pa 43, .pa 44, .pa 45] [.pa 49, .pa 50, .pa 51, .pa 52, .pa 53, .pa 54, .pa 55, .pa 56] 111 :: .op2 true .neq (.pa 110) (.pa 111) 112 :: .isB 112 false :: .call 41 [.ga 49 8, .ga 27 8] (.one (.ca 113)) [] :: .call 42 [.ga 49 8, .ga 27 8] (.one (.ca 114)) [] :: .op2 false .neq (.pa 113) (.pa 114) 115 :: .isB 115 false :: .call 41 [.ga 27 8, .ga 49 8] (.one (.ca 116)) [] :: .op1 .neg (.pa 116) 117 :: .op2 false .neq (.pa 113) (.pa 117) 118 :: .isB 118 false :: .op2 false .eql (.pa 113) (.p (.lit (.int .i64 0))) 119 :: .eqs false [.b, .s, .b, .s, .b, .s, .b, .s] [.pa 49, .pa 50, .pa 51, .pa 52, .pa 53, .pa 54, .pa 55, .pa 56] [.pa 27, .pa 28, .pa 29, .pa 30, .pa 31, .pa 32, .pa 33, .pa 34] 120 :: .op2 true .neq (.pa 119) (.pa 120) 121 :: .isB 121 false :: .call 41 [.ga 49 8, .ga 38 8] (.one (.ca 122)) [] :: .call 42 [.ga 49 8, .ga 38 8] (.one (.ca 123)) [] :: .op2 false .neq (.pa 122) (.pa 123) 124 :: .isB 124 false :: .call 41 [.ga 38 8, .ga 49 8] (.one (.ca 125)) [] :: .op1 .neg (.pa 125) 126 :: .op2 false .neq (.pa 122) (.pa 126) 127 :: .isB 127 false :: .op2 false .eql (.pa 122) (.p (.lit (.int .i64 0))) 128 :: .eqs false [.b, .s, .b, .s, .b, .s, .b, .s] [.pa 49, .pa 50, .pa 51, .pa 52, .pa 53, .pa 54, .pa 55, .pa 56] [.pa 38, .pa 39, .pa 40, .pa 41, .pa 42, .pa 43, .pa 44, .pa 45] 129 :: .op2 true .neq (.pa 128) (.pa 129) 130 :: .isB 130 false :: .call 41 [.ga 49 8, .ga 49 8] (.one (.ca 131)) [] :: .call 42 [.ga 49 8, .ga 49 8] (.one (.ca 132)) [] :: .op2 false .neq (.pa 131) (.pa 132) 133 :: .isB 133 false :: .call 41 [.ga 49 8, .ga 49 8] (.one (.ca 134)) [] :: .op1 .neg (.pa 134) 135 :: .op2 false .neq (.pa 131) (.pa 135) 136 :: .isB 136 false :: .op2 false .eql (.pa 131) (.p (.lit (.int .i64 0))) 137 :: .eqs false [.b, .s, .b, .s, .b, .s, .b, .s] [.pa 49, .pa 50, .pa 51, .pa 52, .pa 53, .pa 54, .pa 55, .pa 56] [.pa 49, .pa 50, .pa 51, .pa 52, .pa 53, .pa 54, .pa 55, .pa 56] 138 :: .op2 true .neq (.pa 137) (.pa 138) 139 :: .isB 139 false :: .call 41 [.ga 27 8, .ga 38 8] (.one (.ca 140)) [] :: .op2 false .lss (.pa 140) (.p (.lit (.int .i64 0))) 141 :: .isB 141 true :: .call 41 [.ga 38 8, .ga 49 8] (.one (.ca 142)) [] :: .op2 false .lss (.pa 142) (.p (.lit (.int .i64 0))) 143 :: .isB 143 true :: .call 41 [.ga 27 8, .ga 49 8] (.one (.ca 144)) [] :: .op2 false .geq (.pa 144) (.p (.lit (.int .i64 0))) 145 :: .op1 .not (.pa 145) 146 :: []) Tryz.func9 (by kernel_rfl) rfl (by kernel_rfl) rfl (by kernel_rfl)
    ⟨fun γ w' bw _ => alive5_any w' (hT.later bw),
     congrArg (fun z => some (Value.bool z)) (by first | rfl | assumption | decide | simp [*] : (!true) = false),
     rfl,
     fun γ w' _ hm => great5_0_no a_0 a_1 a_2 a_3 a_4 a_5 a_6 a_7 w'  ha_1 ha_3 ha_5 ha_7,
     rfl,
     fun γ w' _ _ => by have h := v5Norm_any ha (by decide) w'; rw [normV, if_neg gfa] at h; exact h,
     congrArg (fun z => some (Value.bool z)) (by first | rfl | assumption | decide | simp [*] : (!true) = false),
     rfl,
     fun γ w' _ hm => great5_0_no b_0 b_1 b_2 b_3 b_4 b_5 b_6 b_7 w'  hb_1 hb_3 hb_5 hb_7,
     rfl,
     fun γ w' _ _ => by have h := v5Norm_any hb (by decide) w'; rw [normV, if_neg gfb] at h; exact h,
     congrArg (fun z => some (Value.bool z)) (by first | rfl | assumption | decide | simp [*] : (!true) = false),
     rfl,
     fun γ w' _ hm => great5_0_no c_0 c_1 c_2 c_3 c_4 c_5 c_6 c_7 w'  hc_1 hc_3 hc_5 hc_7,
     rfl,
     fun γ w' _ _ => by have h := v5Norm_any hc (by decide) w'; rw [normV, if_neg gfc] at h; exact h,
     congrArg (fun z => some (Value.bool z)) (by first | rfl | assumption | decide | simp [*] : (!true) = false),
     rfl,
     fun γ w' _ _ => plCmp f1 (by decide) f1 (by decide) w',
     fun γ w' _ _ => v5Cmp (IsF.can f1) (by decide) (IsF.can f1) (by decide) w',
     congrArg (fun z => some (Value.bool z)) (bne_self_eq_false _ : ((cmpF (prim a) (prim a)) != (cmpF (prim a) (prim a))) = false),
     rfl,
     fun γ w' _ _ => plCmp f1 (by decide) f1 (by decide) w',
     congrArg (fun z => some (Value.int .i64 z)) (neg_cmpF _ _ : IntKind.wrap .i64 (0 - (cmpF (prim a) (prim a))) = (cmpF (prim a) (prim a))),
     congrArg (fun z => some (Value.bool z)) (bne_self_eq_false _ : ((cmpF (prim a) (prim a)) != (cmpF (prim a) (prim a))) = false),
     rfl,
     rfl,
     ⟨rfl, rfl, eqv (eqL_F (prim a) (prim a))⟩,
     congrArg (fun z => some (Value.bool z)) (cmpF_eq _ _ : (!(((cmpF (prim a) (prim a)) == (0 : Int)) == (false != decide ((prim a) = (prim a))))) = false),
     rfl,
     fun γ w' _ _ => plCmp f1 (by decide) f2 (by decide) w',
     fun γ w' _ _ => v5Cmp (IsF.can f1) (by decide) (IsF.can f2) (by decide) w',
     congrArg (fun z => some (Value.bool z)) (bne_self_eq_false _ : ((cmpF (prim a) (prim b)) != (cmpF (prim a) (prim b))) = false),
     rfl,
     fun γ w' _ _ => plCmp f2 (by decide) f1 (by decide) w',
     congrArg (fun z => some (Value.int .i64 z)) (neg_cmpF _ _ : IntKind.wrap .i64 (0 - (cmpF (prim b) (prim a))) = (cmpF (prim a) (prim b))),
     congrArg (fun z => some (Value.bool z)) (bne_self_eq_false _ : ((cmpF (prim a) (prim b)) != (cmpF (prim a) (prim b))) = false),
     rfl,
     rfl,
     ⟨rfl, rfl, eqv (eqL_F (prim a) (prim b))⟩,
     congrArg (fun z => some (Value.bool z)) (cmpF_eq _ _ : (!(((cmpF (prim a) (prim b)) == (0 : Int)) == (false != decide ((prim a) = (prim b))))) = false),
     rfl,
     fun γ w' _ _ => plCmp f1 (by decide) f3 (by decide) w',
     fun γ w' _ _ => v5Cmp (IsF.can f1) (by decide) (IsF.can f3) (by decide) w',
     congrArg (fun z => some (Value.bool z)) (bne_self_eq_false _ : ((cmpF (prim a) (prim c)) != (cmpF (prim a) (prim c))) = false),
     rfl,
     fun γ w' _ _ => plCmp f3 (by decide) f1 (by decide) w',
     congrArg (fun z => some (Value.int .i64 z)) (neg_cmpF _ _ : IntKind.wrap .i64 (0 - (cmpF (prim c) (prim a))) = (cmpF (prim a) (prim c))),
     congrArg (fun z => some (Value.bool z)) (bne_self_eq_false _ : ((cmpF (prim a) (prim c)) != (cmpF (prim a) (prim c))) = false),
     rfl,
     rfl,
     ⟨rfl, rfl, eqv (eqL_F (prim a) (prim c))⟩,
     congrArg (fun z => some (Value.bool z)) (cmpF_eq _ _ : (!(((cmpF (prim a) (prim c)) == (0 : Int)) == (false != decide ((prim a) = (prim c))))) = false),
     rfl,
     fun γ w' _ _ => plCmp f2 (by decide) f1 (by decide) w',
     fun γ w' _ _ => v5Cmp (IsF.can f2) (by decide) (IsF.can f1) (by decide) w',
     congrArg (fun z => some (Value.bool z)) (bne_self_eq_false _ : ((cmpF (prim b) (prim a)) != (cmpF (prim b) (prim a))) = false),
     rfl,
     fun γ w' _ _ => plCmp f1 (by decide) f2 (by decide) w',
     congrArg (fun z => some (Value.int .i64 z)) (neg_cmpF _ _ : IntKind.wrap .i64 (0 - (cmpF (prim a) (prim b))) = (cmpF (prim b) (prim a))),
     congrArg (fun z => some (Value.bool z)) (bne_self_eq_false _ : ((cmpF (prim b) (prim a)) != (cmpF (prim b) (prim a))) = false),
     rfl,
     rfl,
     ⟨rfl, rfl, eqv (eqL_F (prim b) (prim a))⟩,
     congrArg (fun z => some (Value.bool z)) (cmpF_eq _ _ : (!(((cmpF (prim b) (prim a)) == (0 : Int)) == (false != decide ((prim b) = (prim a))))) = false),
     rfl,
     fun γ w' _ _ => plCmp f2 (by decide) f2 (by decide) w',
     fun γ w' _ _ => v5Cmp (IsF.can f2) (by decide) (IsF.can f2) (by decide) w',
     congrArg (fun z => some (Value.bool z)) (bne_self_eq_false _ : ((cmpF (prim b) (prim b)) != (cmpF (prim b) (prim b))) = false),
     rfl,
     fun γ w' _ _ => plCmp f2 (by decide) f2 (by decide) w',
     congrArg (fun z => some (Value.int .i64 z)) (neg_cmpF _ _ : IntKind.wrap .i64 (0 - (cmpF (prim b) (prim b))) = (cmpF (prim b) (prim b))),
     congrArg (fun z => some (Value.bool z)) (bne_self_eq_false _ : ((cmpF (prim b) (prim b)) != (cmpF (prim b) (prim b))) = false),
     rfl,
     rfl,
     ⟨rfl, rfl, eqv (eqL_F (prim b) (prim b))⟩,
     congrArg (fun z => some (Value.bool z)) (cmpF_eq _ _ : (!(((cmpF (prim b) (prim b)) == (0 : Int)) == (false != decide ((prim b) = (prim b))))) = false),
     rfl,
     fun γ w' _ _ => plCmp f2 (by decide) f3 (by decide) w',
     fun γ w' _ _ => v5Cmp (IsF.can f2) (by decide) (IsF.can f3) (by decide) w',
     congrArg (fun z => some (Value.bool z)) (bne_self_eq_false _ : ((cmpF (prim b) (prim c)) != (cmpF (prim b) (prim c))) = false),
     rfl,
     fun γ w' _ _ => plCmp f3 (by decide) f2 (by decide) w',
     congrArg (fun z => some (Value.int .i64 z)) (neg_cmpF _ _ : IntKind.wrap .i64 (0 - (cmpF (prim c) (prim b))) = (cmpF (prim b) (prim c))),
     congrArg (fun z => some (Value.bool z)) (bne_self_eq_false _ : ((cmpF (prim b) (prim c)) != (cmpF (prim b) (prim c))) = false),
     rfl,
     rfl,
     ⟨rfl, rfl, eqv (eqL_F (prim b) (prim c))⟩,
     congrArg (fun z => some (Value.bool z)) (cmpF_eq _ _ : (!(((cmpF (prim b) (prim c)) == (0 : Int)) == (false != decide ((prim b) = (prim c))))) = false),
     rfl,
     fun γ w' _ _ => plCmp f3 (by decide) f1 (by decide) w',
     fun γ w' _ _ => v5Cmp (IsF.can f3) (by decide) (IsF.can f1) (by decide) w',
     congrArg (fun z => some (Value.bool z)) (bne_self_eq_false _ : ((cmpF (prim c) (prim a)) != (cmpF (prim c) (prim a))) = false),
     rfl,
     fun γ w' _ _ => plCmp f1 (by decide) f3 (by decide) w',
     congrArg (fun z => some (Value.int .i64 z)) (neg_cmpF _ _ : IntKind.wrap .i64 (0 - (cmpF (prim a) (prim c))) = (cmpF (prim c) (prim a))),
     congrArg (fun z => some (Value.bool z)) (bne_self_eq_false _ : ((cmpF (prim c) (prim a)) != (cmpF (prim c) (prim a))) = false),
     rfl,
     rfl,
     ⟨rfl, rfl, eqv (eqL_F (prim c) (prim a))⟩,
     congrArg (fun z => some (Value.bool z)) (cmpF_eq _ _ : (!(((cmpF (prim c) (prim a)) == (0 : Int)) == (false != decide ((prim c) = (prim a))))) = false),
     rfl,
     fun γ w' _ _ => plCmp f3 (by decide) f2 (by decide) w',
     fun γ w' _ _ => v5Cmp (IsF.can f3) (by decide) (IsF.can f2) (by decide) w',
     congrArg (fun z => some (Value.bool z)) (bne_self_eq_false _ : ((cmpF (prim c) (prim b)) != (cmpF (prim c) (prim b))) = false),
     rfl,
     fun γ w' _ _ => plCmp f2 (by decide) f3 (by decide) w',
     congrArg (fun z => some (Value.int .i64 z)) (neg_cmpF _ _ : IntKind.wrap .i64 (0 - (cmpF (prim b) (prim c))) = (cmpF (prim c) (prim b))),
     congrArg (fun z => some (Value.bool z)) (bne_self_eq_false _ : ((cmpF (prim c) (prim b)) != (cmpF (prim c) (prim b))) = false),
     rfl,
     rfl,
     ⟨rfl, rfl, eqv (eqL_F (prim c) (prim b))⟩,
     congrArg (fun z => some (Value.bool z)) (cmpF_eq _ _ : (!(((cmpF (prim c) (prim b)) == (0 : Int)) == (false != decide ((prim c) = (prim b))))) = false),
     rfl,
     fun γ w' _ _ => plCmp f3 (by decide) f3 (by decide) w',
     fun γ w' _ _ => v5Cmp (IsF.can f3) (by decide) (IsF.can f3) (by decide) w',
     congrArg (fun z => some (Value.bool z)) (bne_self_eq_false _ : ((cmpF (prim c) (prim c)) != (cmpF (prim c) (prim c))) = false),
     rfl,
     fun γ w' _ _ => plCmp f3 (by decide) f3 (by decide) w',
     congrArg (fun z => some (Value.int .i64 z)) (neg_cmpF _ _ : IntKind.wrap .i64 (0 - (cmpF (prim c) (prim c))) = (cmpF (prim c) (prim c))),
     congrArg (fun z => some (Value.bool z)) (bne_self_eq_false _ : ((cmpF (prim c) (prim c)) != (cmpF (prim c) (prim c))) = false),
     rfl,
     rfl,
     ⟨rfl, rfl, eqv (eqL_F (prim c) (prim c))⟩,
     congrArg (fun z => some (Value.bool z)) (cmpF_eq _ _ : (!(((cmpF (prim c) (prim c)) == (0 : Int)) == (false != decide ((prim c) = (prim c))))) = false),
     rfl,
     fun γ w' _ _ => plCmp f1 (by decide) f2 (by decide) w',
     congrArg (fun z => some (Value.bool z)) (decide_eq_true h1 : decide ((cmpF (prim a) (prim b)) < (0 : Int)) = true),
     rfl,
     fun γ w' _ _ => plCmp f2 (by decide) f3 (by decide) w',
     congrArg (fun z => some (Value.bool z)) (decide_eq_true h2 : decide ((cmpF (prim b) (prim c)) < (0 : Int)) = true),
     rfl,
     fun γ w' _ _ => plCmp f1 (by decide) f3 (by decide) w',
     rfl,
     congrArg (fun z => some (Value.bool z)) (by rw [decide_eq_false (Int.not_le.2 (cmpF_trans h1 h2))]; rfl : (!(decide ((cmpF (prim a) (prim c)) ≥ (0 : Int)))) = true)⟩
theorem PlaneOrder_any (a_0 : Bool) (a_1 : ByteArray) (a_2 : Bool) (a_3 : ByteArray) (a_4 : Bool) (a_5 : ByteArray) (a_6 : Bool) (a_7 : ByteArray) (b_0 : Bool) (b_1 : ByteArray) (b_2 : Bool) (b_3 : ByteArray) (b_4 : Bool) (b_5 : ByteArray) (b_6 : Bool) (b_7 : ByteArray) (c_0 : Bool) (c_1 : ByteArray) (c_2 : Bool) (c_3 : ByteArray) (c_4 : Bool) (c_5 : ByteArray) (c_6 : Bool) (c_7 : ByteArray) (w : World) (hT : TabC w) :
    Calls Tryz.prog 9 #[.agg #[.bool a_0, .string a_1, .bool a_2, .string a_3, .bool a_4, .string a_5, .bool a_6, .string a_7, .bool b_0, .string b_1, .bool b_2, .string b_3, .bool b_4, .string b_5, .bool b_6, .string b_7, .bool c_0, .string c_1, .bool c_2, .string c_3, .bool c_4, .string c_5, .bool c_6, .string c_7]] w fun e w' => e = .returned (.bool true) ∧ Below w.heap.size w w' := by
  by_cases g : a_1.size ≤ 6 ∧ a_3.size ≤ 6 ∧ a_5.size ≤ 6 ∧ a_7.size ≤ 6
  rotate_left
  · exact Order_ga a_0 a_1 a_2 a_3 a_4 a_5 a_6 a_7 b_0 b_1 b_2 b_3 b_4 b_5 b_6 b_7 c_0 c_1 c_2 c_3 c_4 c_5 c_6 c_7 w hT  g
  obtain ⟨ha_1, ha_3, ha_5, ha_7⟩ := g
  by_cases gfa : flatF (Z4.mk (iv a_0 a_1) (iv a_2 a_3) (iv a_4 a_5) (iv a_6 a_7))
  · exact Order_fa a_0 a_1 a_2 a_3 a_4 a_5 a_6 a_7 b_0 b_1 b_2 b_3 b_4 b_5 b_6 b_7 c_0 c_1 c_2 c_3 c_4 c_5 c_6 c_7 w hT  ha_1 ha_3 ha_5 ha_7 gfa
  by_cases g : b_1.size ≤ 6 ∧ b_3.size ≤ 6 ∧ b_5.size ≤ 6 ∧ b_7.size ≤ 6
  rotate_left
  · exact Order_gb a_0 a_1 a_2 a_3 a_4 a_5 a_6 a_7 b_0 b_1 b_2 b_3 b_4 b_5 b_6 b_7 c_0 c_1 c_2 c_3 c_4 c_5 c_6 c_7 w hT  ha_1 ha_3 ha_5 ha_7 gfa g
  obtain ⟨hb_1, hb_3, hb_5, hb_7⟩ := g
  by_cases gfb : flatF (Z4.mk (iv b_0 b_1) (iv b_2 b_3) (iv b_4 b_5) (iv b_6 b_7))
  · exact Order_fb a_0 a_1 a_2 a_3 a_4 a_5 a_6 a_7 b_0 b_1 b_2 b_3 b_4 b_5 b_6 b_7 c_0 c_1 c_2 c_3 c_4 c_5 c_6 c_7 w hT  ha_1 ha_3 ha_5 ha_7 gfa hb_1 hb_3 hb_5 hb_7 gfb
  by_cases g : c_1.size ≤ 6 ∧ c_3.size ≤ 6 ∧ c_5.size ≤ 6 ∧ c_7.size ≤ 6
  rotate_left
  · exact Order_gc a_0 a_1 a_2 a_3 a_4 a_5 a_6 a_7 b_0 b_1 b_2 b_3 b_4 b_5 b_6 b_7 c_0 c_1 c_2 c_3 c_4 c_5 c_6 c_7 w hT  ha_1 ha_3 ha_5 ha_7 gfa hb_1 hb_3 hb_5 hb_7 gfb g
  obtain ⟨hc_1, hc_3, hc_5, hc_7⟩ := g
  by_cases gfc : flatF (Z4.mk (iv c_0 c_1) (iv c_2 c_3) (iv c_4 c_5) (iv c_6 c_7))
  · exact Order_fc a_0 a_1 a_2 a_3 a_4 a_5 a_6 a_7 b_0 b_1 b_2 b_3 b_4 b_5 b_6 b_7 c_0 c_1 c_2 c_3 c_4 c_5 c_6 c_7 w hT  ha_1 ha_3 ha_5 ha_7 gfa hb_1 hb_3 hb_5 hb_7 gfb hc_1 hc_3 hc_5 hc_7 gfc
  by_cases h1 : (cmpF (prim (Z4.mk (iv a_0 a_1) (iv a_2 a_3) (iv a_4 a_5) (iv a_6 a_7))) (prim (Z4.mk (iv b_0 b_1) (iv b_2 b_3) (iv b_4 b_5) (iv b_6 b_7))) < 0)
  · by_cases h2 : (cmpF (prim (Z4.mk (iv b_0 b_1) (iv b_2 b_3) (iv b_4 b_5) (iv b_6 b_7))) (prim (Z4.mk (iv c_0 c_1) (iv c_2 c_3) (iv c_4 c_5) (iv c_6 c_7))) < 0)
    · exact Order_3 a_0 a_1 a_2 a_3 a_4 a_5 a_6 a_7 b_0 b_1 b_2 b_3 b_4 b_5 b_6 b_7 c_0 c_1 c_2 c_3 c_4 c_5 c_6 c_7 w hT  ha_1 ha_3 ha_5 ha_7 gfa hb_1 hb_3 hb_5 hb_7 gfb hc_1 hc_3 hc_5 hc_7 gfc h1 h2
    · exact Order_2 a_0 a_1 a_2 a_3 a_4 a_5 a_6 a_7 b_0 b_1 b_2 b_3 b_4 b_5 b_6 b_7 c_0 c_1 c_2 c_3 c_4 c_5 c_6 c_7 w hT  ha_1 ha_3 ha_5 ha_7 gfa hb_1 hb_3 hb_5 hb_7 gfb hc_1 hc_3 hc_5 hc_7 gfc h1 h2
  · exact Order_1 a_0 a_1 a_2 a_3 a_4 a_5 a_6 a_7 b_0 b_1 b_2 b_3 b_4 b_5 b_6 b_7 c_0 c_1 c_2 c_3 c_4 c_5 c_6 c_7 w hT  ha_1 ha_3 ha_5 ha_7 gfa hb_1 hb_3 hb_5 hb_7 gfb hc_1 hc_3 hc_5 hc_7 gfc h1
set_option maxRecDepth 100000 in
theorem Projection_x (p_0 : Bool) (p_1 : ByteArray) (p_2 : Bool) (p_3 : ByteArray) (p_4 : Bool) (p_5 : ByteArray) (p_6 : Bool) (p_7 : ByteArray) (x_0 : Bool) (x_1 : ByteArray) (x_2 : Bool) (x_3 : ByteArray) (x_4 : Bool) (x_5 : ByteArray) (x_6 : Bool) (x_7 : ByteArray) (t_0 : Bool) (t_1 : ByteArray) (t_2 : ByteArray) (w : World) (hT : TabC w)  (h : ¬ (x_1.size ≤ 6 ∧ x_3.size ≤ 6 ∧ x_5.size ≤ 6 ∧ x_7.size ≤ 6)) :
    Calls Tryz.prog 6 #[.agg #[.bool p_0, .string p_1, .bool p_2, .string p_3, .bool p_4, .string p_5, .bool p_6, .string p_7], .agg #[.bool x_0, .string x_1, .bool x_2, .string x_3, .bool x_4, .string x_5, .bool x_6, .string x_7], .agg #[.bool t_0, .string t_1, .string t_2]] w fun e w' => e = .returned (.bool true) ∧ Below w.heap.size w w' := by
  exact SX.run (w := w) [.bool p_0, .string p_1, .bool p_2, .string p_3, .bool p_4, .string p_5, .bool p_6, .string p_7, .bool x_0, .string x_1, .bool x_2, .string x_3, .bool x_4, .string x_5, .bool x_6, .string x_7, .bool t_0, .string t_1, .string t_2, .bool true, .bool false, .bool true] [.b false, .b true] [.ga 0 8, .ga 8 8, .ga 16 3] 19 (.one (.c (.p (.lit (.bool true))))) [.call 10 [] (.one (.ca 19)) [], .op1 .not (.pa 19) 20, .isB 20 false, .call 11 [.ga 0 8, .c (.p (.slc 3 0 1 1))] (.one (.ca 21)) [(3073, .pa 8), (3074, .pa 9), (3075, .pa 10), (3076, .pa 11), (3077, .pa 12), (3078, .pa 13), (3079, .pa 14), (3080, .pa 15)], .isB 21 true] Tryz.func6 (by kernel_rfl) rfl (by kernel_rfl) rfl (by kernel_rfl)
    ⟨fun γ w' bw _ => alive5_any w' (hT.later bw),
     congrArg (fun z => some (Value.bool z)) (by first | rfl | assumption | decide | simp [*] : (!true) = false),
     rfl,
     fun γ w' _ hm => great5_1_y0 p_0 p_1 p_2 p_3 p_4 p_5 p_6 p_7 x_0 x_1 x_2 x_3 x_4 x_5 x_6 x_7 w' (γ 3) (SX.mem_at (b := 3) (l := [.pa 8, .pa 9, .pa 10, .pa 11, .pa 12, .pa 13, .pa 14, .pa 15]) hm rfl)  h,
     rfl⟩
set_option maxRecDepth 100000 in
theorem Projection_p (p_0 : Bool) (p_1 : ByteArray) (p_2 : Bool) (p_3 : ByteArray) (p_4 : Bool) (p_5 : ByteArray) (p_6 : Bool) (p_7 : ByteArray) (x_0 : Bool) (x_1 : ByteArray) (x_2 : Bool) (x_3 : ByteArray) (x_4 : Bool) (x_5 : ByteArray) (x_6 : Bool) (x_7 : ByteArray) (t_0 : Bool) (t_1 : ByteArray) (t_2 : ByteArray) (w : World) (hT : TabC w) (hx_1 : x_1.size ≤ 6) (hx_3 : x_3.size ≤ 6) (hx_5 : x_5.size ≤ 6) (hx_7 : x_7.size ≤ 6) (h : ¬ (p_1.size ≤ 6 ∧ p_3.size ≤ 6 ∧ p_5.size ≤ 6 ∧ p_7.size ≤ 6)) :
    Calls Tryz.prog 6 #[.agg #[.bool p_0, .string p_1, .bool p_2, .string p_3, .bool p_4, .string p_5, .bool p_6, .string p_7], .agg #[.bool x_0, .string x_1, .bool x_2, .string x_3, .bool x_4, .string x_5, .bool x_6, .string x_7], .agg #[.bool t_0, .string t_1, .string t_2]] w fun e w' => e = .returned (.bool true) ∧ Below w.heap.size w w' := by
  exact SX.run (w := w) [.bool p_0, .string p_1, .bool p_2, .string p_3, .bool p_4, .string p_5, .bool p_6, .string p_7, .bool x_0, .string x_1, .bool x_2, .string x_3, .bool x_4, .string x_5, .bool x_6, .string x_7, .bool t_0, .string t_1, .string t_2, .bool true, .bool false, .bool true] [.b false, .b true] [.ga 0 8, .ga 8 8, .ga 16 3] 19 (.one (.c (.p (.lit (.bool true))))) [.call 10 [] (.one (.ca 19)) [], .op1 .not (.pa 19) 20, .isB 20 false, .call 11 [.ga 0 8, .c (.p (.slc 3 0 1 1))] (.one (.ca 21)) [(3073, .pa 8), (3074, .pa 9), (3075, .pa 10), (3076, .pa 11), (3077, .pa 12), (3078, .pa 13), (3079, .pa 14), (3080, .pa 15)], .isB 21 true] Tryz.func6 (by kernel_rfl) rfl (by kernel_rfl) rfl (by kernel_rfl)
    ⟨fun γ w' bw _ => alive5_any w' (hT.later bw),
     congrArg (fun z => some (Value.bool z)) (by first | rfl | assumption | decide | simp [*] : (!true) = false),
     rfl,
     fun γ w' _ hm => great5_1_p p_0 p_1 p_2 p_3 p_4 p_5 p_6 p_7 x_0 x_1 x_2 x_3 x_4 x_5 x_6 x_7 w' (γ 3) (SX.mem_at (b := 3) (l := [.pa 8, .pa 9, .pa 10, .pa 11, .pa 12, .pa 13, .pa 14, .pa 15]) hm rfl) hx_1 hx_3 hx_5 hx_7 h,
     rfl⟩
set_option maxRecDepth 100000 in
theorem Projection_t (p_0 : Bool) (p_1 : ByteArray) (p_2 : Bool) (p_3 : ByteArray) (p_4 : Bool) (p_5 : ByteArray) (p_6 : Bool) (p_7 : ByteArray) (x_0 : Bool) (x_1 : ByteArray) (x_2 : Bool) (x_3 : ByteArray) (x_4 : Bool) (x_5 : ByteArray) (x_6 : Bool) (x_7 : ByteArray) (t_0 : Bool) (t_1 : ByteArray) (t_2 : ByteArray) (w : World) (hT : TabC w) (hx_1 : x_1.size ≤ 6) (hx_3 : x_3.size ≤ 6) (hx_5 : x_5.size ≤ 6) (hx_7 : x_7.size ≤ 6) (hp_1 : p_1.size ≤ 6) (hp_3 : p_3.size ≤ 6) (hp_5 : p_5.size ≤ 6) (hp_7 : p_7.size ≤ 6) (h : ¬ (t_1.size ≤ 6 ∧ t_2.size ≤ 6)) :
    Calls Tryz.prog 6 #[.agg #[.bool p_0, .string p_1, .bool p_2, .string p_3, .bool p_4, .string p_5, .bool p_6, .string p_7], .agg #[.bool x_0, .string x_1, .bool x_2, .string x_3, .bool x_4, .string x_5, .bool x_6, .string x_7], .agg #[.bool t_0, .string t_1, .string t_2]] w fun e w' => e = .returned (.bool true) ∧ Below w.heap.size w w' := by
  exact SX.run (w := w) [.bool p_0, .string p_1, .bool p_2, .string p_3, .bool p_4, .string p_5, .bool p_6, .string p_7, .bool x_0, .string x_1, .bool x_2, .string x_3, .bool x_4, .string x_5, .bool x_6, .string x_7, .bool t_0, .string t_1, .string t_2, .bool true, .bool false, .bool false, .bool true] [.b false, .b false, .b true] [.ga 0 8, .ga 8 8, .ga 16 3] 19 (.one (.c (.p (.lit (.bool true))))) [.call 10 [] (.one (.ca 19)) [], .op1 .not (.pa 19) 20, .isB 20 false, .call 11 [.ga 0 8, .c (.p (.slc 3 0 1 1))] (.one (.ca 21)) [(3073, .pa 8), (3074, .pa 9), (3075, .pa 10), (3076, .pa 11), (3077, .pa 12), (3078, .pa 13), (3079, .pa 14), (3080, .pa 15)], .isB 21 false, .call 12 [.ga 16 3] (.one (.ca 22)) [], .isB 22 true] Tryz.func6 (by kernel_rfl) rfl (by kernel_rfl) rfl (by kernel_rfl)
    ⟨fun γ w' bw _ => alive5_any w' (hT.later bw),
     congrArg (fun z => some (Value.bool z)) (by first | rfl | assumption | decide | simp [*] : (!true) = false),
     rfl,
     fun γ w' _ hm => great5_1_no p_0 p_1 p_2 p_3 p_4 p_5 p_6 p_7 x_0 x_1 x_2 x_3 x_4 x_5 x_6 x_7 w' (γ 3) (SX.mem_at (b := 3) (l := [.pa 8, .pa 9, .pa 10, .pa 11, .pa 12, .pa 13, .pa 14, .pa 15]) hm rfl) hx_1 hx_3 hx_5 hx_7 hp_1 hp_3 hp_5 hp_7,
     rfl,
     fun γ w' _ _ => long5_yes t_0 t_1 t_2 w' h,
     rfl⟩
set_option maxRecDepth 100000 in
theorem Projection_f (p_0 : Bool) (p_1 : ByteArray) (p_2 : Bool) (p_3 : ByteArray) (p_4 : Bool) (p_5 : ByteArray) (p_6 : Bool) (p_7 : ByteArray) (x_0 : Bool) (x_1 : ByteArray) (x_2 : Bool) (x_3 : ByteArray) (x_4 : Bool) (x_5 : ByteArray) (x_6 : Bool) (x_7 : ByteArray) (t_0 : Bool) (t_1 : ByteArray) (t_2 : ByteArray) (w : World) (hT : TabC w) (hx_1 : x_1.size ≤ 6) (hx_3 : x_3.size ≤ 6) (hx_5 : x_5.size ≤ 6) (hx_7 : x_7.size ≤ 6) (hp_1 : p_1.size ≤ 6) (hp_3 : p_3.size ≤ 6) (hp_5 : p_5.size ≤ 6) (hp_7 : p_7.size ≤ 6) (ht_1 : t_1.size ≤ 6) (ht_2 : t_2.size ≤ 6) (gf : flatF (Z4.mk (iv p_0 p_1) (iv p_2 p_3) (iv p_4 p_5) (iv p_6 p_7))) :
    Calls Tryz.prog 6 #[.agg #[.bool p_0, .string p_1, .bool p_2, .string p_3, .bool p_4, .string p_5, .bool p_6, .string p_7], .agg #[.bool x_0, .string x_1, .bool x_2, .string x_3, .bool x_4, .string x_5, .bool x_6, .string x_7], .agg #[.bool t_0, .string t_1, .string t_2]] w fun e w' => e = .returned (.bool true) ∧ Below w.heap.size w w' := by
  obtain ⟨p, hp, rp⟩ : ∃ q, IsF (.agg #[.bool p_0, .string p_1, .bool p_2, .string p_3, .bool p_4, .string p_5, .bool p_6, .string p_7]) q 6 ∧ q = ⟨iv p_0 p_1, iv p_2 p_3, iv p_4 p_5, iv p_6 p_7⟩ := ⟨⟨_, _, _, _⟩, ⟨_, _, _, _, _, _, _, _, rfl, rfl, hp_1, rfl, hp_3, rfl, hp_5, rfl, hp_7⟩, rfl⟩
  have zp := hp.sz
  obtain ⟨xq, hxq, rxq⟩ : ∃ q, IsF (.agg #[.bool x_0, .string x_1, .bool x_2, .string x_3, .bool x_4, .string x_5, .bool x_6, .string x_7]) q 6 ∧ q = ⟨iv x_0 x_1, iv x_2 x_3, iv x_4 x_5, iv x_6 x_7⟩ := ⟨⟨_, _, _, _⟩, ⟨_, _, _, _, _, _, _, _, rfl, rfl, hx_1, rfl, hx_3, rfl, hx_5, rfl, hx_7⟩, rfl⟩
  have zxq := hxq.sz
  obtain ⟨x, ex⟩ : ∃ p, p = pt xq := ⟨_, rfl⟩
  have hx : IsP (.agg #[.bool x_0, .string x_1, .bool x_2, .string x_3, .bool x_4, .string x_5, .bool x_6, .string x_7]) x 6 := by rw [ex]; exact hxq.pt
  have zx := hx.sz (by decide)
  have rx : x = pt ⟨iv x_0 x_1, iv x_2 x_3, iv x_4 x_5, iv x_6 x_7⟩ := by rw [ex, rxq]
  obtain ⟨t, ht, rt⟩ : ∃ q, IsQ (.agg #[.bool t_0, .string t_1, .string t_2]) q 6 ∧ q = rq t_0 t_1 t_2 := ⟨_, ⟨_, _, _, rfl, rfl, ht_1, ht_2⟩, rfl⟩
  have zt := ht.sz (by decide)
  rw [← rp] at gf
  exact SX.run (w := w) (.bool p_0 :: .string p_1 :: .bool p_2 :: .string p_3 :: .bool p_4 :: .string p_5 :: .bool p_6 :: .string p_7 :: .bool x_0 :: .string x_1 :: .bool x_2 :: .string x_3 :: .bool x_4 :: .string x_5 :: .bool x_6 :: .string x_7 :: .bool t_0 :: .string t_1 :: .string t_2 :: .bool true :: .bool false :: .bool false :: .bool false :: .bool false :: .string ⟨#[]⟩ :: .bool false :: .string ⟨#[]⟩ :: .bool false :: .string ⟨#[]⟩ :: .bool false :: .string ⟨#[]⟩ :: .bool false :: .bool true :: []) [.b false, .b false, .b false, .b true] [.ga 0 8, .ga 8 8, .ga 16 3] 19 (.one (.c (.p (.lit (.bool true))))) [.call 10 [] (.one (.ca 19)) [], .op1 .not (.pa 19) 20, .isB 20 false, .call 11 [.ga 0 8, .c (.p (.slc 3 0 1 1))] (.one (.ca 21)) [(3073, .pa 8), (3074, .pa 9), (3075, .pa 10), (3076, .pa 11), (3077, .pa 12), (3078, .pa 13), (3079, .pa 14), (3080, .pa 15)], .isB 21 false, .call 12 [.ga 16 3] (.one (.ca 22)) [], .isB 22 false, .call 14 [.ga 0 8] (.tup [.ga 23 8, .ca 31]) [], .op1 .not (.pa 31) 32, .isB 32 true] Tryz.func6 (by kernel_rfl) rfl (by kernel_rfl) rfl (by kernel_rfl)
    ⟨fun γ w' bw _ => alive5_any w' (hT.later bw),
     congrArg (fun z => some (Value.bool z)) (by first | rfl | assumption | decide | simp [*] : (!true) = false),
     rfl,
     fun γ w' _ hm => great5_1_no p_0 p_1 p_2 p_3 p_4 p_5 p_6 p_7 x_0 x_1 x_2 x_3 x_4 x_5 x_6 x_7 w' (γ 3) (SX.mem_at (b := 3) (l := [.pa 8, .pa 9, .pa 10, .pa 11, .pa 12, .pa 13, .pa 14, .pa 15]) hm rfl) hx_1 hx_3 hx_5 hx_7 hp_1 hp_3 hp_5 hp_7,
     rfl,
     fun γ w' _ _ => long5_no t_0 t_1 t_2 w' ht_1 ht_2,
     rfl,
     fun γ w' _ _ => by have h := v5Norm_any hp (by decide) w'; rw [normV, if_pos gf] at h; exact h,
     congrArg (fun z => some (Value.bool z)) (by first | rfl | assumption | decide | simp [*] : (!false) = true),
     rfl⟩
set_option maxHeartbeats 1000000 in
set_option maxRecDepth 100000 in
theorem Projection_0 (p_0 : Bool) (p_1 : ByteArray) (p_2 : Bool) (p_3 : ByteArray) (p_4 : Bool) (p_5 : ByteArray) (p_6 : Bool) (p_7 : ByteArray) (x_0 : Bool) (x_1 : ByteArray) (x_2 : Bool) (x_3 : ByteArray) (x_4 : Bool) (x_5 : ByteArray) (x_6 : Bool) (x_7 : ByteArray) (t_0 : Bool) (t_1 : ByteArray) (t_2 : ByteArray) (w : World) (hT : TabC w) (hx_1 : x_1.size ≤ 6) (hx_3 : x_3.size ≤ 6) (hx_5 : x_5.size ≤ 6) (hx_7 : x_7.size ≤ 6) (hp_1 : p_1.size ≤ 6) (hp_3 : p_3.size ≤ 6) (hp_5 : p_5.size ≤ 6) (hp_7 : p_7.size ≤ 6) (ht_1 : t_1.size ≤ 6) (ht_2 : t_2.size ≤ 6) (gf : ¬ flatF (Z4.mk (iv p_0 p_1) (iv p_2 p_3) (iv p_4 p_5) (iv p_6 p_7))) (ha : axisF (prim (Z4.mk (iv p_0 p_1) (iv p_2 p_3) (iv p_4 p_5) (iv p_6 p_7))) = 0) :
    Calls Tryz.prog 6 #[.agg #[.bool p_0, .string p_1, .bool p_2, .string p_3, .bool p_4, .string p_5, .bool p_6, .string p_7], .agg #[.bool x_0, .string x_1, .bool x_2, .string x_3, .bool x_4, .string x_5, .bool x_6, .string x_7], .agg #[.bool t_0, .string t_1, .string t_2]] w fun e w' => e = .returned (.bool true) ∧ Below w.heap.size w w' := by
  obtain ⟨p, hp, rp⟩ : ∃ q, IsF (.agg #[.bool p_0, .string p_1, .bool p_2, .string p_3, .bool p_4, .string p_5, .bool p_6, .string p_7]) q 6 ∧ q = ⟨iv p_0 p_1, iv p_2 p_3, iv p_4 p_5, iv p_6 p_7⟩ := ⟨⟨_, _, _, _⟩, ⟨_, _, _, _, _, _, _, _, rfl, rfl, hp_1, rfl, hp_3, rfl, hp_5, rfl, hp_7⟩, rfl⟩
  have zp := hp.sz
  obtain ⟨xq, hxq, rxq⟩ : ∃ q, IsF (.agg #[.bool x_0, .string x_1, .bool x_2, .string x_3, .bool x_4, .string x_5, .bool x_6, .string x_7]) q 6 ∧ q = ⟨iv x_0 x_1, iv x_2 x_3, iv x_4 x_5, iv x_6 x_7⟩ := ⟨⟨_, _, _, _⟩, ⟨_, _, _, _, _, _, _, _, rfl, rfl, hx_1, rfl, hx_3, rfl, hx_5, rfl, hx_7⟩, rfl⟩
  have zxq := hxq.sz
  obtain ⟨x, ex⟩ : ∃ p, p = pt xq := ⟨_, rfl⟩
  have hx : IsP (.agg #[.bool x_0, .string x_1, .bool x_2, .string x_3, .bool x_4, .string x_5, .bool x_6, .string x_7]) x 6 := by rw [ex]; exact hxq.pt
  have zx := hx.sz (by decide)
  have rx : x = pt ⟨iv x_0 x_1, iv x_2 x_3, iv x_4 x_5, iv x_6 x_7⟩ := by rw [ex, rxq]
  obtain ⟨t, ht, rt⟩ : ∃ q, IsQ (.agg #[.bool t_0, .string t_1, .string t_2]) q 6 ∧ q = rq t_0 t_1 t_2 := ⟨_, ⟨_, _, _, rfl, rfl, ht_1, ht_2⟩, rfl⟩
  have zt := ht.sz (by decide)
  rw [← rp] at gf ha
  have f1 : Fk (prim p) 6 := Fk.up ((Fk.prim zp)) (by decide)
  have f2 : Pk x 6 := Pk.up (zx) (by decide)
  have f3 : Rk t 6 := Rk.up (zt) (by decide)
  have f4 : Pk (liftF (prim p) x) 117 := Pk.up ((Pk.lift f1 f2)) (by decide)
  have f5 : Fk (shiftF (prim p) t) 76 := Fk.up ((Fk.shift f1 f3)) (by decide)
  have f6 : Pk (liftF (prim p) (liftF (prim p) x)) 783 := Pk.up ((Pk.lift f1 f4)) (by decide)
  have f7 : Vk x 6 := Vk.up ((Vk.ofP1 f2)) (by decide)
  have f8 : Vk (liftF (prim p) x) 117 := Vk.up ((Vk.ofP1 f4)) (by decide)
  have f9 : Rk x.y 6 := Rk.up (f7.2.1) (by decide)
  have f10 : Rk (liftF (prim p) x).y 117 := Rk.up (f8.2.1) (by decide)
  have f11 : Rk x.z 6 := Rk.up (f7.2.2) (by decide)
  have f12 : Rk (liftF (prim p) x).z 117 := Rk.up (f8.2.2) (by decide)
  exact SX.run (w := w) (List.flatten [[.bool p_0, .string p_1, .bool p_2, .string p_3, .bool p_4, .string p_5, .bool p_6, .string p_7, .bool x_0, .string x_1, .bool x_2, .string x_3, .bool x_4, .string x_5, .bool x_6, .string x_7, .bool t_0, .string t_1, .string t_2, .bool true, .bool false, .bool false, .bool false], fc (prim p), [.bool true, .bool false], pc x, qc t, [.int .i64 0, .bool (decide (0 < coefF (prim p) 0)), .int .i64 0, .bool (decide (0 < coefF (prim p) 0))], pc (liftF (prim p) x), [.bool false, .bool false], pc (liftF (prim p) x), [.bool false], fc (shiftF (prim p) t), fc (shiftF (prim p) t), [.bool false, .int .i64 (sideF (prim p) (liftF (prim p) x)), .bool false], pc (liftF (prim p) (liftF (prim p) x)), [.bool false], vc x, vc (liftF (prim p) x), [.bool false, .bool true, .bool false, .bool true, .bool false]]) [.b false, .b false, .b false, .b false, .b false, .b false, .b false, .b false, .b false, .b false, .b false, .b true, .b false, .b true, .b false] [.ga 0 8, .ga 8 8, .ga 16 3] 19 (.one (.c (.p (.lit (.bool true))))) (.call 10 [] (.one (.ca 19)) [] :: .op1 .not (.pa 19) 20 :: .isB 20 false :: .call 11 [.ga 0 8, .c (.p (.slc 3 0 1 1))] (.one (.ca 21)) [(3073, .pa 8), (3074, .pa 9), (3075, .pa 10), (3076, .pa 11), (3077, .pa 12), (3078, .pa 13), (3079, .pa 14), (3080, .pa 15)] :: .isB 21 false :: .call 12 [.ga 16 3] (.one (.ca 22)) [] :: .isB 22 false :: .call 14 [.ga 0 8] (.tup [.ga 23 8, .ca 31]) [] :: .op1 .not (.pa 31) 32 :: .isB 32 false :: .call 17 [.ga 8 8] (.one (.ga 33 8)) [] :: .call 24 [.ga 16 3] (.one (.ga 41 3)) [] :: .call 25 [.ga 23 8] (.tup [.ca 44, .ca 45]) [] :: .call 26 [.ga 23 8] (.tup [.ca 46, .ca 47]) [] :: .call 27 [.ga 23 8, .ga 33 8] (.one (.ga 48 8)) [] :: .op2 false .neq (.pa 44) (.pa 46) 56 :: .isB 56 false :: .op2 true .neq (.pa 45) (.pa 47) 57 :: .isB 57 false :: .call 28 [.ga 23 8, .ga 33 8] (.one (.ga 58 8)) [] :: .eqs true [.b, .s, .b, .s, .b, .s, .b, .s] [.pa 48, .pa 49, .pa 50, .pa 51, .pa 52, .pa 53, .pa 54, .pa 55] [.pa 58, .pa 59, .pa 60, .pa 61, .pa 62, .pa 63, .pa 64, .pa 65] 66 :: .isB 66 false :: .call 29 [.ga 23 8, .ga 41 3] (.one (.ga 67 8)) [] :: .call 30 [.ga 23 8, .ga 41 3] (.one (.ga 75 8)) [] :: .eqs true [.b, .s, .b, .s, .b, .s, .b, .s] [.pa 67, .pa 68, .pa 69, .pa 70, .pa 71, .pa 72, .pa 73, .pa 74] [.pa 75, .pa 76, .pa 77, .pa 78, .pa 79, .pa 80, .pa 81, .pa 82] 83 :: .isB 83 false :: .call 21 [.ga 23 8, .ga 48 8] (.one (.ca 84)) [] :: .op2 false .neq (.pa 84) (.p (.lit (.int .i64 0))) 85 :: .isB 85 false :: .call 27 [.ga 23 8, .ga 48 8] (.one (.ga 86 8)) [] :: .eqs true [.b, .s, .b, .s, .b, .s, .b, .s] [.pa 86, .pa 87, .pa 88, .pa 89, .pa 90, .pa 91, .pa 92, .pa 93] [.pa 48, .pa 49, .pa 50, .pa 51, .pa 52, .pa 53, .pa 54, .pa 55] 94 :: .isB 94 false :: .call 31 [.ga 33 8] (.one (.ga 95 9)) [] :: .call 31 [.ga 48 8] (.one (.ga 104 9)) [] :: .op2 false .neq (.p (.lit (.int .i64 0))) (.pa 44) 113 :: .isB 113 false :: .op2 false .neq (.p (.lit (.int .i64 1))) (.pa 44) 114 :: .isB 114 true :: .eqs true [.b, .s, .s] [.pa 98, .pa 99, .pa 100] [.pa 107, .pa 108, .pa 109] 115 :: .isB 115 false :: .op2 false .neq (.p (.lit (.int .i64 2))) (.pa 44) 116 :: .isB 116 true :: .eqs true [.b, .s, .s] [.pa 101, .pa 102, .pa 103] [.pa 110, .pa 111, .pa 112] 117 :: .isB 117 false :: []) Tryz.func6 (by kernel_rfl) rfl (by kernel_rfl) rfl (by kernel_rfl)
    ⟨fun γ w' bw _ => alive5_any w' (hT.later bw),
     congrArg (fun z => some (Value.bool z)) (by first | rfl | assumption | decide | simp [*] : (!true) = false),
     rfl,
     fun γ w' _ hm => great5_1_no p_0 p_1 p_2 p_3 p_4 p_5 p_6 p_7 x_0 x_1 x_2 x_3 x_4 x_5 x_6 x_7 w' (γ 3) (SX.mem_at (b := 3) (l := [.pa 8, .pa 9, .pa 10, .pa 11, .pa 12, .pa 13, .pa 14, .pa 15]) hm rfl) hx_1 hx_3 hx_5 hx_7 hp_1 hp_3 hp_5 hp_7,
     rfl,
     fun γ w' _ _ => long5_no t_0 t_1 t_2 w' ht_1 ht_2,
     rfl,
     fun γ w' _ _ => by have h := v5Norm_any hp (by decide) w'; rw [normV, if_neg gf] at h; exact h,
     congrArg (fun z => some (Value.bool z)) (by first | rfl | assumption | decide | simp [*] : (!true) = false),
     rfl,
     fun γ w' _ _ => p4Norm hx (by decide) w',
     fun γ w' _ _ => rNorm ht (by decide) w',
     fun γ w' bw _ => by have h := plAxis_any f1 (by decide) w'; rw [axisV, ha] at h; exact h,
     fun γ w' bw _ => by have h := v5Axis_any (IsF.can f1) (by decide) w'; rw [axisV, ha] at h; exact h,
     fun γ w' bw _ => plProject f1 (by decide) f2 (by decide) w' (hT.later bw) (can_prim gf).2,
     congrArg (fun z => some (Value.bool z)) (by decide : ((0 : Int) != (0 : Int)) = false),
     rfl,
     congrArg (fun z => some (Value.bool z)) (bne_self_eq_false _ : (!((decide (0 < coefF (prim p) 0)) == (decide (0 < coefF (prim p) 0)))) = false),
     rfl,
     fun γ w' _ _ => v5Lift (IsF.can f1) (by decide) (IsP.can f2) (by decide) w',
     ⟨rfl, rfl, eqv_yes (eqL_P (liftF (prim p) x) (liftF (prim p) x)) (rfl) rfl⟩,
     rfl,
     fun γ w' bw _ => plOffset f1 (by decide) f3 (by decide) w' (hT.later bw) (can_prim gf).2,
     fun γ w' _ _ => v5Shift (IsF.can f1) (by decide) (IsQ.can f3) (by decide) w' (prim_flat gf),
     ⟨rfl, rfl, eqv_yes (eqL_F (shiftF (prim p) t) (shiftF (prim p) t)) (rfl) rfl⟩,
     rfl,
     fun γ w' _ _ => plSide f1 (by decide) f4 (by decide) w',
     congrArg (fun z => some (Value.bool z)) (by rw [side_lift (prim_flat gf)]; rfl : ((sideF (prim p) (liftF (prim p) x)) != (0 : Int)) = false),
     rfl,
     fun γ w' bw _ => plProject f1 (by decide) f4 (by decide) w' (hT.later bw) (can_prim gf).2,
     ⟨rfl, rfl, eqv_yes (eqL_P (liftF (prim p) (liftF (prim p) x)) (liftF (prim p) x)) (lift_lift _) rfl⟩,
     rfl,
     fun γ w' _ _ => p4Coords (IsP.can f2) (by decide) w',
     fun γ w' _ _ => p4Coords (IsP.can f4) (by decide) w',
     congrArg (fun z => some (Value.bool z)) (by first | rfl | assumption | decide | simp [*] : ((0 : Int) != (0 : Int)) = false),
     rfl,
     congrArg (fun z => some (Value.bool z)) (by first | rfl | assumption | decide | simp [*] : ((1 : Int) != (0 : Int)) = true),
     rfl,
     ⟨rfl, rfl, eqv_yes (eqL_Q x.y (liftF (prim p) x).y) ((lift_y (by rw [ha]; decide) _).symm) rfl⟩,
     rfl,
     congrArg (fun z => some (Value.bool z)) (by first | rfl | assumption | decide | simp [*] : ((2 : Int) != (0 : Int)) = true),
     rfl,
     ⟨rfl, rfl, eqv_yes (eqL_Q x.z (liftF (prim p) x).z) ((lift_z (by rw [ha]; decide) _).symm) rfl⟩,
     rfl⟩
set_option maxHeartbeats 1000000 in
set_option maxRecDepth 100000 in
theorem Projection_1 (p_0 : Bool) (p_1 : ByteArray) (p_2 : Bool) (p_3 : ByteArray) (p_4 : Bool) (p_5 : ByteArray) (p_6 : Bool) (p_7 : ByteArray) (x_0 : Bool) (x_1 : ByteArray) (x_2 : Bool) (x_3 : ByteArray) (x_4 : Bool) (x_5 : ByteArray) (x_6 : Bool) (x_7 : ByteArray) (t_0 : Bool) (t_1 : ByteArray) (t_2 : ByteArray) (w : World) (hT : TabC w) (hx_1 : x_1.size ≤ 6) (hx_3 : x_3.size ≤ 6) (hx_5 : x_5.size ≤ 6) (hx_7 : x_7.size ≤ 6) (hp_1 : p_1.size ≤ 6) (hp_3 : p_3.size ≤ 6) (hp_5 : p_5.size ≤ 6) (hp_7 : p_7.size ≤ 6) (ht_1 : t_1.size ≤ 6) (ht_2 : t_2.size ≤ 6) (gf : ¬ flatF (Z4.mk (iv p_0 p_1) (iv p_2 p_3) (iv p_4 p_5) (iv p_6 p_7))) (ha : axisF (prim (Z4.mk (iv p_0 p_1) (iv p_2 p_3) (iv p_4 p_5) (iv p_6 p_7))) = 1) :
    Calls Tryz.prog 6 #[.agg #[.bool p_0, .string p_1, .bool p_2, .string p_3, .bool p_4, .string p_5, .bool p_6, .string p_7], .agg #[.bool x_0, .string x_1, .bool x_2, .string x_3, .bool x_4, .string x_5, .bool x_6, .string x_7], .agg #[.bool t_0, .string t_1, .string t_2]] w fun e w' => e = .returned (.bool true) ∧ Below w.heap.size w w' := by
  obtain ⟨p, hp, rp⟩ : ∃ q, IsF (.agg #[.bool p_0, .string p_1, .bool p_2, .string p_3, .bool p_4, .string p_5, .bool p_6, .string p_7]) q 6 ∧ q = ⟨iv p_0 p_1, iv p_2 p_3, iv p_4 p_5, iv p_6 p_7⟩ := ⟨⟨_, _, _, _⟩, ⟨_, _, _, _, _, _, _, _, rfl, rfl, hp_1, rfl, hp_3, rfl, hp_5, rfl, hp_7⟩, rfl⟩
  have zp := hp.sz
  obtain ⟨xq, hxq, rxq⟩ : ∃ q, IsF (.agg #[.bool x_0, .string x_1, .bool x_2, .string x_3, .bool x_4, .string x_5, .bool x_6, .string x_7]) q 6 ∧ q = ⟨iv x_0 x_1, iv x_2 x_3, iv x_4 x_5, iv x_6 x_7⟩ := ⟨⟨_, _, _, _⟩, ⟨_, _, _, _, _, _, _, _, rfl, rfl, hx_1, rfl, hx_3, rfl, hx_5, rfl, hx_7⟩, rfl⟩
  have zxq := hxq.sz
  obtain ⟨x, ex⟩ : ∃ p, p = pt xq := ⟨_, rfl⟩
  have hx : IsP (.agg #[.bool x_0, .string x_1, .bool x_2, .string x_3, .bool x_4, .string x_5, .bool x_6, .string x_7]) x 6 := by rw [ex]; exact hxq.pt
  have zx := hx.sz (by decide)
  have rx : x = pt ⟨iv x_0 x_1, iv x_2 x_3, iv x_4 x_5, iv x_6 x_7⟩ := by rw [ex, rxq]
  obtain ⟨t, ht, rt⟩ : ∃ q, IsQ (.agg #[.bool t_0, .string t_1, .string t_2]) q 6 ∧ q = rq t_0 t_1 t_2 := ⟨_, ⟨_, _, _, rfl, rfl, ht_1, ht_2⟩, rfl⟩
  have zt := ht.sz (by decide)
  rw [← rp] at gf ha
  have f1 : Fk (prim p) 6 := Fk.up ((Fk.prim zp)) (by decide)
  have f2 : Pk x 6 := Pk.up (zx) (by decide)
  have f3 : Rk t 6 := Rk.up (zt) (by decide)
  have f4 : Pk (liftF (prim p) x) 117 := Pk.up ((Pk.lift f1 f2)) (by decide)
  have f5 : Fk (shiftF (prim p) t) 76 := Fk.up ((Fk.shift f1 f3)) (by decide)
  have f6 : Pk (liftF (prim p) (liftF (prim p) x)) 783 := Pk.up ((Pk.lift f1 f4)) (by decide)
  have f7 : Vk x 6 := Vk.up ((Vk.ofP1 f2)) (by decide)
  have f8 : Vk (liftF (prim p) x) 117 := Vk.up ((Vk.ofP1 f4)) (by decide)
  have f9 : Rk x.x 6 := Rk.up (f7.1) (by decide)
  have f10 : Rk (liftF (prim p) x).x 117 := Rk.up (f8.1) (by decide)
  have f11 : Rk x.z 6 := Rk.up (f7.2.2) (by decide)
  have f12 : Rk (liftF (prim p) x).z 117 := Rk.up (f8.2.2) (by decide)
  exact SX.run (w := w) (List.flatten [[.bool p_0, .string p_1, .bool p_2, .string p_3, .bool p_4, .string p_5, .bool p_6, .string p_7, .bool x_0, .string x_1, .bool x_2, .string x_3, .bool x_4, .string x_5, .bool x_6, .string x_7, .bool t_0, .string t_1, .string t_2, .bool true, .bool false, .bool false, .bool false], fc (prim p), [.bool true, .bool false], pc x, qc t, [.int .i64 1, .bool (decide (0 < coefF (prim p) 1)), .int .i64 1, .bool (decide (0 < coefF (prim p) 1))], pc (liftF (prim p) x), [.bool false, .bool false], pc (liftF (prim p) x), [.bool false], fc (shiftF (prim p) t), fc (shiftF (prim p) t), [.bool false, .int .i64 (sideF (prim p) (liftF (prim p) x)), .bool false], pc (liftF (prim p) (liftF (prim p) x)), [.bool false], vc x, vc (liftF (prim p) x), [.bool true, .bool false, .bool false, .bool true, .bool false]]) [.b false, .b false, .b false, .b false, .b false, .b false, .b false, .b false, .b false, .b false, .b true, .b false, .b false, .b true, .b false] [.ga 0 8, .ga 8 8, .ga 16 3] 19 (.one (.c (.p (.lit (.bool true))))) (.call 10 [] (.one (.ca 19)) [] :: .op1 .not (.pa 19) 20 :: .isB 20 false :: .call 11 [.ga 0 8, .c (.p (.slc 3 0 1 1))] (.one (.ca 21)) [(3073, .pa 8), (3074, .pa 9), (3075, .pa 10), (3076, .pa 11), (3077, .pa 12), (3078, .pa 13), (3079, .pa 14), (3080, .pa 15)] :: .isB 21 false :: .call 12 [.ga 16 3] (.one (.ca 22)) [] :: .isB 22 false :: .call 14 [.ga 0 8] (.tup [.ga 23 8, .ca 31]) [] :: .op1 .not (.pa 31) 32 :: .isB 32 false :: .call 17 [.ga 8 8] (.one (.ga 33 8)) [] :: .call 24 [.ga 16 3] (.one (.ga 41 3)) [] :: .call 25 [.ga 23 8] (.tup [.ca 44, .ca 45]) [] :: .call 26 [.ga 23 8] (.tup [.ca 46, .ca 47]) [] :: .call 27 [.ga 23 8, .ga 33 8] (.one (.ga 48 8)) [] :: .op2 false .neq (.pa 44) (.pa 46) 56 :: .isB 56 false :: .op2 true .neq (.pa 45) (.pa 47) 57 :: .isB 57 false :: .call 28 [.ga 23 8, .ga 33 8] (.one (.ga 58 8)) [] :: .eqs true [.b, .s, .b, .s, .b, .s, .b, .s] [.pa 48, .pa 49, .pa 50, .pa 51, .pa 52, .pa 53, .pa 54, .pa 55] [.pa 58, .pa 59, .pa 60, .pa 61, .pa 62, .pa 63, .pa 64, .pa 65] 66 :: .isB 66 false :: .call 29 [.ga 23 8, .ga 41 3] (.one (.ga 67 8)) [] :: .call 30 [.ga 23 8, .ga 41 3] (.one (.ga 75 8)) [] :: .eqs true [.b, .s, .b, .s, .b, .s, .b, .s] [.pa 67, .pa 68, .pa 69, .pa 70, .pa 71, .pa 72, .pa 73, .pa 74] [.pa 75, .pa 76, .pa 77, .pa 78, .pa 79, .pa 80, .pa 81, .pa 82] 83 :: .isB 83 false :: .call 21 [.ga 23 8, .ga 48 8] (.one (.ca 84)) [] :: .op2 false .neq (.pa 84) (.p (.lit (.int .i64 0))) 85 :: .isB 85 false :: .call 27 [.ga 23 8, .ga 48 8] (.one (.ga 86 8)) [] :: .eqs true [.b, .s, .b, .s, .b, .s, .b, .s] [.pa 86, .pa 87, .pa 88, .pa 89, .pa 90, .pa 91, .pa 92, .pa 93] [.pa 48, .pa 49, .pa 50, .pa 51, .pa 52, .pa 53, .pa 54, .pa 55] 94 :: .isB 94 false :: .call 31 [.ga 33 8] (.one (.ga 95 9)) [] :: .call 31 [.ga 48 8] (.one (.ga 104 9)) [] :: .op2 false .neq (.p (.lit (.int .i64 0))) (.pa 44) 113 :: .isB 113 true :: .eqs true [.b, .s, .s] [.pa 95, .pa 96, .pa 97] [.pa 104, .pa 105, .pa 106] 114 :: .isB 114 false :: .op2 false .neq (.p (.lit (.int .i64 1))) (.pa 44) 115 :: .isB 115 false :: .op2 false .neq (.p (.lit (.int .i64 2))) (.pa 44) 116 :: .isB 116 true :: .eqs true [.b, .s, .s] [.pa 101, .pa 102, .pa 103] [.pa 110, .pa 111, .pa 112] 117 :: .isB 117 false :: []) Tryz.func6 (by kernel_rfl) rfl (by kernel_rfl) rfl (by kernel_rfl)
    ⟨fun γ w' bw _ => alive5_any w' (hT.later bw),
     congrArg (fun z => some (Value.bool z)) (by first | rfl | assumption | decide | simp [*] : (!true) = false),
     rfl,
     fun γ w' _ hm => great5_1_no p_0 p_1 p_2 p_3 p_4 p_5 p_6 p_7 x_0 x_1 x_2 x_3 x_4 x_5 x_6 x_7 w' (γ 3) (SX.mem_at (b := 3) (l := [.pa 8, .pa 9, .pa 10, .pa 11, .pa 12, .pa 13, .pa 14, .pa 15]) hm rfl) hx_1 hx_3 hx_5 hx_7 hp_1 hp_3 hp_5 hp_7,
     rfl,
     fun γ w' _ _ => long5_no t_0 t_1 t_2 w' ht_1 ht_2,
     rfl,
     fun γ w' _ _ => by have h := v5Norm_any hp (by decide) w'; rw [normV, if_neg gf] at h; exact h,
     congrArg (fun z => some (Value.bool z)) (by first | rfl | assumption | decide | simp [*] : (!true) = false),
     rfl,
     fun γ w' _ _ => p4Norm hx (by decide) w',
     fun γ w' _ _ => rNorm ht (by decide) w',
     fun γ w' bw _ => by have h := plAxis_any f1 (by decide) w'; rw [axisV, ha] at h; exact h,
     fun γ w' bw _ => by have h := v5Axis_any (IsF.can f1) (by decide) w'; rw [axisV, ha] at h; exact h,
     fun γ w' bw _ => plProject f1 (by decide) f2 (by decide) w' (hT.later bw) (can_prim gf).2,
     congrArg (fun z => some (Value.bool z)) (by decide : ((1 : Int) != (1 : Int)) = false),
     rfl,
     congrArg (fun z => some (Value.bool z)) (bne_self_eq_false _ : (!((decide (0 < coefF (prim p) 1)) == (decide (0 < coefF (prim p) 1)))) = false),
     rfl,
     fun γ w' _ _ => v5Lift (IsF.can f1) (by decide) (IsP.can f2) (by decide) w',
     ⟨rfl, rfl, eqv_yes (eqL_P (liftF (prim p) x) (liftF (prim p) x)) (rfl) rfl⟩,
     rfl,
     fun γ w' bw _ => plOffset f1 (by decide) f3 (by decide) w' (hT.later bw) (can_prim gf).2,
     fun γ w' _ _ => v5Shift (IsF.can f1) (by decide) (IsQ.can f3) (by decide) w' (prim_flat gf),
     ⟨rfl, rfl, eqv_yes (eqL_F (shiftF (prim p) t) (shiftF (prim p) t)) (rfl) rfl⟩,
     rfl,
     fun γ w' _ _ => plSide f1 (by decide) f4 (by decide) w',
     congrArg (fun z => some (Value.bool z)) (by rw [side_lift (prim_flat gf)]; rfl : ((sideF (prim p) (liftF (prim p) x)) != (0 : Int)) = false),
     rfl,
     fun γ w' bw _ => plProject f1 (by decide) f4 (by decide) w' (hT.later bw) (can_prim gf).2,
     ⟨rfl, rfl, eqv_yes (eqL_P (liftF (prim p) (liftF (prim p) x)) (liftF (prim p) x)) (lift_lift _) rfl⟩,
     rfl,
     fun γ w' _ _ => p4Coords (IsP.can f2) (by decide) w',
     fun γ w' _ _ => p4Coords (IsP.can f4) (by decide) w',
     congrArg (fun z => some (Value.bool z)) (by first | rfl | assumption | decide | simp [*] : ((0 : Int) != (1 : Int)) = true),
     rfl,
     ⟨rfl, rfl, eqv_yes (eqL_Q x.x (liftF (prim p) x).x) ((lift_x (by rw [ha]; decide) _).symm) rfl⟩,
     rfl,
     congrArg (fun z => some (Value.bool z)) (by first | rfl | assumption | decide | simp [*] : ((1 : Int) != (1 : Int)) = false),
     rfl,
     congrArg (fun z => some (Value.bool z)) (by first | rfl | assumption | decide | simp [*] : ((2 : Int) != (1 : Int)) = true),
     rfl,
     ⟨rfl, rfl, eqv_yes (eqL_Q x.z (liftF (prim p) x).z) ((lift_z (by rw [ha]; decide) _).symm) rfl⟩,
     rfl⟩
set_option maxHeartbeats 1000000 in
set_option maxRecDepth 100000 in
theorem Projection_2 (p_0 : Bool) (p_1 : ByteArray) (p_2 : Bool) (p_3 : ByteArray) (p_4 : Bool) (p_5 : ByteArray) (p_6 : Bool) (p_7 : ByteArray) (x_0 : Bool) (x_1 : ByteArray) (x_2 : Bool) (x_3 : ByteArray) (x_4 : Bool) (x_5 : ByteArray) (x_6 : Bool) (x_7 : ByteArray) (t_0 : Bool) (t_1 : ByteArray) (t_2 : ByteArray) (w : World) (hT : TabC w) (hx_1 : x_1.size ≤ 6) (hx_3 : x_3.size ≤ 6) (hx_5 : x_5.size ≤ 6) (hx_7 : x_7.size ≤ 6) (hp_1 : p_1.size ≤ 6) (hp_3 : p_3.size ≤ 6) (hp_5 : p_5.size ≤ 6) (hp_7 : p_7.size ≤ 6) (ht_1 : t_1.size ≤ 6) (ht_2 : t_2.size ≤ 6) (gf : ¬ flatF (Z4.mk (iv p_0 p_1) (iv p_2 p_3) (iv p_4 p_5) (iv p_6 p_7))) (ha : axisF (prim (Z4.mk (iv p_0 p_1) (iv p_2 p_3) (iv p_4 p_5) (iv p_6 p_7))) = 2) :
    Calls Tryz.prog 6 #[.agg #[.bool p_0, .string p_1, .bool p_2, .string p_3, .bool p_4, .string p_5, .bool p_6, .string p_7], .agg #[.bool x_0, .string x_1, .bool x_2, .string x_3, .bool x_4, .string x_5, .bool x_6, .string x_7], .agg #[.bool t_0, .string t_1, .string t_2]] w fun e w' => e = .returned (.bool true) ∧ Below w.heap.size w w' := by
  obtain ⟨p, hp, rp⟩ : ∃ q, IsF (.agg #[.bool p_0, .string p_1, .bool p_2, .string p_3, .bool p_4, .string p_5, .bool p_6, .string p_7]) q 6 ∧ q = ⟨iv p_0 p_1, iv p_2 p_3, iv p_4 p_5, iv p_6 p_7⟩ := ⟨⟨_, _, _, _⟩, ⟨_, _, _, _, _, _, _, _, rfl, rfl, hp_1, rfl, hp_3, rfl, hp_5, rfl, hp_7⟩, rfl⟩
  have zp := hp.sz
  obtain ⟨xq, hxq, rxq⟩ : ∃ q, IsF (.agg #[.bool x_0, .string x_1, .bool x_2, .string x_3, .bool x_4, .string x_5, .bool x_6, .string x_7]) q 6 ∧ q = ⟨iv x_0 x_1, iv x_2 x_3, iv x_4 x_5, iv x_6 x_7⟩ := ⟨⟨_, _, _, _⟩, ⟨_, _, _, _, _, _, _, _, rfl, rfl, hx_1, rfl, hx_3, rfl, hx_5, rfl, hx_7⟩, rfl⟩
  have zxq := hxq.sz
  obtain ⟨x, ex⟩ : ∃ p, p = pt xq := ⟨_, rfl⟩
  have hx : IsP (.agg #[.bool x_0, .string x_1, .bool x_2, .string x_3, .bool x_4, .string x_5, .bool x_6, .string x_7]) x 6 := by rw [ex]; exact hxq.pt
  have zx := hx.sz (by decide)
  have rx : x = pt ⟨iv x_0 x_1, iv x_2 x_3, iv x_4 x_5, iv x_6 x_7⟩ := by rw [ex, rxq]
  obtain ⟨t, ht, rt⟩ : ∃ q, IsQ (.agg #[.bool t_0, .string t_1, .string t_2]) q 6 ∧ q = rq t_0 t_1 t_2 := ⟨_, ⟨_, _, _, rfl, rfl, ht_1, ht_2⟩, rfl⟩
  have zt := ht.sz (by decide)
  rw [← rp] at gf ha
  have f1 : Fk (prim p) 6 := Fk.up ((Fk.prim zp)) (by decide)
  have f2 : Pk x 6 := Pk.up (zx) (by decide)
  have f3 : Rk t 6 := Rk.up (zt) (by decide)
  have f4 : Pk (liftF (prim p) x) 117 := Pk.up ((Pk.lift f1 f2)) (by decide)
  have f5 : Fk (shiftF (prim p) t) 76 := Fk.up ((Fk.shift f1 f3)) (by decide)
  have f6 : Pk (liftF (prim p) (liftF (prim p) x)) 783 := Pk.up ((Pk.lift f1 f4)) (by decide)
  have f7 : Vk x 6 := Vk.up ((Vk.ofP1 f2)) (by decide)
  have f8 : Vk (liftF (prim p) x) 117 := Vk.up ((Vk.ofP1 f4)) (by decide)
  have f9 : Rk x.x 6 := Rk.up (f7.1) (by decide)
  have f10 : Rk (liftF (prim p) x).x 117 := Rk.up (f8.1) (by decide)
  have f11 : Rk x.y 6 := Rk.up (f7.2.1) (by decide)
  have f12 : Rk (liftF (prim p) x).y 117 := Rk.up (f8.2.1) (by decide)
  exact SX.run (w := w) (List.flatten [[.bool p_0, .string p_1, .bool p_2, .string p_3, .bool p_4, .string p_5, .bool p_6, .string p_7, .bool x_0, .string x_1, .bool x_2, .string x_3, .bool x_4, .string x_5, .bool x_6, .string x_7, .bool t_0, .string t_1, .string t_2, .bool true, .bool false, .bool false, .bool false], fc (prim p), [.bool true, .bool false], pc x, qc t, [.int .i64 2, .bool (decide (0 < coefF (prim p) 2)), .int .i64 2, .bool (decide (0 < coefF (prim p) 2))], pc (liftF (prim p) x), [.bool false, .bool false], pc (liftF (prim p) x), [.bool false], fc (shiftF (prim p) t), fc (shiftF (prim p) t), [.bool false, .int .i64 (sideF (prim p) (liftF (prim p) x)), .bool false], pc (liftF (prim p) (liftF (prim p) x)), [.bool false], vc x, vc (liftF (prim p) x), [.bool true, .bool false, .bool true, .bool false, .bool false]]) [.b false, .b false, .b false, .b false, .b false, .b false, .b false, .b false, .b false, .b false, .b true, .b false, .b true, .b false, .b false] [.ga 0 8, .ga 8 8, .ga 16 3] 19 (.one (.c (.p (.lit (.bool true))))) (.call 10 [] (.one (.ca 19)) [] :: .op1 .not (.pa 19) 20 :: .isB 20 false :: .call 11 [.ga 0 8, .c (.p (.slc 3 0 1 1))] (.one (.ca 21)) [(3073, .pa 8), (3074, .pa 9), (3075, .pa 10), (3076, .pa 11), (3077, .pa 12), (3078, .pa 13), (3079, .pa 14), (3080, .pa 15)] :: .isB 21 false :: .call 12 [.ga 16 3] (.one (.ca 22)) [] :: .isB 22 false :: .call 14 [.ga 0 8] (.tup [.ga 23 8, .ca 31]) [] :: .op1 .not (.pa 31) 32 :: .isB 32 false :: .call 17 [.ga 8 8] (.one (.ga 33 8)) [] :: .call 24 [.ga 16 3] (.one (.ga 41 3)) [] :: .call 25 [.ga 23 8] (.tup [.ca 44, .ca 45]) [] :: .call 26 [.ga 23 8] (.tup [.ca 46, .ca 47]) [] :: .call 27 [.ga 23 8, .ga 33 8] (.one (.ga 48 8)) [] :: .op2 false .neq (.pa 44) (.pa 46) 56 :: .isB 56 false :: .op2 true .neq (.pa 45) (.pa 47) 57 :: .isB 57 false :: .call 28 [.ga 23 8, .ga 33 8] (.one (.ga 58 8)) [] :: .eqs true [.b, .s, .b, .s, .b, .s, .b, .s] [.pa 48, .pa 49, .pa 50, .pa 51, .pa 52, .pa 53, .pa 54, .pa 55] [.pa 58, .pa 59, .pa 60, .pa 61, .pa 62, .pa 63, .pa 64, .pa 65] 66 :: .isB 66 false :: .call 29 [.ga 23 8, .ga 41 3] (.one (.ga 67 8)) [] :: .call 30 [.ga 23 8, .ga 41 3] (.one (.ga 75 8)) [] :: .eqs true [.b, .s, .b, .s, .b, .s, .b, .s] [.pa 67, .pa 68, .pa 69, .pa 70, .pa 71, .pa 72, .pa 73, .pa 74] [.pa 75, .pa 76, .pa 77, .pa 78, .pa 79, .pa 80, .pa 81, .pa 82] 83 :: .isB 83 false :: .call 21 [.ga 23 8, .ga 48 8] (.one (.ca 84)) [] :: .op2 false .neq (.pa 84) (.p (.lit (.int .i64 0))) 85 :: .isB 85 false :: .call 27 [.ga 23 8, .ga 48 8] (.one (.ga 86 8)) [] :: .eqs true [.b, .s, .b, .s, .b, .s, .b, .s] [.pa 86, .pa 87, .pa 88, .pa 89, .pa 90, .pa 91, .pa 92, .pa 93] [.pa 48, .pa 49, .pa 50, .pa 51, .pa 52, .pa 53, .pa 54, .pa 55] 94 :: .isB 94 false :: .call 31 [.ga 33 8] (.one (.ga 95 9)) [] :: .call 31 [.ga 48 8] (.one (.ga 104 9)) [] :: .op2 false .neq (.p (.lit (.int .i64 0))) (.pa 44) 113 :: .isB 113 true :: .eqs true [.b, .s, .s] [.pa 95, .pa 96, .pa 97] [.pa 104, .pa 105, .pa 106] 114 :: .isB 114 false :: .op2 false .neq (.p (.lit (.int .i64 1))) (.pa 44) 115 :: .isB 115 true :: .eqs true [.b, .s, .s] [.pa 98, .pa 99, .pa 100] [.pa 107, .pa 108, .pa 109] 116 :: .isB 116 false :: .op2 false .neq (.p (.lit (.int .i64 2))) (.pa 44) 117 :: .isB 117 false :: []) Tryz.func6 (by kernel_rfl) rfl (by kernel_rfl) rfl (by kernel_rfl)
    ⟨fun γ w' bw _ => alive5_any w' (hT.later bw),
     congrArg (fun z => some (Value.bool z)) (by first | rfl | assumption | decide | simp [*] : (!true) = false),
     rfl,
     fun γ w' _ hm => great5_1_no p_0 p_1 p_2 p_3 p_4 p_5 p_6 p_7 x_0 x_1 x_2 x_3 x_4 x_5 x_6 x_7 w' (γ 3) (SX.mem_at (b := 3) (l := [.pa 8, .pa 9, .pa 10, .pa 11, .pa 12, .pa 13, .pa 14, .pa 15]) hm rfl) hx_1 hx_3 hx_5 hx_7 hp_1 hp_3 hp_5 hp_7,
     rfl,
     fun γ w' _ _ => long5_no t_0 t_1 t_2 w' ht_1 ht_2,
     rfl,
     fun γ w' _ _ => by have h := v5Norm_any hp (by decide) w'; rw [normV, if_neg gf] at h; exact h,
     congrArg (fun z => some (Value.bool z)) (by first | rfl | assumption | decide | simp [*] : (!true) = false),
     rfl,
     fun γ w' _ _ => p4Norm hx (by decide) w',
     fun γ w' _ _ => rNorm ht (by decide) w',
     fun γ w' bw _ => by have h := plAxis_any f1 (by decide) w'; rw [axisV, ha] at h; exact h,
     fun γ w' bw _ => by have h := v5Axis_any (IsF.can f1) (by decide) w'; rw [axisV, ha] at h; exact h,
     fun γ w' bw _ => plProject f1 (by decide) f2 (by decide) w' (hT.later bw) (can_prim gf).2,
     congrArg (fun z => some (Value.bool z)) (by decide : ((2 : Int) != (2 : Int)) = false),
     rfl,
     congrArg (fun z => some (Value.bool z)) (bne_self_eq_false _ : (!((decide (0 < coefF (prim p) 2)) == (decide (0 < coefF (prim p) 2)))) = false),
     rfl,
     fun γ w' _ _ => v5Lift (IsF.can f1) (by decide) (IsP.can f2) (by decide) w',
     ⟨rfl, rfl, eqv_yes (eqL_P (liftF (prim p) x) (liftF (prim p) x)) (rfl) rfl⟩,
     rfl,
     fun γ w' bw _ => plOffset f1 (by decide) f3 (by decide) w' (hT.later bw) (can_prim gf).2,
     fun γ w' _ _ => v5Shift (IsF.can f1) (by decide) (IsQ.can f3) (by decide) w' (prim_flat gf),
     ⟨rfl, rfl, eqv_yes (eqL_F (shiftF (prim p) t) (shiftF (prim p) t)) (rfl) rfl⟩,
     rfl,
     fun γ w' _ _ => plSide f1 (by decide) f4 (by decide) w',
     congrArg (fun z => some (Value.bool z)) (by rw [side_lift (prim_flat gf)]; rfl : ((sideF (prim p) (liftF (prim p) x)) != (0 : Int)) = false),
     rfl,
     fun γ w' bw _ => plProject f1 (by decide) f4 (by decide) w' (hT.later bw) (can_prim gf).2,
     ⟨rfl, rfl, eqv_yes (eqL_P (liftF (prim p) (liftF (prim p) x)) (liftF (prim p) x)) (lift_lift _) rfl⟩,
     rfl,
     fun γ w' _ _ => p4Coords (IsP.can f2) (by decide) w',
     fun γ w' _ _ => p4Coords (IsP.can f4) (by decide) w',
     congrArg (fun z => some (Value.bool z)) (by first | rfl | assumption | decide | simp [*] : ((0 : Int) != (2 : Int)) = true),
     rfl,
     ⟨rfl, rfl, eqv_yes (eqL_Q x.x (liftF (prim p) x).x) ((lift_x (by rw [ha]; decide) _).symm) rfl⟩,
     rfl,
     congrArg (fun z => some (Value.bool z)) (by first | rfl | assumption | decide | simp [*] : ((1 : Int) != (2 : Int)) = true),
     rfl,
     ⟨rfl, rfl, eqv_yes (eqL_Q x.y (liftF (prim p) x).y) ((lift_y (by rw [ha]; decide) _).symm) rfl⟩,
     rfl,
     congrArg (fun z => some (Value.bool z)) (by first | rfl | assumption | decide | simp [*] : ((2 : Int) != (2 : Int)) = false),
     rfl⟩
theorem PlaneProjection_any (p_0 : Bool) (p_1 : ByteArray) (p_2 : Bool) (p_3 : ByteArray) (p_4 : Bool) (p_5 : ByteArray) (p_6 : Bool) (p_7 : ByteArray) (x_0 : Bool) (x_1 : ByteArray) (x_2 : Bool) (x_3 : ByteArray) (x_4 : Bool) (x_5 : ByteArray) (x_6 : Bool) (x_7 : ByteArray) (t_0 : Bool) (t_1 : ByteArray) (t_2 : ByteArray) (w : World) (hT : TabC w) :
    Calls Tryz.prog 6 #[.agg #[.bool p_0, .string p_1, .bool p_2, .string p_3, .bool p_4, .string p_5, .bool p_6, .string p_7], .agg #[.bool x_0, .string x_1, .bool x_2, .string x_3, .bool x_4, .string x_5, .bool x_6, .string x_7], .agg #[.bool t_0, .string t_1, .string t_2]] w fun e w' => e = .returned (.bool true) ∧ Below w.heap.size w w' := by
  by_cases g : x_1.size ≤ 6 ∧ x_3.size ≤ 6 ∧ x_5.size ≤ 6 ∧ x_7.size ≤ 6
  rotate_left
  · exact Projection_x p_0 p_1 p_2 p_3 p_4 p_5 p_6 p_7 x_0 x_1 x_2 x_3 x_4 x_5 x_6 x_7 t_0 t_1 t_2 w hT  g
  obtain ⟨hx_1, hx_3, hx_5, hx_7⟩ := g
  by_cases g : p_1.size ≤ 6 ∧ p_3.size ≤ 6 ∧ p_5.size ≤ 6 ∧ p_7.size ≤ 6
  rotate_left
  · exact Projection_p p_0 p_1 p_2 p_3 p_4 p_5 p_6 p_7 x_0 x_1 x_2 x_3 x_4 x_5 x_6 x_7 t_0 t_1 t_2 w hT hx_1 hx_3 hx_5 hx_7 g
  obtain ⟨hp_1, hp_3, hp_5, hp_7⟩ := g
  by_cases g : t_1.size ≤ 6 ∧ t_2.size ≤ 6
  rotate_left
  · exact Projection_t p_0 p_1 p_2 p_3 p_4 p_5 p_6 p_7 x_0 x_1 x_2 x_3 x_4 x_5 x_6 x_7 t_0 t_1 t_2 w hT hx_1 hx_3 hx_5 hx_7 hp_1 hp_3 hp_5 hp_7 g
  obtain ⟨ht_1, ht_2⟩ := g
  by_cases gf : flatF (Z4.mk (iv p_0 p_1) (iv p_2 p_3) (iv p_4 p_5) (iv p_6 p_7))
  · exact Projection_f p_0 p_1 p_2 p_3 p_4 p_5 p_6 p_7 x_0 x_1 x_2 x_3 x_4 x_5 x_6 x_7 t_0 t_1 t_2 w hT hx_1 hx_3 hx_5 hx_7 hp_1 hp_3 hp_5 hp_7 ht_1 ht_2 gf
  have hl := axisF_lt (prim (Z4.mk (iv p_0 p_1) (iv p_2 p_3) (iv p_4 p_5) (iv p_6 p_7)))
  by_cases h0 : axisF (prim (Z4.mk (iv p_0 p_1) (iv p_2 p_3) (iv p_4 p_5) (iv p_6 p_7))) = 0
  · exact Projection_0 p_0 p_1 p_2 p_3 p_4 p_5 p_6 p_7 x_0 x_1 x_2 x_3 x_4 x_5 x_6 x_7 t_0 t_1 t_2 w hT hx_1 hx_3 hx_5 hx_7 hp_1 hp_3 hp_5 hp_7 ht_1 ht_2 gf h0
  by_cases h1 : axisF (prim (Z4.mk (iv p_0 p_1) (iv p_2 p_3) (iv p_4 p_5) (iv p_6 p_7))) = 1
  · exact Projection_1 p_0 p_1 p_2 p_3 p_4 p_5 p_6 p_7 x_0 x_1 x_2 x_3 x_4 x_5 x_6 x_7 t_0 t_1 t_2 w hT hx_1 hx_3 hx_5 hx_7 hp_1 hp_3 hp_5 hp_7 ht_1 ht_2 gf h1
  · exact Projection_2 p_0 p_1 p_2 p_3 p_4 p_5 p_6 p_7 x_0 x_1 x_2 x_3 x_4 x_5 x_6 x_7 t_0 t_1 t_2 w hT hx_1 hx_3 hx_5 hx_7 hp_1 hp_3 hp_5 hp_7 ht_1 ht_2 gf (by omega)
end Go.Proofs.YtpmfaommooneiaaGreatDoor
