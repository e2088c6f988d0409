/- The law PlaneScaling. -/
import Derived.Test.YtpmfaommooneiaaDoorVe
import Derived.Test.YtpmfaommooneiaaDoorVg
import Derived.Test.YtpmfaommooneiaaDoorVr
set_option linter.unusedVariables false
set_option linter.unusedSimpArgs false
namespace Go.Proofs.YtpmfaommooneiaaDoor
open Go.RowKit NM SX
theorem wrap8 {k : Int} (l : -128 ≤ k) (u : k ≤ 127) : k = IntKind.wrap .i64 k := by rw [IntKind.wrap_i64]; omega
set_option maxRecDepth 100000 in
theorem Scaling_p (p_0 : Bool) (p_1 : ByteArray) (p_2 : Bool) (p_3 : ByteArray) (p_4 : Bool) (p_5 : ByteArray) (p_6 : Bool) (p_7 : ByteArray) (k : Int) (w : World) (hT : TabC w) (l : -128 ≤ k) (u : k ≤ 127) (h : ¬ (p_1.size ≤ 6 ∧ p_3.size ≤ 6 ∧ p_5.size ≤ 6 ∧ p_7.size ≤ 6)) :
    Calls Tryd.prog 3 #[.agg #[.bool p_0, .string p_1, .bool p_2, .string p_3, .bool p_4, .string p_5, .bool p_6, .string p_7], .int .i8 k] w fun e w' => e = .returned (.bool true) ∧ Below w.heap.size w w' := by
  exact SX.run (w := w) [.bool p_0, .string p_1, .bool p_2, .string p_3, .bool p_4, .string p_5, .bool p_6, .string p_7, .int .i8 k, .bool true, .bool false, .bool true] [.b false, .b true] [.ga 0 8, .ca 8] 9 (.one (.c (.p (.lit (.bool true))))) [.call 4 [] (.one (.ca 9)) [], .op1 .not (.pa 9) 10, .isB 10 false, .call 5 [.ga 0 8, .c (.p (.slc 1 0 1 1))] (.one (.ca 11)) [(1025, .p (.lit (.bool false))), (1026, .p (.lit (.string ⟨#[]⟩))), (1027, .p (.lit (.bool false))), (1028, .p (.lit (.string ⟨#[]⟩))), (1029, .p (.lit (.bool false))), (1030, .p (.lit (.string ⟨#[]⟩))), (1031, .p (.lit (.bool false))), (1032, .p (.lit (.string ⟨#[]⟩)))], .isB 11 true] Tryd.func3 (by kernel_rfl) rfl (by kernel_rfl) rfl (by kernel_rfl)
    ⟨fun γ w' bw _ => alive5_any w' (hT.later bw),
     congrArg (fun z => some (Value.bool z)) (by first | rfl | assumption | decide | simp [*] : (!true) = false),
     rfl,
     fun γ w' _ hm => great5_1_p p_0 p_1 p_2 p_3 p_4 p_5 p_6 p_7 false ⟨#[]⟩ false ⟨#[]⟩ false ⟨#[]⟩ false ⟨#[]⟩ w' (γ 1) (SX.mem_at (b := 1) (l := [.p (.lit (.bool false)), .p (.lit (.string ⟨#[]⟩)), .p (.lit (.bool false)), .p (.lit (.string ⟨#[]⟩)), .p (.lit (.bool false)), .p (.lit (.string ⟨#[]⟩)), .p (.lit (.bool false)), .p (.lit (.string ⟨#[]⟩))]) hm rfl) (by decide) (by decide) (by decide) (by decide) h,
     rfl⟩
set_option maxRecDepth 100000 in
theorem Scaling_0 (p_0 : Bool) (p_1 : ByteArray) (p_2 : Bool) (p_3 : ByteArray) (p_4 : Bool) (p_5 : ByteArray) (p_6 : Bool) (p_7 : ByteArray) (k : Int) (w : World) (hT : TabC w) (l : -128 ≤ k) (u : k ≤ 127) (hp_1 : p_1.size ≤ 6) (hp_3 : p_3.size ≤ 6) (hp_5 : p_5.size ≤ 6) (hp_7 : p_7.size ≤ 6) (hk : k = 0) :
    Calls Tryd.prog 3 #[.agg #[.bool p_0, .string p_1, .bool p_2, .string p_3, .bool p_4, .string p_5, .bool p_6, .string p_7], .int .i8 k] w fun e w' => e = .returned (.bool true) ∧ Below w.heap.size w w' := by
  obtain ⟨p, hp⟩ : ∃ q, IsF (.agg #[.bool p_0, .string p_1, .bool p_2, .string p_3, .bool p_4, .string p_5, .bool p_6, .string p_7]) q 6 := ⟨⟨_, _, _, _⟩, _, _, _, _, _, _, _, _, rfl, rfl, hp_1, rfl, hp_3, rfl, hp_5, rfl, hp_7⟩
  have zp := hp.sz
  exact SX.run (w := w) [.bool p_0, .string p_1, .bool p_2, .string p_3, .bool p_4, .string p_5, .bool p_6, .string p_7, .int .i8 k, .bool true, .bool false, .bool false, .bool true] [.b false, .b false, .b true] [.ga 0 8, .ca 8] 9 (.one (.c (.p (.lit (.bool true))))) [.call 4 [] (.one (.ca 9)) [], .op1 .not (.pa 9) 10, .isB 10 false, .call 5 [.ga 0 8, .c (.p (.slc 1 0 1 1))] (.one (.ca 11)) [(1025, .p (.lit (.bool false))), (1026, .p (.lit (.string ⟨#[]⟩))), (1027, .p (.lit (.bool false))), (1028, .p (.lit (.string ⟨#[]⟩))), (1029, .p (.lit (.bool false))), (1030, .p (.lit (.string ⟨#[]⟩))), (1031, .p (.lit (.bool false))), (1032, .p (.lit (.string ⟨#[]⟩)))], .isB 11 false, .op2 false .eql (.pa 8) (.p (.lit (.int .i8 0))) 12, .isB 12 true] Tryd.func3 (by kernel_rfl) rfl (by kernel_rfl) rfl (by kernel_rfl)
    ⟨fun γ w' bw _ => alive5_any w' (hT.later bw),
     congrArg (fun z => some (Value.bool z)) (by first | rfl | assumption | decide | simp [*] : (!true) = false),
     rfl,
     fun γ w' _ hm => great5_1_no p_0 p_1 p_2 p_3 p_4 p_5 p_6 p_7 false ⟨#[]⟩ false ⟨#[]⟩ false ⟨#[]⟩ false ⟨#[]⟩ w' (γ 1) (SX.mem_at (b := 1) (l := [.p (.lit (.bool false)), .p (.lit (.string ⟨#[]⟩)), .p (.lit (.bool false)), .p (.lit (.string ⟨#[]⟩)), .p (.lit (.bool false)), .p (.lit (.string ⟨#[]⟩)), .p (.lit (.bool false)), .p (.lit (.string ⟨#[]⟩))]) hm rfl) (by decide) (by decide) (by decide) (by decide) hp_1 hp_3 hp_5 hp_7,
     rfl,
     congrArg (fun z => some (Value.bool z)) (beq_iff_eq.2 hk : (k == (0 : Int)) = true),
     rfl⟩
set_option maxRecDepth 100000 in
theorem Scaling_f (p_0 : Bool) (p_1 : ByteArray) (p_2 : Bool) (p_3 : ByteArray) (p_4 : Bool) (p_5 : ByteArray) (p_6 : Bool) (p_7 : ByteArray) (k : Int) (w : World) (hT : TabC w) (l : -128 ≤ k) (u : k ≤ 127) (hp_1 : p_1.size ≤ 6) (hp_3 : p_3.size ≤ 6) (hp_5 : p_5.size ≤ 6) (hp_7 : p_7.size ≤ 6) (hk : k ≠ 0) (gf : flatF (Z4.mk (iv p_0 p_1) (iv p_2 p_3) (iv p_4 p_5) (iv p_6 p_7))) :
    Calls Tryd.prog 3 #[.agg #[.bool p_0, .string p_1, .bool p_2, .string p_3, .bool p_4, .string p_5, .bool p_6, .string p_7], .int .i8 k] w fun e w' => e = .returned (.bool true) ∧ Below w.heap.size w w' := by
  obtain ⟨p, hp, rp⟩ : ∃ q, IsF (.agg #[.bool p_0, .string p_1, .bool p_2, .string p_3, .bool p_4, .string p_5, .bool p_6, .string p_7]) q 6 ∧ q = ⟨iv p_0 p_1, iv p_2 p_3, iv p_4 p_5, iv p_6 p_7⟩ := ⟨⟨_, _, _, _⟩, ⟨_, _, _, _, _, _, _, _, rfl, rfl, hp_1, rfl, hp_3, rfl, hp_5, rfl, hp_7⟩, rfl⟩
  have zp := hp.sz
  rw [← rp] at gf
  have f1 : Zk (k : Int) 8 := mg_size_le (k := 8) (by first | decide | omega)
  have f2 : Zk (p.a * (k : Int)) 14 := Zk.up (mg_mul_size zp.1 f1) (by decide)
  have f3 : Zk (p.b * (k : Int)) 14 := Zk.up (mg_mul_size zp.2.1 f1) (by decide)
  have f4 : Zk (p.c * (k : Int)) 14 := Zk.up (mg_mul_size zp.2.2.1 f1) (by decide)
  have f5 : Zk (p.d * (k : Int)) 14 := Zk.up (mg_mul_size zp.2.2.2 f1) (by decide)
  exact SX.run (w := w) (List.flatten [[.bool p_0, .string p_1, .bool p_2, .string p_3, .bool p_4, .string p_5, .bool p_6, .string p_7, .int .i8 k, .bool true, .bool false, .bool false, .bool false, .int .i64 k], zc (k : Int), zc (p.a * (k : Int)), zc (p.b * (k : Int)), zc (p.c * (k : Int)), zc (p.d * (k : Int)), [.bool false, .string ⟨#[]⟩, .bool false, .string ⟨#[]⟩, .bool false, .string ⟨#[]⟩, .bool false, .string ⟨#[]⟩, .bool false, .bool false, .string ⟨#[]⟩, .bool false, .string ⟨#[]⟩, .bool false, .string ⟨#[]⟩, .bool false, .string ⟨#[]⟩, .bool false, .bool true, .bool true]]) [.b false, .b false, .b false, .b true] [.ga 0 8, .ca 8] 9 (.one (.ca 43)) [.call 4 [] (.one (.ca 9)) [], .op1 .not (.pa 9) 10, .isB 10 false, .call 5 [.ga 0 8, .c (.p (.slc 1 0 1 1))] (.one (.ca 11)) [(1025, .p (.lit (.bool false))), (1026, .p (.lit (.string ⟨#[]⟩))), (1027, .p (.lit (.bool false))), (1028, .p (.lit (.string ⟨#[]⟩))), (1029, .p (.lit (.bool false))), (1030, .p (.lit (.string ⟨#[]⟩))), (1031, .p (.lit (.bool false))), (1032, .p (.lit (.string ⟨#[]⟩)))], .isB 11 false, .op2 false .eql (.pa 8) (.p (.lit (.int .i8 0))) 12, .isB 12 false, .cvt .i64 (.pa 8) 13, .call 6 [.ca 13] (.one (.ga 14 2)) [], .call 7 [.ga 0 2, .ga 14 2] (.one (.ga 16 2)) [], .call 7 [.ga 2 2, .ga 14 2] (.one (.ga 18 2)) [], .call 7 [.ga 4 2, .ga 14 2] (.one (.ga 20 2)) [], .call 7 [.ga 6 2, .ga 14 2] (.one (.ga 22 2)) [], .call 8 [.ga 0 8] (.tup [.ga 24 8, .ca 32]) [], .call 8 [.ga 16 8] (.tup [.ga 33 8, .ca 41]) [], .op1 .not (.pa 32) 42, .isB 42 true, .op2 true .eql (.pa 32) (.pa 41) 43] Tryd.func3 (by kernel_rfl) rfl (by kernel_rfl) rfl (by kernel_rfl)
    ⟨fun γ w' bw _ => alive5_any w' (hT.later bw),
     congrArg (fun z => some (Value.bool z)) (by first | rfl | assumption | decide | simp [*] : (!true) = false),
     rfl,
     fun γ w' _ hm => great5_1_no p_0 p_1 p_2 p_3 p_4 p_5 p_6 p_7 false ⟨#[]⟩ false ⟨#[]⟩ false ⟨#[]⟩ false ⟨#[]⟩ w' (γ 1) (SX.mem_at (b := 1) (l := [.p (.lit (.bool false)), .p (.lit (.string ⟨#[]⟩)), .p (.lit (.bool false)), .p (.lit (.string ⟨#[]⟩)), .p (.lit (.bool false)), .p (.lit (.string ⟨#[]⟩)), .p (.lit (.bool false)), .p (.lit (.string ⟨#[]⟩))]) hm rfl) (by decide) (by decide) (by decide) (by decide) hp_1 hp_3 hp_5 hp_7,
     rfl,
     congrArg (fun z => some (Value.bool z)) (beq_eq_false_iff_ne.2 hk : (k == (0 : Int)) = false),
     rfl,
     ⟨_, _, rfl, congrArg (Value.int .i64) (wrap8 l u : k = IntKind.wrap .i64 k)⟩,
     fun γ w' _ _ => From_any k w' (by first | decide | omega) (by first | decide | omega),
     fun γ w' _ _ => jMul hp.za (by decide) (IsZ.can f1) (by decide) w',
     fun γ w' _ _ => jMul hp.zb (by decide) (IsZ.can f1) (by decide) w',
     fun γ w' _ _ => jMul hp.zc (by decide) (IsZ.can f1) (by decide) w',
     fun γ w' _ _ => jMul hp.zd (by decide) (IsZ.can f1) (by decide) w',
     fun γ w' bw _ => by have h := plNormalize_any hp (by decide) w' (hT.later bw); rw [normV, if_pos gf] at h; exact h,
     fun γ w' bw _ => by have h := plNormalize_any (IsF.mk (IsZ.can f2) (IsZ.can f3) (IsZ.can f4) (IsZ.can f5)) (by decide) w' (hT.later bw); rw [normV, if_pos ((flat_factor hk).2 gf)] at h; exact h,
     congrArg (fun z => some (Value.bool z)) (by first | rfl | assumption | decide | simp [*] : (!false) = true),
     rfl,
     congrArg (fun z => some (Value.bool z)) (by first | rfl | assumption | decide | simp [*] : (false == false) = true)⟩
set_option maxRecDepth 100000 in
theorem Scaling_a (p_0 : Bool) (p_1 : ByteArray) (p_2 : Bool) (p_3 : ByteArray) (p_4 : Bool) (p_5 : ByteArray) (p_6 : Bool) (p_7 : ByteArray) (k : Int) (w : World) (hT : TabC w) (l : -128 ≤ k) (u : k ≤ 127) (hp_1 : p_1.size ≤ 6) (hp_3 : p_3.size ≤ 6) (hp_5 : p_5.size ≤ 6) (hp_7 : p_7.size ≤ 6) (hk : k ≠ 0) (gf : ¬ flatF (Z4.mk (iv p_0 p_1) (iv p_2 p_3) (iv p_4 p_5) (iv p_6 p_7))) (hs : 0 < k) :
    Calls Tryd.prog 3 #[.agg #[.bool p_0, .string p_1, .bool p_2, .string p_3, .bool p_4, .string p_5, .bool p_6, .string p_7], .int .i8 k] w fun e w' => e = .returned (.bool true) ∧ Below w.heap.size w w' := by
  obtain ⟨p, hp, rp⟩ : ∃ q, IsF (.agg #[.bool p_0, .string p_1, .bool p_2, .string p_3, .bool p_4, .string p_5, .bool p_6, .string p_7]) q 6 ∧ q = ⟨iv p_0 p_1, iv p_2 p_3, iv p_4 p_5, iv p_6 p_7⟩ := ⟨⟨_, _, _, _⟩, ⟨_, _, _, _, _, _, _, _, rfl, rfl, hp_1, rfl, hp_3, rfl, hp_5, rfl, hp_7⟩, rfl⟩
  have zp := hp.sz
  rw [← rp] at gf
  have f1 : Zk (k : Int) 8 := mg_size_le (k := 8) (by first | decide | omega)
  have f2 : Zk (p.a * (k : Int)) 14 := Zk.up (mg_mul_size zp.1 f1) (by decide)
  have f3 : Zk (p.b * (k : Int)) 14 := Zk.up (mg_mul_size zp.2.1 f1) (by decide)
  have f4 : Zk (p.c * (k : Int)) 14 := Zk.up (mg_mul_size zp.2.2.1 f1) (by decide)
  have f5 : Zk (p.d * (k : Int)) 14 := Zk.up (mg_mul_size zp.2.2.2 f1) (by decide)
  have f6 : Fk (prim p) 6 := Fk.up ((Fk.prim zp)) (by decide)
  exact SX.run (w := w) (List.flatten [[.bool p_0, .string p_1, .bool p_2, .string p_3, .bool p_4, .string p_5, .bool p_6, .string p_7, .int .i8 k, .bool true, .bool false, .bool false, .bool false, .int .i64 k], zc (k : Int), zc (p.a * (k : Int)), zc (p.b * (k : Int)), zc (p.c * (k : Int)), zc (p.d * (k : Int)), fc (prim p), [.bool true], fc (prim p), [.bool true, .bool false, .bool false, .bool false, .bool true]]) [.b false, .b false, .b false, .b false, .b false, .b false] [.ga 0 8, .ca 8] 9 (.one (.ca 45)) [.call 4 [] (.one (.ca 9)) [], .op1 .not (.pa 9) 10, .isB 10 false, .call 5 [.ga 0 8, .c (.p (.slc 1 0 1 1))] (.one (.ca 11)) [(1025, .p (.lit (.bool false))), (1026, .p (.lit (.string ⟨#[]⟩))), (1027, .p (.lit (.bool false))), (1028, .p (.lit (.string ⟨#[]⟩))), (1029, .p (.lit (.bool false))), (1030, .p (.lit (.string ⟨#[]⟩))), (1031, .p (.lit (.bool false))), (1032, .p (.lit (.string ⟨#[]⟩)))], .isB 11 false, .op2 false .eql (.pa 8) (.p (.lit (.int .i8 0))) 12, .isB 12 false, .cvt .i64 (.pa 8) 13, .call 6 [.ca 13] (.one (.ga 14 2)) [], .call 7 [.ga 0 2, .ga 14 2] (.one (.ga 16 2)) [], .call 7 [.ga 2 2, .ga 14 2] (.one (.ga 18 2)) [], .call 7 [.ga 4 2, .ga 14 2] (.one (.ga 20 2)) [], .call 7 [.ga 6 2, .ga 14 2] (.one (.ga 22 2)) [], .call 8 [.ga 0 8] (.tup [.ga 24 8, .ca 32]) [], .call 8 [.ga 16 8] (.tup [.ga 33 8, .ca 41]) [], .op1 .not (.pa 32) 42, .isB 42 false, .op1 .not (.pa 41) 43, .isB 43 false, .op2 false .lss (.pa 8) (.p (.lit (.int .i8 0))) 44, .isB 44 false, .eqs false [.b, .s, .b, .s, .b, .s, .b, .s] [.pa 33, .pa 34, .pa 35, .pa 36, .pa 37, .pa 38, .pa 39, .pa 40] [.pa 24, .pa 25, .pa 26, .pa 27, .pa 28, .pa 29, .pa 30, .pa 31] 45] Tryd.func3 (by kernel_rfl) rfl (by kernel_rfl) rfl (by kernel_rfl)
    ⟨fun γ w' bw _ => alive5_any w' (hT.later bw),
     congrArg (fun z => some (Value.bool z)) (by first | rfl | assumption | decide | simp [*] : (!true) = false),
     rfl,
     fun γ w' _ hm => great5_1_no p_0 p_1 p_2 p_3 p_4 p_5 p_6 p_7 false ⟨#[]⟩ false ⟨#[]⟩ false ⟨#[]⟩ false ⟨#[]⟩ w' (γ 1) (SX.mem_at (b := 1) (l := [.p (.lit (.bool false)), .p (.lit (.string ⟨#[]⟩)), .p (.lit (.bool false)), .p (.lit (.string ⟨#[]⟩)), .p (.lit (.bool false)), .p (.lit (.string ⟨#[]⟩)), .p (.lit (.bool false)), .p (.lit (.string ⟨#[]⟩))]) hm rfl) (by decide) (by decide) (by decide) (by decide) hp_1 hp_3 hp_5 hp_7,
     rfl,
     congrArg (fun z => some (Value.bool z)) (beq_eq_false_iff_ne.2 hk : (k == (0 : Int)) = false),
     rfl,
     ⟨_, _, rfl, congrArg (Value.int .i64) (wrap8 l u : k = IntKind.wrap .i64 k)⟩,
     fun γ w' _ _ => From_any k w' (by first | decide | omega) (by first | decide | omega),
     fun γ w' _ _ => jMul hp.za (by decide) (IsZ.can f1) (by decide) w',
     fun γ w' _ _ => jMul hp.zb (by decide) (IsZ.can f1) (by decide) w',
     fun γ w' _ _ => jMul hp.zc (by decide) (IsZ.can f1) (by decide) w',
     fun γ w' _ _ => jMul hp.zd (by decide) (IsZ.can f1) (by decide) w',
     fun γ w' bw _ => by have h := plNormalize_any hp (by decide) w' (hT.later bw); rw [normV, if_neg gf] at h; exact h,
     fun γ w' bw _ => by have h := plNormalize_any (IsF.mk (IsZ.can f2) (IsZ.can f3) (IsZ.can f4) (IsZ.can f5)) (by decide) w' (hT.later bw); rw [normV, if_neg (fun e => gf ((flat_factor hk).1 e)), prim_factor hs] at h; exact h,
     congrArg (fun z => some (Value.bool z)) (by first | rfl | assumption | decide | simp [*] : (!true) = false),
     rfl,
     congrArg (fun z => some (Value.bool z)) (by first | rfl | assumption | decide | simp [*] : (!true) = false),
     rfl,
     congrArg (fun z => some (Value.bool z)) (decide_eq_false (by omega) : decide (k < (0 : Int)) = false),
     rfl,
     ⟨rfl, rfl, eqv_yes (eqL_F (prim p) (prim p)) (rfl) rfl⟩⟩
set_option maxRecDepth 100000 in
theorem Scaling_b (p_0 : Bool) (p_1 : ByteArray) (p_2 : Bool) (p_3 : ByteArray) (p_4 : Bool) (p_5 : ByteArray) (p_6 : Bool) (p_7 : ByteArray) (k : Int) (w : World) (hT : TabC w) (l : -128 ≤ k) (u : k ≤ 127) (hp_1 : p_1.size ≤ 6) (hp_3 : p_3.size ≤ 6) (hp_5 : p_5.size ≤ 6) (hp_7 : p_7.size ≤ 6) (hk : k ≠ 0) (gf : ¬ flatF (Z4.mk (iv p_0 p_1) (iv p_2 p_3) (iv p_4 p_5) (iv p_6 p_7))) (hs : k < 0) :
    Calls Tryd.prog 3 #[.agg #[.bool p_0, .string p_1, .bool p_2, .string p_3, .bool p_4, .string p_5, .bool p_6, .string p_7], .int .i8 k] w fun e w' => e = .returned (.bool true) ∧ Below w.heap.size w w' := by
  obtain ⟨p, hp, rp⟩ : ∃ q, IsF (.agg #[.bool p_0, .string p_1, .bool p_2, .string p_3, .bool p_4, .string p_5, .bool p_6, .string p_7]) q 6 ∧ q = ⟨iv p_0 p_1, iv p_2 p_3, iv p_4 p_5, iv p_6 p_7⟩ := ⟨⟨_, _, _, _⟩, ⟨_, _, _, _, _, _, _, _, rfl, rfl, hp_1, rfl, hp_3, rfl, hp_5, rfl, hp_7⟩, rfl⟩
  have zp := hp.sz
  rw [← rp] at gf
  have f1 : Zk (k : Int) 8 := mg_size_le (k := 8) (by first | decide | omega)
  have f2 : Zk (p.a * (k : Int)) 14 := Zk.up (mg_mul_size zp.1 f1) (by decide)
  have f3 : Zk (p.b * (k : Int)) 14 := Zk.up (mg_mul_size zp.2.1 f1) (by decide)
  have f4 : Zk (p.c * (k : Int)) 14 := Zk.up (mg_mul_size zp.2.2.1 f1) (by decide)
  have f5 : Zk (p.d * (k : Int)) 14 := Zk.up (mg_mul_size zp.2.2.2 f1) (by decide)
  have f6 : Fk (prim p) 6 := Fk.up ((Fk.prim zp)) (by decide)
  have f7 : Fk (negF (prim p)) 14 := Fk.up ((Fk.neg (Fk.prim zp))) (by decide)
  have f8 : Fk (negF (negF (prim p))) 14 := Fk.up ((Fk.neg f7)) (by decide)
  exact SX.run (w := w) (List.flatten [[.bool p_0, .string p_1, .bool p_2, .string p_3, .bool p_4, .string p_5, .bool p_6, .string p_7, .int .i8 k, .bool true, .bool false, .bool false, .bool false, .int .i64 k], zc (k : Int), zc (p.a * (k : Int)), zc (p.b * (k : Int)), zc (p.c * (k : Int)), zc (p.d * (k : Int)), fc (prim p), [.bool true], fc (negF (prim p)), [.bool true, .bool false, .bool false, .bool true], fc (negF (negF (prim p))), [.bool true]]) [.b false, .b false, .b false, .b false, .b false, .b true] [.ga 0 8, .ca 8] 9 (.one (.ca 53)) [.call 4 [] (.one (.ca 9)) [], .op1 .not (.pa 9) 10, .isB 10 false, .call 5 [.ga 0 8, .c (.p (.slc 1 0 1 1))] (.one (.ca 11)) [(1025, .p (.lit (.bool false))), (1026, .p (.lit (.string ⟨#[]⟩))), (1027, .p (.lit (.bool false))), (1028, .p (.lit (.string ⟨#[]⟩))), (1029, .p (.lit (.bool false))), (1030, .p (.lit (.string ⟨#[]⟩))), (1031, .p (.lit (.bool false))), (1032, .p (.lit (.string ⟨#[]⟩)))], .isB 11 false, .op2 false .eql (.pa 8) (.p (.lit (.int .i8 0))) 12, .isB 12 false, .cvt .i64 (.pa 8) 13, .call 6 [.ca 13] (.one (.ga 14 2)) [], .call 7 [.ga 0 2, .ga 14 2] (.one (.ga 16 2)) [], .call 7 [.ga 2 2, .ga 14 2] (.one (.ga 18 2)) [], .call 7 [.ga 4 2, .ga 14 2] (.one (.ga 20 2)) [], .call 7 [.ga 6 2, .ga 14 2] (.one (.ga 22 2)) [], .call 8 [.ga 0 8] (.tup [.ga 24 8, .ca 32]) [], .call 8 [.ga 16 8] (.tup [.ga 33 8, .ca 41]) [], .op1 .not (.pa 32) 42, .isB 42 false, .op1 .not (.pa 41) 43, .isB 43 false, .op2 false .lss (.pa 8) (.p (.lit (.int .i8 0))) 44, .isB 44 true, .call 9 [.ga 33 8] (.one (.ga 45 8)) [], .eqs false [.b, .s, .b, .s, .b, .s, .b, .s] [.pa 45, .pa 46, .pa 47, .pa 48, .pa 49, .pa 50, .pa 51, .pa 52] [.pa 24, .pa 25, .pa 26, .pa 27, .pa 28, .pa 29, .pa 30, .pa 31] 53] Tryd.func3 (by kernel_rfl) rfl (by kernel_rfl) rfl (by kernel_rfl)
    ⟨fun γ w' bw _ => alive5_any w' (hT.later bw),
     congrArg (fun z => some (Value.bool z)) (by first | rfl | assumption | decide | simp [*] : (!true) = false),
     rfl,
     fun γ w' _ hm => great5_1_no p_0 p_1 p_2 p_3 p_4 p_5 p_6 p_7 false ⟨#[]⟩ false ⟨#[]⟩ false ⟨#[]⟩ false ⟨#[]⟩ w' (γ 1) (SX.mem_at (b := 1) (l := [.p (.lit (.bool false)), .p (.lit (.string ⟨#[]⟩)), .p (.lit (.bool false)), .p (.lit (.string ⟨#[]⟩)), .p (.lit (.bool false)), .p (.lit (.string ⟨#[]⟩)), .p (.lit (.bool false)), .p (.lit (.string ⟨#[]⟩))]) hm rfl) (by decide) (by decide) (by decide) (by decide) hp_1 hp_3 hp_5 hp_7,
     rfl,
     congrArg (fun z => some (Value.bool z)) (beq_eq_false_iff_ne.2 hk : (k == (0 : Int)) = false),
     rfl,
     ⟨_, _, rfl, congrArg (Value.int .i64) (wrap8 l u : k = IntKind.wrap .i64 k)⟩,
     fun γ w' _ _ => From_any k w' (by first | decide | omega) (by first | decide | omega),
     fun γ w' _ _ => jMul hp.za (by decide) (IsZ.can f1) (by decide) w',
     fun γ w' _ _ => jMul hp.zb (by decide) (IsZ.can f1) (by decide) w',
     fun γ w' _ _ => jMul hp.zc (by decide) (IsZ.can f1) (by decide) w',
     fun γ w' _ _ => jMul hp.zd (by decide) (IsZ.can f1) (by decide) w',
     fun γ w' bw _ => by have h := plNormalize_any hp (by decide) w' (hT.later bw); rw [normV, if_neg gf] at h; exact h,
     fun γ w' bw _ => by have h := plNormalize_any (IsF.mk (IsZ.can f2) (IsZ.can f3) (IsZ.can f4) (IsZ.can f5)) (by decide) w' (hT.later bw); rw [normV, if_neg (fun e => gf ((flat_factor hk).1 e)), prim_factor_neg hs] at h; exact h,
     congrArg (fun z => some (Value.bool z)) (by first | rfl | assumption | decide | simp [*] : (!true) = false),
     rfl,
     congrArg (fun z => some (Value.bool z)) (by first | rfl | assumption | decide | simp [*] : (!true) = false),
     rfl,
     congrArg (fun z => some (Value.bool z)) (decide_eq_true hs : decide (k < (0 : Int)) = true),
     rfl,
     fun γ w' _ _ => plFlip f7 (by decide) w',
     ⟨rfl, rfl, eqv_yes (eqL_F (negF (negF (prim p))) (prim p)) (negF_negF _) rfl⟩⟩
theorem PlaneScaling_any (p_0 : Bool) (p_1 : ByteArray) (p_2 : Bool) (p_3 : ByteArray) (p_4 : Bool) (p_5 : ByteArray) (p_6 : Bool) (p_7 : ByteArray) (k : Int) (w : World) (hT : TabC w) (l : -128 ≤ k) (u : k ≤ 127) :
    Calls Tryd.prog 3 #[.agg #[.bool p_0, .string p_1, .bool p_2, .string p_3, .bool p_4, .string p_5, .bool p_6, .string p_7], .int .i8 k] w fun e w' => e = .returned (.bool true) ∧ Below w.heap.size w w' := by
  by_cases g : p_1.size ≤ 6 ∧ p_3.size ≤ 6 ∧ p_5.size ≤ 6 ∧ p_7.size ≤ 6
  rotate_left
  · exact Scaling_p p_0 p_1 p_2 p_3 p_4 p_5 p_6 p_7 k w hT l u g
  obtain ⟨hp_1, hp_3, hp_5, hp_7⟩ := g
  by_cases hk : k = 0
  · exact Scaling_0 p_0 p_1 p_2 p_3 p_4 p_5 p_6 p_7 k w hT l u hp_1 hp_3 hp_5 hp_7 hk
  by_cases gf : flatF (Z4.mk (iv p_0 p_1) (iv p_2 p_3) (iv p_4 p_5) (iv p_6 p_7))
  · exact Scaling_f p_0 p_1 p_2 p_3 p_4 p_5 p_6 p_7 k w hT l u hp_1 hp_3 hp_5 hp_7 hk gf
  by_cases hs : k < 0
  · exact Scaling_b p_0 p_1 p_2 p_3 p_4 p_5 p_6 p_7 k w hT l u hp_1 hp_3 hp_5 hp_7 hk gf hs
  · exact Scaling_a p_0 p_1 p_2 p_3 p_4 p_5 p_6 p_7 k w hT l u hp_1 hp_3 hp_5 hp_7 hk gf (by omega)
end Go.Proofs.YtpmfaommooneiaaDoor
