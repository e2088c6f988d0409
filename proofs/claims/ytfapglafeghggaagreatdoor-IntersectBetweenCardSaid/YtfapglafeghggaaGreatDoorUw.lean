/- The law Between of layer 6. -/
import Derived.Test.YtfapglafeghggaaGreatDoorUe
import Derived.Test.YtfapglafeghggaaGreatDoorUg
import Derived.Test.YtfapglafeghggaaGreatDoorPd
set_option linter.unusedVariables false
set_option linter.unusedSimpArgs false
namespace Go.Proofs.YtfapglafeghggaaGreatDoor
open Go.RowKit NM SX
theorem ratio_in {n d : Int} (ln : 0 ≤ n) (ld : 0 ≤ d) : 0 < Rat.divInt (1 + n) (2 + n + d) ∧ Rat.divInt (1 + n) (2 + n + d) < 1 := by
  have h1 : (0 : Rat) < ((1 + n : Int) : Rat) := by exact_mod_cast (show (0 : Int) < 1 + n by omega)
  have h2 : (0 : Rat) < ((2 + n + d : Int) : Rat) := by exact_mod_cast (show (0 : Int) < 2 + n + d by omega)
  have h3 : ((1 + n : Int) : Rat) < ((2 + n + d : Int) : Rat) := by exact_mod_cast (show (1 + n : Int) < 2 + n + d by omega)
  rw [Rat.divInt_eq_div]
  generalize ((1 + n : Int) : Rat) = x at *
  generalize ((2 + n + d : Int) : Rat) = y at *
  refine ⟨div_pos' h1 h2, ?_⟩
  have h4 : 0 < (y - x) / y := div_pos' (by grind) h2
  have h5 : (y - x) / y = 1 - x / y := by grind
  rw [h5] at h4
  grind
set_option maxRecDepth 100000 in
theorem Between_g (a_0 : Bool) (a_1 : ByteArray) (a_2 : Bool) (a_3 : ByteArray) (a_4 : Bool) (a_5 : ByteArray) (a_6 : Bool) (a_7 : ByteArray) (b_0 : Bool) (b_1 : ByteArray) (b_2 : Bool) (b_3 : ByteArray) (b_4 : Bool) (b_5 : ByteArray) (b_6 : Bool) (b_7 : ByteArray) (n : Int) (d : Int) (w : World) (hT : TabC w) (ln : 0 ≤ n) (un : n ≤ 255) (ld : 0 ≤ d) (ud : d ≤ 255) (h : ¬ (a_1.size ≤ 6 ∧ a_3.size ≤ 6 ∧ a_5.size ≤ 6 ∧ a_7.size ≤ 6 ∧ b_1.size ≤ 6 ∧ b_3.size ≤ 6 ∧ b_5.size ≤ 6 ∧ b_7.size ≤ 6)) :
    Calls Tryz.prog 7 #[.agg #[.bool a_0, .string a_1, .bool a_2, .string a_3, .bool a_4, .string a_5, .bool a_6, .string a_7], .agg #[.bool b_0, .string b_1, .bool b_2, .string b_3, .bool b_4, .string b_5, .bool b_6, .string b_7], .agg #[.int .u8 n, .int .u8 d]] w fun e w' => e = .returned (.bool true) ∧ Below w.heap.size w w' := by
  exact SX.run (w := w) [.bool a_0, .string a_1, .bool a_2, .string a_3, .bool a_4, .string a_5, .bool a_6, .string a_7, .bool b_0, .string b_1, .bool b_2, .string b_3, .bool b_4, .string b_5, .bool b_6, .string b_7, .int .u8 n, .int .u8 d, .int .i64 1, .bool true, .bool true] [.b true] [.ga 0 8, .ga 8 8, .ga 16 2] 18 (.one (.ca 20)) [.call 13 [.c (.p (.slc 3 0 2 2))] (.one (.ca 18)) [(3073, .pa 0), (3074, .pa 1), (3075, .pa 2), (3076, .pa 3), (3077, .pa 4), (3078, .pa 5), (3079, .pa 6), (3080, .pa 7), (3081, .pa 8), (3082, .pa 9), (3083, .pa 10), (3084, .pa 11), (3085, .pa 12), (3086, .pa 13), (3087, .pa 14), (3088, .pa 15)], .op2 false .gtr (.pa 18) (.p (.lit (.int .i64 0))) 19, .isB 19 true, .call 9 [] (.one (.ca 20)) []] Tryz.func7 (by kernel_rfl) rfl (by kernel_rfl) rfl (by kernel_rfl)
    ⟨fun γ w' _ hm => by have h_ := Great6_any (some ⟨γ 3, 0, none⟩) [⟨a_0, a_1, a_2, a_3, a_4, a_5, a_6, a_7⟩, ⟨b_0, b_1, b_2, b_3, b_4, b_5, b_6, b_7⟩] 2 2 w' rfl (by simp) (RdP.of (SX.mem_at (b := 3) (l := [.pa 0, .pa 1, .pa 2, .pa 3, .pa 4, .pa 5, .pa 6, .pa 7, .pa 8, .pa 9, .pa 10, .pa 11, .pa 12, .pa 13, .pa 14, .pa 15]) hm rfl)); rw [greatI_yes (fun k => h ⟨(k ⟨a_0, a_1, a_2, a_3, a_4, a_5, a_6, a_7⟩ (by simp)).1, (k ⟨a_0, a_1, a_2, a_3, a_4, a_5, a_6, a_7⟩ (by simp)).2.1, (k ⟨a_0, a_1, a_2, a_3, a_4, a_5, a_6, a_7⟩ (by simp)).2.2.1, (k ⟨a_0, a_1, a_2, a_3, a_4, a_5, a_6, a_7⟩ (by simp)).2.2.2, (k ⟨b_0, b_1, b_2, b_3, b_4, b_5, b_6, b_7⟩ (by simp)).1, (k ⟨b_0, b_1, b_2, b_3, b_4, b_5, b_6, b_7⟩ (by simp)).2.1, (k ⟨b_0, b_1, b_2, b_3, b_4, b_5, b_6, b_7⟩ (by simp)).2.2.1, (k ⟨b_0, b_1, b_2, b_3, b_4, b_5, b_6, b_7⟩ (by simp)).2.2.2⟩)] at h_; exact h_,
     congrArg (fun z => some (Value.bool z)) (by decide : decide ((1 : Int) > (0 : Int)) = true),
     rfl,
     fun γ w' bw _ => fixed6_any w' (hT.later bw)⟩
set_option maxRecDepth 100000 in
theorem Between_z (a_0 : Bool) (a_1 : ByteArray) (a_2 : Bool) (a_3 : ByteArray) (a_4 : Bool) (a_5 : ByteArray) (a_6 : Bool) (a_7 : ByteArray) (b_0 : Bool) (b_1 : ByteArray) (b_2 : Bool) (b_3 : ByteArray) (b_4 : Bool) (b_5 : ByteArray) (b_6 : Bool) (b_7 : ByteArray) (n : Int) (d : Int) (w : World) (hT : TabC w) (ln : 0 ≤ n) (un : n ≤ 255) (ld : 0 ≤ d) (ud : d ≤ 255) (ha_1 : a_1.size ≤ 6) (ha_3 : a_3.size ≤ 6) (ha_5 : a_5.size ≤ 6) (ha_7 : a_7.size ≤ 6) (hb_1 : b_1.size ≤ 6) (hb_3 : b_3.size ≤ 6) (hb_5 : b_5.size ≤ 6) (hb_7 : b_7.size ≤ 6) (hc : cmpP (pt ⟨iv a_0 a_1, iv a_2 a_3, iv a_4 a_5, iv a_6 a_7⟩) (pt ⟨iv b_0 b_1, iv b_2 b_3, iv b_4 b_5, iv b_6 b_7⟩) = 0) :
    Calls Tryz.prog 7 #[.agg #[.bool a_0, .string a_1, .bool a_2, .string a_3, .bool a_4, .string a_5, .bool a_6, .string a_7], .agg #[.bool b_0, .string b_1, .bool b_2, .string b_3, .bool b_4, .string b_5, .bool b_6, .string b_7], .agg #[.int .u8 n, .int .u8 d]] w fun e w' => e = .returned (.bool true) ∧ Below w.heap.size w w' := by
  obtain ⟨aq, haq, raq⟩ : ∃ q, IsF (.agg #[.bool a_0, .string a_1, .bool a_2, .string a_3, .bool a_4, .string a_5, .bool a_6, .string a_7]) q 6 ∧ q = ⟨iv a_0 a_1, iv a_2 a_3, iv a_4 a_5, iv a_6 a_7⟩ := ⟨⟨_, _, _, _⟩, ⟨_, _, _, _, _, _, _, _, rfl, rfl, ha_1, rfl, ha_3, rfl, ha_5, rfl, ha_7⟩, rfl⟩
  have zaq := haq.sz
  obtain ⟨a, ea⟩ : ∃ p, p = pt aq := ⟨_, rfl⟩
  have ha : IsP (.agg #[.bool a_0, .string a_1, .bool a_2, .string a_3, .bool a_4, .string a_5, .bool a_6, .string a_7]) a 6 := by rw [ea]; exact haq.pt
  have za := ha.sz (by decide)
  have ra : a = pt ⟨iv a_0 a_1, iv a_2 a_3, iv a_4 a_5, iv a_6 a_7⟩ := by rw [ea, raq]
  obtain ⟨bq, hbq, rbq⟩ : ∃ q, IsF (.agg #[.bool b_0, .string b_1, .bool b_2, .string b_3, .bool b_4, .string b_5, .bool b_6, .string b_7]) q 6 ∧ q = ⟨iv b_0 b_1, iv b_2 b_3, iv b_4 b_5, iv b_6 b_7⟩ := ⟨⟨_, _, _, _⟩, ⟨_, _, _, _, _, _, _, _, rfl, rfl, hb_1, rfl, hb_3, rfl, hb_5, rfl, hb_7⟩, rfl⟩
  have zbq := hbq.sz
  obtain ⟨b, eb⟩ : ∃ p, p = pt bq := ⟨_, rfl⟩
  have hb : IsP (.agg #[.bool b_0, .string b_1, .bool b_2, .string b_3, .bool b_4, .string b_5, .bool b_6, .string b_7]) b 6 := by rw [eb]; exact hbq.pt
  have zb := hb.sz (by decide)
  have rb : b = pt ⟨iv b_0 b_1, iv b_2 b_3, iv b_4 b_5, iv b_6 b_7⟩ := by rw [eb, rbq]
  obtain ⟨t0, t1⟩ := ratio_in ln ld
  rw [← ra, ← rb] at hc
  have f1 : Pk a 6 := Pk.up (za) (by decide)
  have f2 : Pk b 6 := Pk.up (zb) (by decide)
  have f3 : Zk (1 + n : Int) 8 := mg_size_le (k := 8) (by first | decide | omega)
  have f4 : Zk (2 + n + d : Int) 8 := mg_size_le (k := 8) (by first | decide | omega)
  have f5 : Rk (Rat.divInt (1 + n : Int) (2 + n + d : Int)) 8 := Rk.up (Is.divInt f3 f4) (by decide)
  have f6 : Pk (lerp a b (Rat.divInt (1 + n : Int) (2 + n + d : Int))) 84 := Pk.up ((Pk.lerp f1 f2 f5)) (by decide)
  exact SX.run (w := w) (List.flatten [[.bool a_0, .string a_1, .bool a_2, .string a_3, .bool a_4, .string a_5, .bool a_6, .string a_7, .bool b_0, .string b_1, .bool b_2, .string b_3, .bool b_4, .string b_5, .bool b_6, .string b_7, .int .u8 n, .int .u8 d, .int .i64 0, .bool false], pc a, pc b, [.int .i64 n, .int .i64 (1 + n)], zc (1 + n : Int), [.int .i64 n, .int .i64 (2 + n), .int .i64 d, .int .i64 (2 + n + d)], zc (2 + n + d : Int), qc (Rat.divInt (1 + n : Int) (2 + n + d : Int)), [.bool (decide ((2 + n + d : Int) ≠ 0))], pc (lerp a b (Rat.divInt (1 + n : Int) (2 + n + d : Int))), [.int .i64 (cmpP a b), .bool true, .bool true, .bool true, .bool false, .bool true]]) [.b false, .b true, .b true, .b true] [.ga 0 8, .ga 8 8, .ga 16 2] 18 (.one (.ca 63)) [.call 13 [.c (.p (.slc 3 0 2 2))] (.one (.ca 18)) [(3073, .pa 0), (3074, .pa 1), (3075, .pa 2), (3076, .pa 3), (3077, .pa 4), (3078, .pa 5), (3079, .pa 6), (3080, .pa 7), (3081, .pa 8), (3082, .pa 9), (3083, .pa 10), (3084, .pa 11), (3085, .pa 12), (3086, .pa 13), (3087, .pa 14), (3088, .pa 15)], .op2 false .gtr (.pa 18) (.p (.lit (.int .i64 0))) 19, .isB 19 false, .call 14 [.ga 0 8] (.one (.ga 20 8)) [], .call 14 [.ga 8 8] (.one (.ga 28 8)) [], .cvt .i64 (.pa 16) 36, .op2 false .add (.p (.lit (.int .i64 1))) (.pa 36) 37, .call 26 [.ca 37] (.one (.ga 38 2)) [], .cvt .i64 (.pa 16) 40, .op2 false .add (.p (.lit (.int .i64 2))) (.pa 40) 41, .cvt .i64 (.pa 17) 42, .op2 false .add (.pa 41) (.pa 42) 43, .call 26 [.ca 43] (.one (.ga 44 2)) [], .call 25 [.ga 38 2, .ga 44 2] (.tup [.ga 46 3, .ca 49]) [], .call 27 [.ga 20 8, .ga 28 8, .ga 46 3] (.one (.ga 50 8)) [], .call 28 [.ga 20 8, .ga 28 8] (.one (.ca 58)) [], .op2 false .eql (.pa 58) (.p (.lit (.int .i64 0))) 59, .isB 59 true, .call 9 [] (.one (.ca 60)) [], .isB 60 true, .eqs false [.b, .s, .b, .s, .b, .s, .b, .s] [.pa 50, .pa 51, .pa 52, .pa 53, .pa 54, .pa 55, .pa 56, .pa 57] [.pa 20, .pa 21, .pa 22, .pa 23, .pa 24, .pa 25, .pa 26, .pa 27] 61, .isB 61 true, .call 21 [.ga 20 8, .ga 28 8, .ga 50 8] (.one (.ca 62)) [], .op1 .not (.pa 62) 63] Tryz.func7 (by kernel_rfl) rfl (by kernel_rfl) rfl (by kernel_rfl)
    ⟨fun γ w' _ hm => by have h_ := Great6_any (some ⟨γ 3, 0, none⟩) [⟨a_0, a_1, a_2, a_3, a_4, a_5, a_6, a_7⟩, ⟨b_0, b_1, b_2, b_3, b_4, b_5, b_6, b_7⟩] 2 2 w' rfl (by simp) (RdP.of (SX.mem_at (b := 3) (l := [.pa 0, .pa 1, .pa 2, .pa 3, .pa 4, .pa 5, .pa 6, .pa 7, .pa 8, .pa 9, .pa 10, .pa 11, .pa 12, .pa 13, .pa 14, .pa 15]) hm rfl)); rw [greatI_no (by intro p hp; simp only [List.mem_cons, List.not_mem_nil, or_false] at hp; rcases hp with rfl | rfl <;> exact ⟨by assumption, by assumption, by assumption, by assumption⟩)] at h_; exact h_,
     congrArg (fun z => some (Value.bool z)) (by decide : decide ((0 : Int) > (0 : Int)) = false),
     rfl,
     fun γ w' _ _ => p4Norm ha (by decide) w',
     fun γ w' _ _ => p4Norm hb (by decide) w',
     ⟨_, _, rfl, congrArg (Value.int .i64) (by rw [IntKind.wrap_i64]; omega : n = IntKind.wrap .i64 n)⟩,
     congrArg (fun z => some (Value.int .i64 z)) (by rw [IntKind.wrap_i64]; omega : IntKind.wrap .i64 ((1 : Int) + n) = (1 + n)),
     fun γ w' _ _ => FromInt64_any (1 + n) w' (by first | decide | omega) (by first | decide | omega),
     ⟨_, _, rfl, congrArg (Value.int .i64) (by rw [IntKind.wrap_i64]; omega : n = IntKind.wrap .i64 n)⟩,
     congrArg (fun z => some (Value.int .i64 z)) (by rw [IntKind.wrap_i64]; omega : IntKind.wrap .i64 ((2 : Int) + n) = (2 + n)),
     ⟨_, _, rfl, congrArg (Value.int .i64) (by rw [IntKind.wrap_i64]; omega : d = IntKind.wrap .i64 d)⟩,
     congrArg (fun z => some (Value.int .i64 z)) (by rw [IntKind.wrap_i64]; omega : IntKind.wrap .i64 ((2 + n) + d) = (2 + n + d)),
     fun γ w' _ _ => FromInt64_any (2 + n + d) w' (by first | decide | omega) (by first | decide | omega),
     fun γ w' bw _ => qMake (IsZ.can f3) (by decide) (IsZ.can f4) (by decide) w' (hT.later bw),
     fun γ w' bw _ => pLerp (IsP.can f1) (by decide) (IsP.can f2) (by decide) (IsQ.can f5) (by decide) w' (hT.later bw),
     fun γ w' _ _ => pCmp (IsP.can f1) (by decide) (IsP.can f2) (by decide) w',
     congrArg (fun z => some (Value.bool z)) (beq_iff_eq.2 hc : ((cmpP a b) == (0 : Int)) = true),
     rfl,
     fun γ w' bw _ => fixed6_any w' (hT.later bw),
     rfl,
     ⟨rfl, rfl, eqv_yes (eqL_P (lerp a b (Rat.divInt (1 + n : Int) (2 + n + d : Int))) a) (by rw [← cmpP_zero.1 hc, lerp_same]) rfl⟩,
     rfl,
     fun γ w' bw _ => by have h := inBetween f1 (by decide) f2 (by decide) f6 (by decide) w' (hT.later bw); rw [decide_eq_false (fun k => k.2.1 hc)] at h; exact h,
     congrArg (fun z => some (Value.bool z)) (by first | rfl | assumption | decide | simp [*] : (!false) = true)⟩
set_option maxRecDepth 100000 in
theorem Between_u (a_0 : Bool) (a_1 : ByteArray) (a_2 : Bool) (a_3 : ByteArray) (a_4 : Bool) (a_5 : ByteArray) (a_6 : Bool) (a_7 : ByteArray) (b_0 : Bool) (b_1 : ByteArray) (b_2 : Bool) (b_3 : ByteArray) (b_4 : Bool) (b_5 : ByteArray) (b_6 : Bool) (b_7 : ByteArray) (n : Int) (d : Int) (w : World) (hT : TabC w) (ln : 0 ≤ n) (un : n ≤ 255) (ld : 0 ≤ d) (ud : d ≤ 255) (ha_1 : a_1.size ≤ 6) (ha_3 : a_3.size ≤ 6) (ha_5 : a_5.size ≤ 6) (ha_7 : a_7.size ≤ 6) (hb_1 : b_1.size ≤ 6) (hb_3 : b_3.size ≤ 6) (hb_5 : b_5.size ≤ 6) (hb_7 : b_7.size ≤ 6) (hc : 0 < cmpP (pt ⟨iv a_0 a_1, iv a_2 a_3, iv a_4 a_5, iv a_6 a_7⟩) (pt ⟨iv b_0 b_1, iv b_2 b_3, iv b_4 b_5, iv b_6 b_7⟩)) :
    Calls Tryz.prog 7 #[.agg #[.bool a_0, .string a_1, .bool a_2, .string a_3, .bool a_4, .string a_5, .bool a_6, .string a_7], .agg #[.bool b_0, .string b_1, .bool b_2, .string b_3, .bool b_4, .string b_5, .bool b_6, .string b_7], .agg #[.int .u8 n, .int .u8 d]] w fun e w' => e = .returned (.bool true) ∧ Below w.heap.size w w' := by
  obtain ⟨aq, haq, raq⟩ : ∃ q, IsF (.agg #[.bool a_0, .string a_1, .bool a_2, .string a_3, .bool a_4, .string a_5, .bool a_6, .string a_7]) q 6 ∧ q = ⟨iv a_0 a_1, iv a_2 a_3, iv a_4 a_5, iv a_6 a_7⟩ := ⟨⟨_, _, _, _⟩, ⟨_, _, _, _, _, _, _, _, rfl, rfl, ha_1, rfl, ha_3, rfl, ha_5, rfl, ha_7⟩, rfl⟩
  have zaq := haq.sz
  obtain ⟨a, ea⟩ : ∃ p, p = pt aq := ⟨_, rfl⟩
  have ha : IsP (.agg #[.bool a_0, .string a_1, .bool a_2, .string a_3, .bool a_4, .string a_5, .bool a_6, .string a_7]) a 6 := by rw [ea]; exact haq.pt
  have za := ha.sz (by decide)
  have ra : a = pt ⟨iv a_0 a_1, iv a_2 a_3, iv a_4 a_5, iv a_6 a_7⟩ := by rw [ea, raq]
  obtain ⟨bq, hbq, rbq⟩ : ∃ q, IsF (.agg #[.bool b_0, .string b_1, .bool b_2, .string b_3, .bool b_4, .string b_5, .bool b_6, .string b_7]) q 6 ∧ q = ⟨iv b_0 b_1, iv b_2 b_3, iv b_4 b_5, iv b_6 b_7⟩ := ⟨⟨_, _, _, _⟩, ⟨_, _, _, _, _, _, _, _, rfl, rfl, hb_1, rfl, hb_3, rfl, hb_5, rfl, hb_7⟩, rfl⟩
  have zbq := hbq.sz
  obtain ⟨b, eb⟩ : ∃ p, p = pt bq := ⟨_, rfl⟩
  have hb : IsP (.agg #[.bool b_0, .string b_1, .bool b_2, .string b_3, .bool b_4, .string b_5, .bool b_6, .string b_7]) b 6 := by rw [eb]; exact hbq.pt
  have zb := hb.sz (by decide)
  have rb : b = pt ⟨iv b_0 b_1, iv b_2 b_3, iv b_4 b_5, iv b_6 b_7⟩ := by rw [eb, rbq]
  obtain ⟨t0, t1⟩ := ratio_in ln ld
  rw [← ra, ← rb] at hc
  have hne : cmpP a b ≠ 0 := by omega
  have ca := cmp_lerp a b t0
  have cb := cmp_lerp' a b t1
  have cs := cmpP_swap a (lerp a b (Rat.divInt (1 + n : Int) (2 + n + d : Int)))
  have l1 : lowP a b = b := if_pos hc
  have h1_ : topP a b = a := if_pos hc
  have l2 : lowP a (lerp a b (Rat.divInt (1 + n : Int) (2 + n + d : Int))) = (lerp a b (Rat.divInt (1 + n : Int) (2 + n + d : Int))) := if_pos (by rw [ca]; exact hc)
  have h2_ : topP a (lerp a b (Rat.divInt (1 + n : Int) (2 + n + d : Int))) = a := if_pos (by rw [ca]; exact hc)
  have f1 : Pk a 6 := Pk.up (za) (by decide)
  have f2 : Pk b 6 := Pk.up (zb) (by decide)
  have f3 : Zk (1 + n : Int) 8 := mg_size_le (k := 8) (by first | decide | omega)
  have f4 : Zk (2 + n + d : Int) 8 := mg_size_le (k := 8) (by first | decide | omega)
  have f5 : Rk (Rat.divInt (1 + n : Int) (2 + n + d : Int)) 8 := Rk.up (Is.divInt f3 f4) (by decide)
  have f6 : Pk (lerp a b (Rat.divInt (1 + n : Int) (2 + n + d : Int))) 84 := Pk.up ((Pk.lerp f1 f2 f5)) (by decide)
  exact SX.run (w := w) (List.flatten [[.bool a_0, .string a_1, .bool a_2, .string a_3, .bool a_4, .string a_5, .bool a_6, .string a_7, .bool b_0, .string b_1, .bool b_2, .string b_3, .bool b_4, .string b_5, .bool b_6, .string b_7, .int .u8 n, .int .u8 d, .int .i64 0, .bool false], pc a, pc b, [.int .i64 n, .int .i64 (1 + n)], zc (1 + n : Int), [.int .i64 n, .int .i64 (2 + n), .int .i64 d, .int .i64 (2 + n + d)], zc (2 + n + d : Int), qc (Rat.divInt (1 + n : Int) (2 + n + d : Int)), [.bool (decide ((2 + n + d : Int) ≠ 0))], pc (lerp a b (Rat.divInt (1 + n : Int) (2 + n + d : Int))), [.int .i64 (cmpP a b), .bool false, .int .i64 (cmpP a b), .bool true], pc b, pc a, [.bool true], pc (lerp a b (Rat.divInt (1 + n : Int) (2 + n + d : Int))), pc a, (.bool true :: .bool false :: .string ⟨#[]⟩ :: .bool false :: .string ⟨#[]⟩ :: .bool false :: .string ⟨#[]⟩ :: .bool false :: .string ⟨#[]⟩ :: .bool false :: .string ⟨#[]⟩ :: .bool false :: .string ⟨#[]⟩ :: .bool false :: .string ⟨#[]⟩ :: .bool false :: .string ⟨#[]⟩ :: .bool false :: .int .i64 (cmpP (lerp a b (Rat.divInt (1 + n : Int) (2 + n + d : Int))) a) :: .bool false :: .bool true :: .bool false :: .bool false :: .bool true :: .bool true :: .bool true :: .bool false :: .bool true :: .bool true :: .bool true :: .bool true :: [])]) [.b false, .b false, .b true, .b false, .b true, .b false, .b false, .b true, .b true, .b true, .b true, .b true, .b true, .b true, .b true, .b true, .b true] [.ga 0 8, .ga 8 8, .ga 16 2] 18 (.one (.ca 125)) (.call 13 [.c (.p (.slc 3 0 2 2))] (.one (.ca 18)) [(3073, .pa 0), (3074, .pa 1), (3075, .pa 2), (3076, .pa 3), (3077, .pa 4), (3078, .pa 5), (3079, .pa 6), (3080, .pa 7), (3081, .pa 8), (3082, .pa 9), (3083, .pa 10), (3084, .pa 11), (3085, .pa 12), (3086, .pa 13), (3087, .pa 14), (3088, .pa 15)] :: .op2 false .gtr (.pa 18) (.p (.lit (.int .i64 0))) 19 :: .isB 19 false :: .call 14 [.ga 0 8] (.one (.ga 20 8)) [] :: .call 14 [.ga 8 8] (.one (.ga 28 8)) [] :: .cvt .i64 (.pa 16) 36 :: .op2 false .add (.p (.lit (.int .i64 1))) (.pa 36) 37 :: .call 26 [.ca 37] (.one (.ga 38 2)) [] :: .cvt .i64 (.pa 16) 40 :: .op2 false .add (.p (.lit (.int .i64 2))) (.pa 40) 41 :: .cvt .i64 (.pa 17) 42 :: .op2 false .add (.pa 41) (.pa 42) 43 :: .call 26 [.ca 43] (.one (.ga 44 2)) [] :: .call 25 [.ga 38 2, .ga 44 2] (.tup [.ga 46 3, .ca 49]) [] :: .call 27 [.ga 20 8, .ga 28 8, .ga 46 3] (.one (.ga 50 8)) [] :: .call 28 [.ga 20 8, .ga 28 8] (.one (.ca 58)) [] :: .op2 false .eql (.pa 58) (.p (.lit (.int .i64 0))) 59 :: .isB 59 false :: .call 28 [.ga 20 8, .ga 28 8] (.one (.ca 60)) [] :: .op2 false .gtr (.pa 60) (.p (.lit (.int .i64 0))) 61 :: .isB 61 true :: .call 23 [.ga 20 8, .ga 28 8, .ga 28 8, .ga 20 8] (.tup [.ga 62 8, .ga 70 8, .ca 78]) [] :: .call 23 [.ga 20 8, .ga 50 8, .ga 20 8, .ga 28 8] (.tup [.ga 79 8, .ga 87 8, .ca 95]) [] :: .call 23 [.ga 20 8, .ga 50 8, .ga 50 8, .ga 28 8] (.tup [.ga 96 8, .ga 104 8, .ca 112]) [] :: .call 28 [.ga 79 8, .ga 87 8] (.one (.ca 113)) [] :: .op2 false .geq (.pa 113) (.p (.lit (.int .i64 0))) 114 :: .isB 114 false :: .eqs true [.b, .s, .b, .s, .b, .s, .b, .s] [.pa 79, .pa 80, .pa 81, .pa 82, .pa 83, .pa 84, .pa 85, .pa 86] [.pa 20, .pa 21, .pa 22, .pa 23, .pa 24, .pa 25, .pa 26, .pa 27] 115 :: .isB 115 true :: .eqs true [.b, .s, .b, .s, .b, .s, .b, .s] [.pa 79, .pa 80, .pa 81, .pa 82, .pa 83, .pa 84, .pa 85, .pa 86] [.pa 50, .pa 51, .pa 52, .pa 53, .pa 54, .pa 55, .pa 56, .pa 57] 116 :: .isB 116 false :: .eqs true [.b, .s, .b, .s, .b, .s, .b, .s] [.pa 87, .pa 88, .pa 89, .pa 90, .pa 91, .pa 92, .pa 93, .pa 94] [.pa 20, .pa 21, .pa 22, .pa 23, .pa 24, .pa 25, .pa 26, .pa 27] 117 :: .isB 117 false :: .call 9 [] (.one (.ca 118)) [] :: .isB 118 true :: .call 21 [.ga 20 8, .ga 28 8, .ga 50 8] (.one (.ca 119)) [] :: .isB 119 true :: .call 21 [.ga 28 8, .ga 20 8, .ga 50 8] (.one (.ca 120)) [] :: .isB 120 true :: .call 21 [.ga 20 8, .ga 50 8, .ga 28 8] (.one (.ca 121)) [] :: .op1 .not (.pa 121) 122 :: .isB 122 true :: .isB 78 true :: .eqs false [.b, .s, .b, .s, .b, .s, .b, .s] [.pa 62, .pa 63, .pa 64, .pa 65, .pa 66, .pa 67, .pa 68, .pa 69] [.pa 28, .pa 29, .pa 30, .pa 31, .pa 32, .pa 33, .pa 34, .pa 35] 123 :: .isB 123 true :: .eqs false [.b, .s, .b, .s, .b, .s, .b, .s] [.pa 70, .pa 71, .pa 72, .pa 73, .pa 74, .pa 75, .pa 76, .pa 77] [.pa 20, .pa 21, .pa 22, .pa 23, .pa 24, .pa 25, .pa 26, .pa 27] 124 :: .isB 124 true :: .isB 95 true :: .op1 .not (.pa 112) 125 :: []) Tryz.func7 (by kernel_rfl) rfl (by kernel_rfl) rfl (by kernel_rfl)
    ⟨fun γ w' _ hm => by have h_ := Great6_any (some ⟨γ 3, 0, none⟩) [⟨a_0, a_1, a_2, a_3, a_4, a_5, a_6, a_7⟩, ⟨b_0, b_1, b_2, b_3, b_4, b_5, b_6, b_7⟩] 2 2 w' rfl (by simp) (RdP.of (SX.mem_at (b := 3) (l := [.pa 0, .pa 1, .pa 2, .pa 3, .pa 4, .pa 5, .pa 6, .pa 7, .pa 8, .pa 9, .pa 10, .pa 11, .pa 12, .pa 13, .pa 14, .pa 15]) hm rfl)); rw [greatI_no (by intro p hp; simp only [List.mem_cons, List.not_mem_nil, or_false] at hp; rcases hp with rfl | rfl <;> exact ⟨by assumption, by assumption, by assumption, by assumption⟩)] at h_; exact h_,
     congrArg (fun z => some (Value.bool z)) (by decide : decide ((0 : Int) > (0 : Int)) = false),
     rfl,
     fun γ w' _ _ => p4Norm ha (by decide) w',
     fun γ w' _ _ => p4Norm hb (by decide) w',
     ⟨_, _, rfl, congrArg (Value.int .i64) (by rw [IntKind.wrap_i64]; omega : n = IntKind.wrap .i64 n)⟩,
     congrArg (fun z => some (Value.int .i64 z)) (by rw [IntKind.wrap_i64]; omega : IntKind.wrap .i64 ((1 : Int) + n) = (1 + n)),
     fun γ w' _ _ => FromInt64_any (1 + n) w' (by first | decide | omega) (by first | decide | omega),
     ⟨_, _, rfl, congrArg (Value.int .i64) (by rw [IntKind.wrap_i64]; omega : n = IntKind.wrap .i64 n)⟩,
     congrArg (fun z => some (Value.int .i64 z)) (by rw [IntKind.wrap_i64]; omega : IntKind.wrap .i64 ((2 : Int) + n) = (2 + n)),
     ⟨_, _, rfl, congrArg (Value.int .i64) (by rw [IntKind.wrap_i64]; omega : d = IntKind.wrap .i64 d)⟩,
     congrArg (fun z => some (Value.int .i64 z)) (by rw [IntKind.wrap_i64]; omega : IntKind.wrap .i64 ((2 + n) + d) = (2 + n + d)),
     fun γ w' _ _ => FromInt64_any (2 + n + d) w' (by first | decide | omega) (by first | decide | omega),
     fun γ w' bw _ => qMake (IsZ.can f3) (by decide) (IsZ.can f4) (by decide) w' (hT.later bw),
     fun γ w' bw _ => pLerp (IsP.can f1) (by decide) (IsP.can f2) (by decide) (IsQ.can f5) (by decide) w' (hT.later bw),
     fun γ w' _ _ => pCmp (IsP.can f1) (by decide) (IsP.can f2) (by decide) w',
     congrArg (fun z => some (Value.bool z)) (beq_eq_false_iff_ne.2 hne : ((cmpP a b) == (0 : Int)) = false),
     rfl,
     fun γ w' _ _ => pCmp (IsP.can f1) (by decide) (IsP.can f2) (by decide) w',
     congrArg (fun z => some (Value.bool z)) (decide_eq_true hc : decide ((cmpP a b) > (0 : Int)) = true),
     rfl,
     fun γ w' bw _ => by have h := inOverlap_any f1 (by decide) f2 (by decide) f2 (by decide) f1 (by decide) w' (hT.later bw); rw [shareV, if_pos (share_whole hne).1, (share_whole hne).2.1, l1, (share_whole hne).2.2, h1_] at h; exact h,
     fun γ w' bw _ => by have h := inOverlap_any f1 (by decide) f6 (by decide) f1 (by decide) f2 (by decide) w' (hT.later bw); rw [shareV, if_pos (share_part t0 t1 hne).1, (share_part t0 t1 hne).2.1, l2, (share_part t0 t1 hne).2.2, h2_] at h; exact h,
     fun γ w' bw _ => by have h := inOverlap_any f1 (by decide) f6 (by decide) f6 (by decide) f2 (by decide) w' (hT.later bw); rw [shareV, if_neg (share_none t0 t1)] at h; exact h,
     fun γ w' _ _ => pCmp (IsP.can f6) (by decide) (IsP.can f1) (by decide) w',
     congrArg (fun z => some (Value.bool z)) (decide_eq_false (by omega) : decide ((cmpP (lerp a b (Rat.divInt (1 + n : Int) (2 + n + d : Int))) a) ≥ (0 : Int)) = false),
     rfl,
     ⟨rfl, rfl, eqv_no (eqL_P (lerp a b (Rat.divInt (1 + n : Int) (2 + n + d : Int))) a) (fun e => by rw [e, cmpP_self] at ca; omega) rfl⟩,
     rfl,
     ⟨rfl, rfl, eqv_yes (eqL_P (lerp a b (Rat.divInt (1 + n : Int) (2 + n + d : Int))) (lerp a b (Rat.divInt (1 + n : Int) (2 + n + d : Int)))) (rfl) rfl⟩,
     rfl,
     ⟨rfl, rfl, eqv_yes (eqL_P a a) (rfl) rfl⟩,
     rfl,
     fun γ w' bw _ => fixed6_any w' (hT.later bw),
     rfl,
     fun γ w' bw _ => by have h := inBetween f1 (by decide) f2 (by decide) f6 (by decide) w' (hT.later bw); rw [decide_eq_true (bet_yes t0 t1 hne)] at h; exact h,
     rfl,
     fun γ w' bw _ => by have h := inBetween f2 (by decide) f1 (by decide) f6 (by decide) w' (hT.later bw); rw [decide_eq_true (bet_yes' t0 t1 hne)] at h; exact h,
     rfl,
     fun γ w' bw _ => by have h := inBetween f1 (by decide) f6 (by decide) f2 (by decide) w' (hT.later bw); rw [decide_eq_false (bet_no t1 hne)] at h; exact h,
     congrArg (fun z => some (Value.bool z)) (by first | rfl | assumption | decide | simp [*] : (!false) = true),
     rfl,
     rfl,
     ⟨rfl, rfl, eqv_yes (eqL_P b b) (rfl) rfl⟩,
     rfl,
     ⟨rfl, rfl, eqv_yes (eqL_P a a) (rfl) rfl⟩,
     rfl,
     rfl,
     congrArg (fun z => some (Value.bool z)) (by first | rfl | assumption | decide | simp [*] : (!false) = true)⟩
set_option maxRecDepth 100000 in
theorem Between_d (a_0 : Bool) (a_1 : ByteArray) (a_2 : Bool) (a_3 : ByteArray) (a_4 : Bool) (a_5 : ByteArray) (a_6 : Bool) (a_7 : ByteArray) (b_0 : Bool) (b_1 : ByteArray) (b_2 : Bool) (b_3 : ByteArray) (b_4 : Bool) (b_5 : ByteArray) (b_6 : Bool) (b_7 : ByteArray) (n : Int) (d : Int) (w : World) (hT : TabC w) (ln : 0 ≤ n) (un : n ≤ 255) (ld : 0 ≤ d) (ud : d ≤ 255) (ha_1 : a_1.size ≤ 6) (ha_3 : a_3.size ≤ 6) (ha_5 : a_5.size ≤ 6) (ha_7 : a_7.size ≤ 6) (hb_1 : b_1.size ≤ 6) (hb_3 : b_3.size ≤ 6) (hb_5 : b_5.size ≤ 6) (hb_7 : b_7.size ≤ 6) (hn : cmpP (pt ⟨iv a_0 a_1, iv a_2 a_3, iv a_4 a_5, iv a_6 a_7⟩) (pt ⟨iv b_0 b_1, iv b_2 b_3, iv b_4 b_5, iv b_6 b_7⟩) ≠ 0) (hc : ¬ 0 < cmpP (pt ⟨iv a_0 a_1, iv a_2 a_3, iv a_4 a_5, iv a_6 a_7⟩) (pt ⟨iv b_0 b_1, iv b_2 b_3, iv b_4 b_5, iv b_6 b_7⟩)) :
    Calls Tryz.prog 7 #[.agg #[.bool a_0, .string a_1, .bool a_2, .string a_3, .bool a_4, .string a_5, .bool a_6, .string a_7], .agg #[.bool b_0, .string b_1, .bool b_2, .string b_3, .bool b_4, .string b_5, .bool b_6, .string b_7], .agg #[.int .u8 n, .int .u8 d]] w fun e w' => e = .returned (.bool true) ∧ Below w.heap.size w w' := by
  obtain ⟨aq, haq, raq⟩ : ∃ q, IsF (.agg #[.bool a_0, .string a_1, .bool a_2, .string a_3, .bool a_4, .string a_5, .bool a_6, .string a_7]) q 6 ∧ q = ⟨iv a_0 a_1, iv a_2 a_3, iv a_4 a_5, iv a_6 a_7⟩ := ⟨⟨_, _, _, _⟩, ⟨_, _, _, _, _, _, _, _, rfl, rfl, ha_1, rfl, ha_3, rfl, ha_5, rfl, ha_7⟩, rfl⟩
  have zaq := haq.sz
  obtain ⟨a, ea⟩ : ∃ p, p = pt aq := ⟨_, rfl⟩
  have ha : IsP (.agg #[.bool a_0, .string a_1, .bool a_2, .string a_3, .bool a_4, .string a_5, .bool a_6, .string a_7]) a 6 := by rw [ea]; exact haq.pt
  have za := ha.sz (by decide)
  have ra : a = pt ⟨iv a_0 a_1, iv a_2 a_3, iv a_4 a_5, iv a_6 a_7⟩ := by rw [ea, raq]
  obtain ⟨bq, hbq, rbq⟩ : ∃ q, IsF (.agg #[.bool b_0, .string b_1, .bool b_2, .string b_3, .bool b_4, .string b_5, .bool b_6, .string b_7]) q 6 ∧ q = ⟨iv b_0 b_1, iv b_2 b_3, iv b_4 b_5, iv b_6 b_7⟩ := ⟨⟨_, _, _, _⟩, ⟨_, _, _, _, _, _, _, _, rfl, rfl, hb_1, rfl, hb_3, rfl, hb_5, rfl, hb_7⟩, rfl⟩
  have zbq := hbq.sz
  obtain ⟨b, eb⟩ : ∃ p, p = pt bq := ⟨_, rfl⟩
  have hb : IsP (.agg #[.bool b_0, .string b_1, .bool b_2, .string b_3, .bool b_4, .string b_5, .bool b_6, .string b_7]) b 6 := by rw [eb]; exact hbq.pt
  have zb := hb.sz (by decide)
  have rb : b = pt ⟨iv b_0 b_1, iv b_2 b_3, iv b_4 b_5, iv b_6 b_7⟩ := by rw [eb, rbq]
  obtain ⟨t0, t1⟩ := ratio_in ln ld
  rw [← ra, ← rb] at hc
  have hne : cmpP a b ≠ 0 := by rw [ra, rb]; exact hn
  have ca := cmp_lerp a b t0
  have cb := cmp_lerp' a b t1
  have cs := cmpP_swap a (lerp a b (Rat.divInt (1 + n : Int) (2 + n + d : Int)))
  have l1 : lowP a b = a := if_neg hc
  have h1_ : topP a b = b := if_neg hc
  have l2 : lowP a (lerp a b (Rat.divInt (1 + n : Int) (2 + n + d : Int))) = a := if_neg (by rw [ca]; exact hc)
  have h2_ : topP a (lerp a b (Rat.divInt (1 + n : Int) (2 + n + d : Int))) = (lerp a b (Rat.divInt (1 + n : Int) (2 + n + d : Int))) := if_neg (by rw [ca]; exact hc)
  have f1 : Pk a 6 := Pk.up (za) (by decide)
  have f2 : Pk b 6 := Pk.up (zb) (by decide)
  have f3 : Zk (1 + n : Int) 8 := mg_size_le (k := 8) (by first | decide | omega)
  have f4 : Zk (2 + n + d : Int) 8 := mg_size_le (k := 8) (by first | decide | omega)
  have f5 : Rk (Rat.divInt (1 + n : Int) (2 + n + d : Int)) 8 := Rk.up (Is.divInt f3 f4) (by decide)
  have f6 : Pk (lerp a b (Rat.divInt (1 + n : Int) (2 + n + d : Int))) 84 := Pk.up ((Pk.lerp f1 f2 f5)) (by decide)
  exact SX.run (w := w) (List.flatten [[.bool a_0, .string a_1, .bool a_2, .string a_3, .bool a_4, .string a_5, .bool a_6, .string a_7, .bool b_0, .string b_1, .bool b_2, .string b_3, .bool b_4, .string b_5, .bool b_6, .string b_7, .int .u8 n, .int .u8 d, .int .i64 0, .bool false], pc a, pc b, [.int .i64 n, .int .i64 (1 + n)], zc (1 + n : Int), [.int .i64 n, .int .i64 (2 + n), .int .i64 d, .int .i64 (2 + n + d)], zc (2 + n + d : Int), qc (Rat.divInt (1 + n : Int) (2 + n + d : Int)), [.bool (decide ((2 + n + d : Int) ≠ 0))], pc (lerp a b (Rat.divInt (1 + n : Int) (2 + n + d : Int))), [.int .i64 (cmpP a b), .bool false, .int .i64 (cmpP a b), .bool false], pc a, pc b, [.bool true], pc a, pc (lerp a b (Rat.divInt (1 + n : Int) (2 + n + d : Int))), (.bool true :: .bool false :: .string ⟨#[]⟩ :: .bool false :: .string ⟨#[]⟩ :: .bool false :: .string ⟨#[]⟩ :: .bool false :: .string ⟨#[]⟩ :: .bool false :: .string ⟨#[]⟩ :: .bool false :: .string ⟨#[]⟩ :: .bool false :: .string ⟨#[]⟩ :: .bool false :: .string ⟨#[]⟩ :: .bool false :: .int .i64 (cmpP a (lerp a b (Rat.divInt (1 + n : Int) (2 + n + d : Int)))) :: .bool false :: .bool false :: .bool false :: .bool true :: .bool true :: .bool true :: .bool false :: .bool true :: .bool true :: .bool true :: .bool true :: [])]) [.b false, .b false, .b false, .b false, .b false, .b false, .b true, .b true, .b true, .b true, .b true, .b true, .b true, .b true, .b true, .b true] [.ga 0 8, .ga 8 8, .ga 16 2] 18 (.one (.ca 124)) (.call 13 [.c (.p (.slc 3 0 2 2))] (.one (.ca 18)) [(3073, .pa 0), (3074, .pa 1), (3075, .pa 2), (3076, .pa 3), (3077, .pa 4), (3078, .pa 5), (3079, .pa 6), (3080, .pa 7), (3081, .pa 8), (3082, .pa 9), (3083, .pa 10), (3084, .pa 11), (3085, .pa 12), (3086, .pa 13), (3087, .pa 14), (3088, .pa 15)] :: .op2 false .gtr (.pa 18) (.p (.lit (.int .i64 0))) 19 :: .isB 19 false :: .call 14 [.ga 0 8] (.one (.ga 20 8)) [] :: .call 14 [.ga 8 8] (.one (.ga 28 8)) [] :: .cvt .i64 (.pa 16) 36 :: .op2 false .add (.p (.lit (.int .i64 1))) (.pa 36) 37 :: .call 26 [.ca 37] (.one (.ga 38 2)) [] :: .cvt .i64 (.pa 16) 40 :: .op2 false .add (.p (.lit (.int .i64 2))) (.pa 40) 41 :: .cvt .i64 (.pa 17) 42 :: .op2 false .add (.pa 41) (.pa 42) 43 :: .call 26 [.ca 43] (.one (.ga 44 2)) [] :: .call 25 [.ga 38 2, .ga 44 2] (.tup [.ga 46 3, .ca 49]) [] :: .call 27 [.ga 20 8, .ga 28 8, .ga 46 3] (.one (.ga 50 8)) [] :: .call 28 [.ga 20 8, .ga 28 8] (.one (.ca 58)) [] :: .op2 false .eql (.pa 58) (.p (.lit (.int .i64 0))) 59 :: .isB 59 false :: .call 28 [.ga 20 8, .ga 28 8] (.one (.ca 60)) [] :: .op2 false .gtr (.pa 60) (.p (.lit (.int .i64 0))) 61 :: .isB 61 false :: .call 23 [.ga 20 8, .ga 28 8, .ga 28 8, .ga 20 8] (.tup [.ga 62 8, .ga 70 8, .ca 78]) [] :: .call 23 [.ga 20 8, .ga 50 8, .ga 20 8, .ga 28 8] (.tup [.ga 79 8, .ga 87 8, .ca 95]) [] :: .call 23 [.ga 20 8, .ga 50 8, .ga 50 8, .ga 28 8] (.tup [.ga 96 8, .ga 104 8, .ca 112]) [] :: .call 28 [.ga 79 8, .ga 87 8] (.one (.ca 113)) [] :: .op2 false .geq (.pa 113) (.p (.lit (.int .i64 0))) 114 :: .isB 114 false :: .eqs true [.b, .s, .b, .s, .b, .s, .b, .s] [.pa 79, .pa 80, .pa 81, .pa 82, .pa 83, .pa 84, .pa 85, .pa 86] [.pa 20, .pa 21, .pa 22, .pa 23, .pa 24, .pa 25, .pa 26, .pa 27] 115 :: .isB 115 false :: .eqs true [.b, .s, .b, .s, .b, .s, .b, .s] [.pa 87, .pa 88, .pa 89, .pa 90, .pa 91, .pa 92, .pa 93, .pa 94] [.pa 50, .pa 51, .pa 52, .pa 53, .pa 54, .pa 55, .pa 56, .pa 57] 116 :: .isB 116 false :: .call 9 [] (.one (.ca 117)) [] :: .isB 117 true :: .call 21 [.ga 20 8, .ga 28 8, .ga 50 8] (.one (.ca 118)) [] :: .isB 118 true :: .call 21 [.ga 28 8, .ga 20 8, .ga 50 8] (.one (.ca 119)) [] :: .isB 119 true :: .call 21 [.ga 20 8, .ga 50 8, .ga 28 8] (.one (.ca 120)) [] :: .op1 .not (.pa 120) 121 :: .isB 121 true :: .isB 78 true :: .eqs false [.b, .s, .b, .s, .b, .s, .b, .s] [.pa 62, .pa 63, .pa 64, .pa 65, .pa 66, .pa 67, .pa 68, .pa 69] [.pa 20, .pa 21, .pa 22, .pa 23, .pa 24, .pa 25, .pa 26, .pa 27] 122 :: .isB 122 true :: .eqs false [.b, .s, .b, .s, .b, .s, .b, .s] [.pa 70, .pa 71, .pa 72, .pa 73, .pa 74, .pa 75, .pa 76, .pa 77] [.pa 28, .pa 29, .pa 30, .pa 31, .pa 32, .pa 33, .pa 34, .pa 35] 123 :: .isB 123 true :: .isB 95 true :: .op1 .not (.pa 112) 124 :: []) Tryz.func7 (by kernel_rfl) rfl (by kernel_rfl) rfl (by kernel_rfl)
    ⟨fun γ w' _ hm => by have h_ := Great6_any (some ⟨γ 3, 0, none⟩) [⟨a_0, a_1, a_2, a_3, a_4, a_5, a_6, a_7⟩, ⟨b_0, b_1, b_2, b_3, b_4, b_5, b_6, b_7⟩] 2 2 w' rfl (by simp) (RdP.of (SX.mem_at (b := 3) (l := [.pa 0, .pa 1, .pa 2, .pa 3, .pa 4, .pa 5, .pa 6, .pa 7, .pa 8, .pa 9, .pa 10, .pa 11, .pa 12, .pa 13, .pa 14, .pa 15]) hm rfl)); rw [greatI_no (by intro p hp; simp only [List.mem_cons, List.not_mem_nil, or_false] at hp; rcases hp with rfl | rfl <;> exact ⟨by assumption, by assumption, by assumption, by assumption⟩)] at h_; exact h_,
     congrArg (fun z => some (Value.bool z)) (by decide : decide ((0 : Int) > (0 : Int)) = false),
     rfl,
     fun γ w' _ _ => p4Norm ha (by decide) w',
     fun γ w' _ _ => p4Norm hb (by decide) w',
     ⟨_, _, rfl, congrArg (Value.int .i64) (by rw [IntKind.wrap_i64]; omega : n = IntKind.wrap .i64 n)⟩,
     congrArg (fun z => some (Value.int .i64 z)) (by rw [IntKind.wrap_i64]; omega : IntKind.wrap .i64 ((1 : Int) + n) = (1 + n)),
     fun γ w' _ _ => FromInt64_any (1 + n) w' (by first | decide | omega) (by first | decide | omega),
     ⟨_, _, rfl, congrArg (Value.int .i64) (by rw [IntKind.wrap_i64]; omega : n = IntKind.wrap .i64 n)⟩,
     congrArg (fun z => some (Value.int .i64 z)) (by rw [IntKind.wrap_i64]; omega : IntKind.wrap .i64 ((2 : Int) + n) = (2 + n)),
     ⟨_, _, rfl, congrArg (Value.int .i64) (by rw [IntKind.wrap_i64]; omega : d = IntKind.wrap .i64 d)⟩,
     congrArg (fun z => some (Value.int .i64 z)) (by rw [IntKind.wrap_i64]; omega : IntKind.wrap .i64 ((2 + n) + d) = (2 + n + d)),
     fun γ w' _ _ => FromInt64_any (2 + n + d) w' (by first | decide | omega) (by first | decide | omega),
     fun γ w' bw _ => qMake (IsZ.can f3) (by decide) (IsZ.can f4) (by decide) w' (hT.later bw),
     fun γ w' bw _ => pLerp (IsP.can f1) (by decide) (IsP.can f2) (by decide) (IsQ.can f5) (by decide) w' (hT.later bw),
     fun γ w' _ _ => pCmp (IsP.can f1) (by decide) (IsP.can f2) (by decide) w',
     congrArg (fun z => some (Value.bool z)) (beq_eq_false_iff_ne.2 hne : ((cmpP a b) == (0 : Int)) = false),
     rfl,
     fun γ w' _ _ => pCmp (IsP.can f1) (by decide) (IsP.can f2) (by decide) w',
     congrArg (fun z => some (Value.bool z)) (decide_eq_false hc : decide ((cmpP a b) > (0 : Int)) = false),
     rfl,
     fun γ w' bw _ => by have h := inOverlap_any f1 (by decide) f2 (by decide) f2 (by decide) f1 (by decide) w' (hT.later bw); rw [shareV, if_pos (share_whole hne).1, (share_whole hne).2.1, l1, (share_whole hne).2.2, h1_] at h; exact h,
     fun γ w' bw _ => by have h := inOverlap_any f1 (by decide) f6 (by decide) f1 (by decide) f2 (by decide) w' (hT.later bw); rw [shareV, if_pos (share_part t0 t1 hne).1, (share_part t0 t1 hne).2.1, l2, (share_part t0 t1 hne).2.2, h2_] at h; exact h,
     fun γ w' bw _ => by have h := inOverlap_any f1 (by decide) f6 (by decide) f6 (by decide) f2 (by decide) w' (hT.later bw); rw [shareV, if_neg (share_none t0 t1)] at h; exact h,
     fun γ w' _ _ => pCmp (IsP.can f1) (by decide) (IsP.can f6) (by decide) w',
     congrArg (fun z => some (Value.bool z)) (decide_eq_false (by omega) : decide ((cmpP a (lerp a b (Rat.divInt (1 + n : Int) (2 + n + d : Int)))) ≥ (0 : Int)) = false),
     rfl,
     ⟨rfl, rfl, eqv_yes (eqL_P a a) (rfl) rfl⟩,
     rfl,
     ⟨rfl, rfl, eqv_yes (eqL_P (lerp a b (Rat.divInt (1 + n : Int) (2 + n + d : Int))) (lerp a b (Rat.divInt (1 + n : Int) (2 + n + d : Int)))) (rfl) rfl⟩,
     rfl,
     fun γ w' bw _ => fixed6_any w' (hT.later bw),
     rfl,
     fun γ w' bw _ => by have h := inBetween f1 (by decide) f2 (by decide) f6 (by decide) w' (hT.later bw); rw [decide_eq_true (bet_yes t0 t1 hne)] at h; exact h,
     rfl,
     fun γ w' bw _ => by have h := inBetween f2 (by decide) f1 (by decide) f6 (by decide) w' (hT.later bw); rw [decide_eq_true (bet_yes' t0 t1 hne)] at h; exact h,
     rfl,
     fun γ w' bw _ => by have h := inBetween f1 (by decide) f6 (by decide) f2 (by decide) w' (hT.later bw); rw [decide_eq_false (bet_no t1 hne)] at h; exact h,
     congrArg (fun z => some (Value.bool z)) (by first | rfl | assumption | decide | simp [*] : (!false) = true),
     rfl,
     rfl,
     ⟨rfl, rfl, eqv_yes (eqL_P a a) (rfl) rfl⟩,
     rfl,
     ⟨rfl, rfl, eqv_yes (eqL_P b b) (rfl) rfl⟩,
     rfl,
     rfl,
     congrArg (fun z => some (Value.bool z)) (by first | rfl | assumption | decide | simp [*] : (!false) = true)⟩
theorem Between_any (a_0 : Bool) (a_1 : ByteArray) (a_2 : Bool) (a_3 : ByteArray) (a_4 : Bool) (a_5 : ByteArray) (a_6 : Bool) (a_7 : ByteArray) (b_0 : Bool) (b_1 : ByteArray) (b_2 : Bool) (b_3 : ByteArray) (b_4 : Bool) (b_5 : ByteArray) (b_6 : Bool) (b_7 : ByteArray) (n d : Int) (w : World) (hT : TabC w) (ln : 0 ≤ n) (un : n ≤ 255) (ld : 0 ≤ d) (ud : d ≤ 255) :
    Calls Tryz.prog 7 #[.agg #[.bool a_0, .string a_1, .bool a_2, .string a_3, .bool a_4, .string a_5, .bool a_6, .string a_7], .agg #[.bool b_0, .string b_1, .bool b_2, .string b_3, .bool b_4, .string b_5, .bool b_6, .string b_7], .agg #[.int .u8 n, .int .u8 d]] w fun e w' => e = .returned (.bool true) ∧ Below w.heap.size w w' := by
  by_cases g : a_1.size ≤ 6 ∧ a_3.size ≤ 6 ∧ a_5.size ≤ 6 ∧ a_7.size ≤ 6 ∧ b_1.size ≤ 6 ∧ b_3.size ≤ 6 ∧ b_5.size ≤ 6 ∧ b_7.size ≤ 6
  rotate_left
  · exact Between_g a_0 a_1 a_2 a_3 a_4 a_5 a_6 a_7 b_0 b_1 b_2 b_3 b_4 b_5 b_6 b_7 n d w hT ln un ld ud g
  obtain ⟨ha_1, ha_3, ha_5, ha_7, hb_1, hb_3, hb_5, hb_7⟩ := g
  by_cases hz : cmpP (pt ⟨iv a_0 a_1, iv a_2 a_3, iv a_4 a_5, iv a_6 a_7⟩) (pt ⟨iv b_0 b_1, iv b_2 b_3, iv b_4 b_5, iv b_6 b_7⟩) = 0
  · exact Between_z a_0 a_1 a_2 a_3 a_4 a_5 a_6 a_7 b_0 b_1 b_2 b_3 b_4 b_5 b_6 b_7 n d w hT ln un ld ud ha_1 ha_3 ha_5 ha_7 hb_1 hb_3 hb_5 hb_7 hz
  by_cases hc : 0 < cmpP (pt ⟨iv a_0 a_1, iv a_2 a_3, iv a_4 a_5, iv a_6 a_7⟩) (pt ⟨iv b_0 b_1, iv b_2 b_3, iv b_4 b_5, iv b_6 b_7⟩)
  · exact Between_u a_0 a_1 a_2 a_3 a_4 a_5 a_6 a_7 b_0 b_1 b_2 b_3 b_4 b_5 b_6 b_7 n d w hT ln un ld ud ha_1 ha_3 ha_5 ha_7 hb_1 hb_3 hb_5 hb_7 hc
  · exact Between_d a_0 a_1 a_2 a_3 a_4 a_5 a_6 a_7 b_0 b_1 b_2 b_3 b_4 b_5 b_6 b_7 n d w hT ln un ld ud ha_1 ha_3 ha_5 ha_7 hb_1 hb_3 hb_5 hb_7 hz hc
end Go.Proofs.YtfapglafeghggaaGreatDoor
