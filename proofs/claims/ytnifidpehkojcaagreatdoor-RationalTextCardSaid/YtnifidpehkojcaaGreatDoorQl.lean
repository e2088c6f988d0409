/- Laws of layer 3. -/
import Derived.Test.YtnifidpehkojcaaGreatDoorQg
import Derived.Test.YtnifidpehkojcaaGreatDoorQp
import Derived.Test.YtnifidpehkojcaaGreatDoorQs
namespace Go.Proofs.YtnifidpehkojcaaGreatDoor
open Go.RowKit NM SX
theorem awake_parse : parseQV ⟨#[49, 50, 46, 53, 48]⟩ = .tuple #[QV (25 / 2 : Rat), .bool true] := by
  unfold parseQV
  rw [show fracV (restS ⟨#[49, 50, 46, 53, 48]⟩) = some (1250, 100) by decide +kernel, show negS ⟨#[49, 50, 46, 53, 48]⟩ = false by decide +kernel, ← norm_sign (by decide)]
  rw [show rq false (can 1250) (can 100) = (25 / 2 : Rat) by decide +kernel]
theorem awake_sum : textQ (((Rat.divInt (1 : Int) (2 : Int)) + (Rat.divInt (-2 : Int) (-6 : Int)))) = ⟨#[53, 47, 54]⟩ := by decide +kernel
theorem awake_half : textQ (25 / 2 : Rat) = ⟨#[50, 53, 47, 50]⟩ := by decide +kernel
theorem awake_any  (w : World) (hT : TabC w) :
    Calls Tryz.prog 11 #[] w fun e w' => e = .returned (.bool true) ∧ Below w.heap.size w w' := by
  have eP := awake_parse
  have f1 : (mg (1 : Int)).size ≤ 8 := mg_size_le (by decide)
  have f2 : (mg (2 : Int)).size ≤ 8 := mg_size_le (by decide)
  have f3 : Rk (Rat.divInt (1 : Int) (2 : Int)) 8 := Rk.divInt (k := 8) (by omega) (by omega) (by omega)
  have f4 : (mg (Rat.divInt (1 : Int) (2 : Int)).num).size ≤ 8 := f3.1
  have f5 : (dm (Rat.divInt (1 : Int) (2 : Int)).den).size ≤ 8 := f3.dm
  have f6 : (mg (-2 : Int)).size ≤ 8 := mg_size_le (by decide)
  have f7 : (mg (-6 : Int)).size ≤ 8 := mg_size_le (by decide)
  have f8 : Rk (Rat.divInt (-2 : Int) (-6 : Int)) 8 := Rk.divInt (k := 8) (by omega) (by omega) (by omega)
  have f9 : (mg (Rat.divInt (-2 : Int) (-6 : Int)).num).size ≤ 8 := f8.1
  have f10 : (dm (Rat.divInt (-2 : Int) (-6 : Int)).den).size ≤ 8 := f8.dm
  have f11 : Rk (25 / 2 : Rat) 8 := ⟨by decide +kernel, by decide +kernel⟩
  have f12 : (mg (25 / 2 : Rat).num).size ≤ 8 := f11.1
  have f13 : (dm (25 / 2 : Rat).den).size ≤ 8 := f11.dm
  have f14 : Rk ((Rat.divInt (1 : Int) (2 : Int)) + (Rat.divInt (-2 : Int) (-6 : Int))) 17 := Rk.add f3 f8
  have f15 : (mg ((Rat.divInt (1 : Int) (2 : Int)) + (Rat.divInt (-2 : Int) (-6 : Int))).num).size ≤ 17 := f14.1
  have f16 : (dm ((Rat.divInt (1 : Int) (2 : Int)) + (Rat.divInt (-2 : Int) (-6 : Int))).den).size ≤ 17 := f14.dm
  have f17 : Rk (-(Rat.divInt (1 : Int) (2 : Int))) 8 := Rk.neg f3
  have f18 : (mg (-(Rat.divInt (1 : Int) (2 : Int))).num).size ≤ 8 := f17.1
  have f19 : (dm (-(Rat.divInt (1 : Int) (2 : Int))).den).size ≤ 8 := f17.dm
  have f20 : (mg (flQ (-(Rat.divInt (1 : Int) (2 : Int))))).size ≤ 9 := flQ_size f17
  have f21 : (mg (-1 : Int)).size ≤ 8 := mg_size_le (by decide)
  exact SX.run (w := w) (.bool (sg (1 : Int)) :: .string (mg (1 : Int)) :: .bool (sg (2 : Int)) :: .string (mg (2 : Int)) :: .bool (sg (Rat.divInt (1 : Int) (2 : Int)).num) :: .string (mg (Rat.divInt (1 : Int) (2 : Int)).num) :: .string (dm (Rat.divInt (1 : Int) (2 : Int)).den) :: .bool (decide ((2 : Int) ≠ 0)) :: .bool (sg (-2 : Int)) :: .string (mg (-2 : Int)) :: .bool (sg (-6 : Int)) :: .string (mg (-6 : Int)) :: .bool (sg (Rat.divInt (-2 : Int) (-6 : Int)).num) :: .string (mg (Rat.divInt (-2 : Int) (-6 : Int)).num) :: .string (dm (Rat.divInt (-2 : Int) (-6 : Int)).den) :: .bool (decide ((-6 : Int) ≠ 0)) :: .bool (sg (25 / 2 : Rat).num) :: .string (mg (25 / 2 : Rat).num) :: .string (dm (25 / 2 : Rat).den) :: .bool true :: .bool (sg ((Rat.divInt (1 : Int) (2 : Int)) + (Rat.divInt (-2 : Int) (-6 : Int))).num) :: .string (mg ((Rat.divInt (1 : Int) (2 : Int)) + (Rat.divInt (-2 : Int) (-6 : Int))).num) :: .string (dm ((Rat.divInt (1 : Int) (2 : Int)) + (Rat.divInt (-2 : Int) (-6 : Int))).den) :: .string ⟨#[53, 47, 54]⟩ :: .bool true :: .bool (sg (-(Rat.divInt (1 : Int) (2 : Int))).num) :: .string (mg (-(Rat.divInt (1 : Int) (2 : Int))).num) :: .string (dm (-(Rat.divInt (1 : Int) (2 : Int))).den) :: .bool (sg (flQ (-(Rat.divInt (1 : Int) (2 : Int))))) :: .string (mg (flQ (-(Rat.divInt (1 : Int) (2 : Int))))) :: .bool (sg (-1 : Int)) :: .string (mg (-1 : Int)) :: .bool true :: .string ⟨#[50, 53, 47, 50]⟩ :: .bool true :: []) [.b true, .b true, .b true, .b true, .b true] [] 0 (.one (.c (.p (.at 34)))) [.call 34 [.c (.p (.lit (.int .i64 1)))] (.one (.agg [.p (.at 0), .p (.at 1)])) [], .call 34 [.c (.p (.lit (.int .i64 2)))] (.one (.agg [.p (.at 2), .p (.at 3)])) [], .call 14 [.agg [.p (.at 0), .p (.at 1)], .agg [.p (.at 2), .p (.at 3)]] (.tup [.agg [.p (.at 4), .p (.at 5), .p (.at 6)], .c (.p (.at 7))]) [], .call 34 [.c (.p (.lit (.int .i64 (-2))))] (.one (.agg [.p (.at 8), .p (.at 9)])) [], .call 34 [.c (.p (.lit (.int .i64 (-6))))] (.one (.agg [.p (.at 10), .p (.at 11)])) [], .call 14 [.agg [.p (.at 8), .p (.at 9)], .agg [.p (.at 10), .p (.at 11)]] (.tup [.agg [.p (.at 12), .p (.at 13), .p (.at 14)], .c (.p (.at 15))]) [], .call 37 [.c (.p (.lit (.string ⟨#[49, 50, 46, 53, 48]⟩)))] (.tup [.agg [.p (.at 16), .p (.at 17), .p (.at 18)], .c (.p (.at 19))]) [], .isB 7 true, .isB 15 true, .isB 19 true, .call 22 [.agg [.p (.at 4), .p (.at 5), .p (.at 6)], .agg [.p (.at 12), .p (.at 13), .p (.at 14)]] (.one (.agg [.p (.at 20), .p (.at 21), .p (.at 22)])) [], .call 36 [.agg [.p (.at 20), .p (.at 21), .p (.at 22)]] (.one (.c (.p (.at 23)))) [], .op2 false .eql (.p (.at 23)) (.p (.lit (.string ⟨#[53, 47, 54]⟩))) 24, .isB 24 true, .call 28 [.agg [.p (.at 4), .p (.at 5), .p (.at 6)]] (.one (.agg [.p (.at 25), .p (.at 26), .p (.at 27)])) [], .call 33 [.agg [.p (.at 25), .p (.at 26), .p (.at 27)]] (.one (.agg [.p (.at 28), .p (.at 29)])) [], .call 34 [.c (.p (.lit (.int .i64 (-1))))] (.one (.agg [.p (.at 30), .p (.at 31)])) [], .eqs false [.b, .s] [.p (.at 28), .p (.at 29)] [.p (.at 30), .p (.at 31)] 32, .isB 32 true, .call 36 [.agg [.p (.at 16), .p (.at 17), .p (.at 18)]] (.one (.c (.p (.at 33)))) [], .op2 false .eql (.p (.at 33)) (.p (.lit (.string ⟨#[50, 53, 47, 50]⟩))) 34] Tryz.func11 (by kernel_rfl) rfl (by kernel_rfl) rfl (by kernel_rfl)
    ⟨fun γ w' _ _ => FromInt64_any (1) w' (by omega) (by omega),
     fun γ w' _ _ => FromInt64_any (2) w' (by omega) (by omega),
     fun γ w' hb _ => by have h := Make_any (sg (1 : Int)) (sg (2 : Int)) (mg (1 : Int)) (mg (2 : Int)) w' (by omega) (by omega) (hT.later hb); (try simp only [iv_Z] at h); rw [makeV_eq] at h; exact h,
     fun γ w' _ _ => FromInt64_any (-2) w' (by omega) (by omega),
     fun γ w' _ _ => FromInt64_any (-6) w' (by omega) (by omega),
     fun γ w' hb _ => by have h := Make_any (sg (-2 : Int)) (sg (-6 : Int)) (mg (-2 : Int)) (mg (-6 : Int)) w' (by omega) (by omega) (hT.later hb); (try simp only [iv_Z] at h); rw [makeV_eq] at h; exact h,
     fun γ w' hb _ => by have h := ParseQ_any ⟨#[49, 50, 46, 53, 48]⟩ w' (by decide) (hT.later hb); rw [eP] at h; exact h,
     rfl,
     rfl,
     rfl,
     fun γ w' hb _ => by have h := AddQ_any (sg (Rat.divInt (1 : Int) (2 : Int)).num) (mg (Rat.divInt (1 : Int) (2 : Int)).num) (dm (Rat.divInt (1 : Int) (2 : Int)).den) (sg (Rat.divInt (-2 : Int) (-6 : Int)).num) (mg (Rat.divInt (-2 : Int) (-6 : Int)).num) (dm (Rat.divInt (-2 : Int) (-6 : Int)).den) w' (by omega) (by omega) (by omega) (by omega) (hT.later hb); (try simp only [rq_QV] at h); exact h,
     fun γ w' hb _ => by have h := FormatQ_any (sg ((Rat.divInt (1 : Int) (2 : Int)) + (Rat.divInt (-2 : Int) (-6 : Int))).num) (mg ((Rat.divInt (1 : Int) (2 : Int)) + (Rat.divInt (-2 : Int) (-6 : Int))).num) (dm ((Rat.divInt (1 : Int) (2 : Int)) + (Rat.divInt (-2 : Int) (-6 : Int))).den) w' (by omega) (by omega) (hT.later hb); simp only [rq_QV] at h; rw [awake_sum] at h; exact h,
     congrArg (fun z => some (Value.bool z)) (by decide +kernel : ((⟨#[53, 47, 54]⟩ : ByteArray).toList == (⟨#[53, 47, 54]⟩ : ByteArray).toList) = true),
     rfl,
     fun γ w' hb _ => by have h := NegQ_any (sg (Rat.divInt (1 : Int) (2 : Int)).num) (mg (Rat.divInt (1 : Int) (2 : Int)).num) (dm (Rat.divInt (1 : Int) (2 : Int)).den) w' (by omega) (by omega) (hT.later hb); (try simp only [rq_QV] at h); exact h,
     fun γ w' _ _ => by have h := FloorQ_any (sg (-(Rat.divInt (1 : Int) (2 : Int))).num) (mg (-(Rat.divInt (1 : Int) (2 : Int))).num) (dm (-(Rat.divInt (1 : Int) (2 : Int))).den) w' (by omega) (by omega); (try simp only [rq_QV] at h); exact h,
     fun γ w' _ _ => FromInt64_any (-1) w' (by omega) (by omega),
     ⟨rfl, rfl, show Value.bool true = Value.bool (false != eqL [.bool (sg (flQ (-(Rat.divInt (1 : Int) (2 : Int))))), .string (mg (flQ (-(Rat.divInt (1 : Int) (2 : Int)))))] [.bool (sg (-1 : Int)), .string (mg (-1 : Int))]) from by rw [eqL_Z, decide_eq_true (by decide +kernel : (flQ (-(Rat.divInt (1 : Int) (2 : Int)))) = (-1 : Int))]; rfl⟩,
     rfl,
     fun γ w' hb _ => by have h := FormatQ_any (sg (25 / 2 : Rat).num) (mg (25 / 2 : Rat).num) (dm (25 / 2 : Rat).den) w' (by omega) (by omega) (hT.later hb); simp only [rq_QV] at h; rw [awake_half] at h; exact h,
     congrArg (fun z => some (Value.bool z)) (by decide +kernel : ((⟨#[50, 53, 47, 50]⟩ : ByteArray).toList == (⟨#[50, 53, 47, 50]⟩ : ByteArray).toList) = true)⟩
theorem divInt_one1 (z : Int) : Rat.divInt z 1 = (z : Rat) := Rat.mkRat_self (z : Rat)
theorem sgn_ne (y : Rat) : (decide (y ≠ 0) == (sgQ y != 0)) = true := by
  by_cases h : y = 0
  · rw [h]; rfl
  · have h2 : sgQ y ≠ 0 := fun e => h (sgQ_eq_zero.1 e)
    rw [decide_eq_true h, bne_iff_ne.2 h2]; rfl
theorem ord_eq (x y : Rat) : (!((cmpQ x y == 0) == (false != decide (x = y)))) = false := by
  by_cases h : x = y
  · rw [beq_iff_eq.2 (cmpQ_zero.2 h), decide_eq_true h]; rfl
  · rw [beq_eq_false_iff_ne.2 (fun e => h (cmpQ_zero.1 e)), decide_eq_false h]; rfl
theorem neg_cmp (x y : Rat) : IntKind.wrap .i64 (0 - cmpQ y x) = cmpQ x y := by
  have h1 := sgQ_bd (x - y)
  rw [cmpQ_swap x y]
  show IntKind.wrap .i64 (0 - -sgQ (x - y)) = sgQ (x - y)
  rw [wrap_small (by omega) (by omega)]
  omega
theorem mul_sg (x y z : Rat) : IntKind.wrap .i64 (cmpQ x y * sgQ z) = cmpQ x y * sgQ z := by
  have h1 := sgQ_bd ((x - y) * z)
  rw [sgQ_mul] at h1
  show IntKind.wrap .i64 (sgQ (x - y) * sgQ z) = sgQ (x - y) * sgQ z
  generalize sgQ (x - y) * sgQ z = c at *
  exact wrap_small (by omega) (by omega)
theorem sgQ_ge {x : Rat} (h : 0 ≤ x) : 0 ≤ sgQ x := by
  rcases sgQ_cases x with ⟨_, h2⟩ | ⟨_, h2⟩ | ⟨h2, _⟩
  · omega
  · omega
  · exact absurd h2 (Rat.not_lt.2 h)
theorem sgQ_lt {x : Rat} (h : x < 0) : sgQ x < 0 := by rw [sgQ_neg h]; decide
theorem fl_low (x : Rat) : 0 ≤ sgQ (x - Rat.divInt (flQ x) 1) := by
  have h1 := Rat.floor_le x
  have e : Rat.divInt (flQ x) 1 = ((x.floor : Int) : Rat) := by rw [Rat.floor_def]; exact divInt_one1 _
  rw [e]
  exact sgQ_ge (by grind)
theorem fl_high (x : Rat) : cmpQ (x - Rat.divInt (flQ x) 1) (1 : Rat) < 0 := by
  have h1 := Rat.lt_floor_add_one x
  have e : Rat.divInt (flQ x) 1 = ((x.floor : Int) : Rat) := by rw [Rat.floor_def]; exact divInt_one1 _
  rw [e]
  rw [Rat.intCast_add] at h1
  exact sgQ_lt (by grind)
theorem textQ_size {q : Rat} {k : Nat} (h : Rk q k) : (textQ q).size ≤ 6 * k + 5 := by
  have h1 := decZ_size h.1
  have h2 := decZ_size (mg_den h)
  have h3 : (⟨#[47]⟩ : ByteArray).size = 1 := rfl
  unfold textQ
  split
  · omega
  · rw [ByteArray.size_append, ByteArray.size_append, h3]; omega
theorem parse_parts (s : ByteArray) : ∃ q b, parseQV s = .tuple #[QV q, .bool b] := by
  unfold parseQV
  generalize fracV (restS s) = o
  cases o with
  | none => exact ⟨0, false, rfl⟩
  | some p => exact ⟨_, _, makeV_eq _ _⟩
theorem sgZ_ne (z : Int) : (decide (z ≠ 0) == (cmpZ z 0 != 0)) = true := by
  by_cases h : z = 0
  · rw [h]; rfl
  · have h2 : cmpZ z 0 ≠ 0 := by unfold cmpZ; split <;> (try split) <;> omega
    rw [decide_eq_true h, bne_iff_ne.2 h2]; rfl
theorem cmpZ_is0 {z : Int} : (cmpZ z 0 == 0) = decide (z = 0) := by
  rw [Bool.eq_iff_iff, beq_iff_eq, decide_eq_true_eq]
  unfold cmpZ
  split <;> (try split) <;> omega
theorem mul_ne {b c : Int} (h : c ≠ 0) : (decide (b ≠ 0) == decide (b * c ≠ 0)) = true := by
  rw [beq_iff_eq]
  exact decide_eq_decide.2 ⟨fun h1 => Int.mul_ne_zero h1 h, fun h1 e => h1 (by rw [e, Int.zero_mul])⟩
theorem Arithmetic_yes (n : Bool) (s t : ByteArray) (m : Bool) (p q : ByteArray) (w : World) (hT : TabC w) (h : ¬ (s.size ≤ 24 ∧ t.size ≤ 24 ∧ p.size ≤ 24 ∧ q.size ≤ 24)) :
    Calls Tryz.prog 4 #[.agg #[.bool n, .string s, .string t], .agg #[.bool m, .string p, .string q]] w fun e w' => e = .returned (.bool true) ∧ Below w.heap.size w w' := by
  exact SX.run (w := w) [.bool n, .string s, .string t, .bool m, .string p, .string q, .bool true, .bool true] [.b true] [.agg [.p (.at 0), .p (.at 1), .p (.at 2)], .agg [.p (.at 3), .p (.at 4), .p (.at 5)]] 6 (.one (.c (.p (.at 7)))) [.call 10 [.c (.p (.slc 2 0 2 2))] (.one (.c (.p (.at 6)))) [(2049, .p (.at 0)), (2050, .p (.at 1)), (2051, .p (.at 2)), (2052, .p (.at 3)), (2053, .p (.at 4)), (2054, .p (.at 5))], .isB 6 true, .call 11 [] (.one (.c (.p (.at 7)))) []] Tryz.func4 (by kernel_rfl) rfl (by kernel_rfl) rfl (by kernel_rfl)
    ⟨fun γ w' _ hm => great2_yes n s t m p q w' (γ 2) (SX.mem_at (b := 2) (l := [.p (.at 0), .p (.at 1), .p (.at 2), .p (.at 3), .p (.at 4), .p (.at 5)]) hm rfl) h,
     rfl,
     fun γ w' hb _ => awake_any w' (hT.later hb)⟩
theorem Arithmetic_no (n : Bool) (s t : ByteArray) (m : Bool) (p q : ByteArray) (w : World) (hT : TabC w) (hs : s.size ≤ 24) (ht : t.size ≤ 24) (hp : p.size ≤ 24) (hq : q.size ≤ 24) :
    Calls Tryz.prog 4 #[.agg #[.bool n, .string s, .string t], .agg #[.bool m, .string p, .string q]] w fun e w' => e = .returned (.bool true) ∧ Below w.heap.size w w' := by
  have f1 : Rk (rq n s t) 24 := Rk.rq (n := n) (by omega) (by omega) (by omega)
  have f2 : Rk (rq m p q) 24 := Rk.rq (n := m) (by omega) (by omega) (by omega)
  have f3 : Rk ((rq n s t) + (rq m p q)) 49 := Rk.add f1 f2
  have f4 : (mg ((rq n s t) + (rq m p q)).num).size ≤ 49 := f3.1
  have f5 : (dm ((rq n s t) + (rq m p q)).den).size ≤ 49 := f3.dm
  have f6 : Rk ((rq n s t) - (rq m p q)) 49 := Rk.sub f1 f2
  have f7 : (mg ((rq n s t) - (rq m p q)).num).size ≤ 49 := f6.1
  have f8 : (dm ((rq n s t) - (rq m p q)).den).size ≤ 49 := f6.dm
  have f9 : Rk ((rq n s t) * (rq m p q)) 48 := Rk.mul f1 f2 (by omega)
  have f10 : (mg ((rq n s t) * (rq m p q)).num).size ≤ 48 := f9.1
  have f11 : (dm ((rq n s t) * (rq m p q)).den).size ≤ 48 := f9.dm
  have f12 : Rk (-(rq n s t)) 24 := Rk.neg f1
  have f13 : (mg (-(rq n s t)).num).size ≤ 24 := f12.1
  have f14 : (dm (-(rq n s t)).den).size ≤ 24 := f12.dm
  have f15 : (mg (rq n s t).num).size ≤ 24 := f1.1
  have f16 : (dm (rq n s t).den).size ≤ 24 := f1.dm
  have f17 : (mg (rq m p q).num).size ≤ 24 := f2.1
  have f18 : (dm (rq m p q).den).size ≤ 24 := f2.dm
  exact SX.run (w := w) (.bool n :: .string s :: .string t :: .bool m :: .string p :: .string q :: .bool false :: .bool (sg ((rq n s t) / (rq m p q)).num) :: .string (mg ((rq n s t) / (rq m p q)).num) :: .string (dm ((rq n s t) / (rq m p q)).den) :: .bool (decide ((rq m p q) ≠ 0)) :: .bool (sg ((rq n s t) / (rq m p q)).num) :: .string (mg ((rq n s t) / (rq m p q)).num) :: .string (dm ((rq n s t) / (rq m p q)).den) :: .bool (decide ((rq m p q) ≠ 0)) :: .bool (sg ((rq n s t) + (rq m p q)).num) :: .string (mg ((rq n s t) + (rq m p q)).num) :: .string (dm ((rq n s t) + (rq m p q)).den) :: .bool (sg ((rq n s t) + (rq m p q)).num) :: .string (mg ((rq n s t) + (rq m p q)).num) :: .string (dm ((rq n s t) + (rq m p q)).den) :: .bool true :: .bool (sg ((rq n s t) - (rq m p q)).num) :: .string (mg ((rq n s t) - (rq m p q)).num) :: .string (dm ((rq n s t) - (rq m p q)).den) :: .bool (sg ((rq n s t) - (rq m p q)).num) :: .string (mg ((rq n s t) - (rq m p q)).num) :: .string (dm ((rq n s t) - (rq m p q)).den) :: .bool true :: .bool (sg ((rq n s t) * (rq m p q)).num) :: .string (mg ((rq n s t) * (rq m p q)).num) :: .string (dm ((rq n s t) * (rq m p q)).den) :: .bool (sg ((rq n s t) * (rq m p q)).num) :: .string (mg ((rq n s t) * (rq m p q)).num) :: .string (dm ((rq n s t) * (rq m p q)).den) :: .bool true :: .bool (sg (-(rq n s t)).num) :: .string (mg (-(rq n s t)).num) :: .string (dm (-(rq n s t)).den) :: .bool (sg (-(rq n s t)).num) :: .string (mg (-(rq n s t)).num) :: .string (dm (-(rq n s t)).den) :: .bool true :: .bool true :: .bool true :: .int .i64 (cmpQ (rq n s t) (rq m p q)) :: .int .i64 (cmpQ (rq n s t) (rq m p q)) :: .bool true :: .bool (sg ((rq n s t) + (rq m p q)).num) :: .string (mg ((rq n s t) + (rq m p q)).num) :: .string (dm ((rq n s t) + (rq m p q)).den) :: .bool (sg (rq n s t).num) :: .string (mg (rq n s t).num) :: .string (dm (rq n s t).den) :: .bool (sg (rq m p q).num) :: .string (mg (rq m p q).num) :: .string (dm (rq m p q).den) :: .bool (sg ((rq n s t) + (rq m p q)).num) :: .string (mg ((rq n s t) + (rq m p q)).num) :: .string (dm ((rq n s t) + (rq m p q)).den) :: .bool true :: .bool true :: []) [.b false, .b true, .b true, .b true, .b true, .b true, .b true, .b true, .b true] [.agg [.p (.at 0), .p (.at 1), .p (.at 2)], .agg [.p (.at 3), .p (.at 4), .p (.at 5)]] 6 (.one (.c (.p (.at 61)))) (.call 10 [.c (.p (.slc 2 0 2 2))] (.one (.c (.p (.at 6)))) [(2049, .p (.at 0)), (2050, .p (.at 1)), (2051, .p (.at 2)), (2052, .p (.at 3)), (2053, .p (.at 4)), (2054, .p (.at 5))] :: .isB 6 false :: .call 20 [.agg [.p (.at 0), .p (.at 1), .p (.at 2)], .agg [.p (.at 3), .p (.at 4), .p (.at 5)]] (.tup [.agg [.p (.at 7), .p (.at 8), .p (.at 9)], .c (.p (.at 10))]) [] :: .call 21 [.agg [.p (.at 0), .p (.at 1), .p (.at 2)], .agg [.p (.at 3), .p (.at 4), .p (.at 5)]] (.tup [.agg [.p (.at 11), .p (.at 12), .p (.at 13)], .c (.p (.at 14))]) [] :: .call 22 [.agg [.p (.at 0), .p (.at 1), .p (.at 2)], .agg [.p (.at 3), .p (.at 4), .p (.at 5)]] (.one (.agg [.p (.at 15), .p (.at 16), .p (.at 17)])) [] :: .call 23 [.agg [.p (.at 0), .p (.at 1), .p (.at 2)], .agg [.p (.at 3), .p (.at 4), .p (.at 5)]] (.one (.agg [.p (.at 18), .p (.at 19), .p (.at 20)])) [] :: .eqs false [.b, .s, .s] [.p (.at 15), .p (.at 16), .p (.at 17)] [.p (.at 18), .p (.at 19), .p (.at 20)] 21 :: .isB 21 true :: .call 24 [.agg [.p (.at 0), .p (.at 1), .p (.at 2)], .agg [.p (.at 3), .p (.at 4), .p (.at 5)]] (.one (.agg [.p (.at 22), .p (.at 23), .p (.at 24)])) [] :: .call 25 [.agg [.p (.at 0), .p (.at 1), .p (.at 2)], .agg [.p (.at 3), .p (.at 4), .p (.at 5)]] (.one (.agg [.p (.at 25), .p (.at 26), .p (.at 27)])) [] :: .eqs false [.b, .s, .s] [.p (.at 22), .p (.at 23), .p (.at 24)] [.p (.at 25), .p (.at 26), .p (.at 27)] 28 :: .isB 28 true :: .call 26 [.agg [.p (.at 0), .p (.at 1), .p (.at 2)], .agg [.p (.at 3), .p (.at 4), .p (.at 5)]] (.one (.agg [.p (.at 29), .p (.at 30), .p (.at 31)])) [] :: .call 27 [.agg [.p (.at 0), .p (.at 1), .p (.at 2)], .agg [.p (.at 3), .p (.at 4), .p (.at 5)]] (.one (.agg [.p (.at 32), .p (.at 33), .p (.at 34)])) [] :: .eqs false [.b, .s, .s] [.p (.at 29), .p (.at 30), .p (.at 31)] [.p (.at 32), .p (.at 33), .p (.at 34)] 35 :: .isB 35 true :: .call 28 [.agg [.p (.at 0), .p (.at 1), .p (.at 2)]] (.one (.agg [.p (.at 36), .p (.at 37), .p (.at 38)])) [] :: .call 29 [.agg [.p (.at 0), .p (.at 1), .p (.at 2)]] (.one (.agg [.p (.at 39), .p (.at 40), .p (.at 41)])) [] :: .eqs false [.b, .s, .s] [.p (.at 36), .p (.at 37), .p (.at 38)] [.p (.at 39), .p (.at 40), .p (.at 41)] 42 :: .isB 42 true :: .eqs false [.b, .s, .s] [.p (.at 7), .p (.at 8), .p (.at 9)] [.p (.at 11), .p (.at 12), .p (.at 13)] 43 :: .isB 43 true :: .op2 true .eql (.p (.at 10)) (.p (.at 14)) 44 :: .isB 44 true :: .call 30 [.agg [.p (.at 0), .p (.at 1), .p (.at 2)], .agg [.p (.at 3), .p (.at 4), .p (.at 5)]] (.one (.c (.p (.at 45)))) [] :: .call 31 [.agg [.p (.at 0), .p (.at 1), .p (.at 2)], .agg [.p (.at 3), .p (.at 4), .p (.at 5)]] (.one (.c (.p (.at 46)))) [] :: .op2 false .eql (.p (.at 45)) (.p (.at 46)) 47 :: .isB 47 true :: .call 22 [.agg [.p (.at 0), .p (.at 1), .p (.at 2)], .agg [.p (.at 3), .p (.at 4), .p (.at 5)]] (.one (.agg [.p (.at 48), .p (.at 49), .p (.at 50)])) [] :: .call 16 [.agg [.p (.at 0), .p (.at 1), .p (.at 2)]] (.one (.agg [.p (.at 51), .p (.at 52), .p (.at 53)])) [] :: .call 16 [.agg [.p (.at 3), .p (.at 4), .p (.at 5)]] (.one (.agg [.p (.at 54), .p (.at 55), .p (.at 56)])) [] :: .call 22 [.agg [.p (.at 51), .p (.at 52), .p (.at 53)], .agg [.p (.at 54), .p (.at 55), .p (.at 56)]] (.one (.agg [.p (.at 57), .p (.at 58), .p (.at 59)])) [] :: .eqs false [.b, .s, .s] [.p (.at 48), .p (.at 49), .p (.at 50)] [.p (.at 57), .p (.at 58), .p (.at 59)] 60 :: .isB 60 true :: .call 11 [] (.one (.c (.p (.at 61)))) [] :: []) Tryz.func4 (by kernel_rfl) rfl (by kernel_rfl) rfl (by kernel_rfl)
    ⟨fun γ w' _ hm => great2_no n s t m p q w' (γ 2) (SX.mem_at (b := 2) (l := [.p (.at 0), .p (.at 1), .p (.at 2), .p (.at 3), .p (.at 4), .p (.at 5)]) hm rfl) hs ht hp hq,
     rfl,
     fun γ w' hb _ => by have h := DivQ_any n s t m p q w' (by omega) (by omega) (by omega) (by omega) (hT.later hb); (try simp only [rq_QV] at h); rw [quoQ_eq] at h; exact h,
     fun γ w' _ _ => by have h := rDiv_any n s t m p q w' (by omega) (by omega) (by omega) (by omega); (try simp only [rq_QV] at h); rw [quoQ_eq] at h; exact h,
     fun γ w' hb _ => AddQ_any n s t m p q w' (by omega) (by omega) (by omega) (by omega) (hT.later hb),
     fun γ w' _ _ => rAdd_any n s t m p q w' (by omega) (by omega) (by omega) (by omega),
     ⟨rfl, rfl, show Value.bool true = Value.bool (false != eqL [.bool (sg ((rq n s t) + (rq m p q)).num), .string (mg ((rq n s t) + (rq m p q)).num), .string (dm ((rq n s t) + (rq m p q)).den)] [.bool (sg ((rq n s t) + (rq m p q)).num), .string (mg ((rq n s t) + (rq m p q)).num), .string (dm ((rq n s t) + (rq m p q)).den)]) from by rw [eqL_Q, decide_eq_true (rfl : ((rq n s t) + (rq m p q)) = ((rq n s t) + (rq m p q)))]; rfl⟩,
     rfl,
     fun γ w' hb _ => SubQ_any n s t m p q w' (by omega) (by omega) (by omega) (by omega) (hT.later hb),
     fun γ w' _ _ => rSub_any n s t m p q w' (by omega) (by omega) (by omega) (by omega),
     ⟨rfl, rfl, show Value.bool true = Value.bool (false != eqL [.bool (sg ((rq n s t) - (rq m p q)).num), .string (mg ((rq n s t) - (rq m p q)).num), .string (dm ((rq n s t) - (rq m p q)).den)] [.bool (sg ((rq n s t) - (rq m p q)).num), .string (mg ((rq n s t) - (rq m p q)).num), .string (dm ((rq n s t) - (rq m p q)).den)]) from by rw [eqL_Q, decide_eq_true (rfl : ((rq n s t) - (rq m p q)) = ((rq n s t) - (rq m p q)))]; rfl⟩,
     rfl,
     fun γ w' hb _ => MulQ_any n s t m p q w' (by omega) (by omega) (by omega) (by omega) (hT.later hb),
     fun γ w' _ _ => rMul_any n s t m p q w' (by omega) (by omega) (by omega) (by omega),
     ⟨rfl, rfl, show Value.bool true = Value.bool (false != eqL [.bool (sg ((rq n s t) * (rq m p q)).num), .string (mg ((rq n s t) * (rq m p q)).num), .string (dm ((rq n s t) * (rq m p q)).den)] [.bool (sg ((rq n s t) * (rq m p q)).num), .string (mg ((rq n s t) * (rq m p q)).num), .string (dm ((rq n s t) * (rq m p q)).den)]) from by rw [eqL_Q, decide_eq_true (rfl : ((rq n s t) * (rq m p q)) = ((rq n s t) * (rq m p q)))]; rfl⟩,
     rfl,
     fun γ w' hb _ => NegQ_any n s t w' (by omega) (by omega) (hT.later hb),
     fun γ w' _ _ => rNeg_any n s t w' (by omega) (by omega),
     ⟨rfl, rfl, show Value.bool true = Value.bool (false != eqL [.bool (sg (-(rq n s t)).num), .string (mg (-(rq n s t)).num), .string (dm (-(rq n s t)).den)] [.bool (sg (-(rq n s t)).num), .string (mg (-(rq n s t)).num), .string (dm (-(rq n s t)).den)]) from by rw [eqL_Q, decide_eq_true (rfl : (-(rq n s t)) = (-(rq n s t)))]; rfl⟩,
     rfl,
     ⟨rfl, rfl, show Value.bool true = Value.bool (false != eqL [.bool (sg ((rq n s t) / (rq m p q)).num), .string (mg ((rq n s t) / (rq m p q)).num), .string (dm ((rq n s t) / (rq m p q)).den)] [.bool (sg ((rq n s t) / (rq m p q)).num), .string (mg ((rq n s t) / (rq m p q)).num), .string (dm ((rq n s t) / (rq m p q)).den)]) from by rw [eqL_Q, decide_eq_true (rfl : ((rq n s t) / (rq m p q)) = ((rq n s t) / (rq m p q)))]; rfl⟩,
     rfl,
     congrArg (fun z => some (Value.bool z)) (by first | rfl | assumption | decide | simp [*] : ((decide ((rq m p q) ≠ 0)) == (decide ((rq m p q) ≠ 0))) = true),
     rfl,
     fun γ w' _ _ => CmpQ_any n s t m p q w' (by omega) (by omega) (by omega) (by omega),
     fun γ w' _ _ => rCmp_any n s t m p q w' (by omega) (by omega) (by omega) (by omega),
     congrArg (fun z => some (Value.bool z)) (by first | rfl | assumption | decide | simp [*] : ((cmpQ (rq n s t) (rq m p q)) == (cmpQ (rq n s t) (rq m p q))) = true),
     rfl,
     fun γ w' hb _ => AddQ_any n s t m p q w' (by omega) (by omega) (by omega) (by omega) (hT.later hb),
     fun γ w' hb _ => NormQ_any n s t w' (by omega) (by omega) (hT.later hb),
     fun γ w' hb _ => NormQ_any m p q w' (by omega) (by omega) (hT.later hb),
     fun γ w' hb _ => by have h := AddQ_any (sg (rq n s t).num) (mg (rq n s t).num) (dm (rq n s t).den) (sg (rq m p q).num) (mg (rq m p q).num) (dm (rq m p q).den) w' (by omega) (by omega) (by omega) (by omega) (hT.later hb); (try simp only [rq_QV] at h); exact h,
     ⟨rfl, rfl, show Value.bool true = Value.bool (false != eqL [.bool (sg ((rq n s t) + (rq m p q)).num), .string (mg ((rq n s t) + (rq m p q)).num), .string (dm ((rq n s t) + (rq m p q)).den)] [.bool (sg ((rq n s t) + (rq m p q)).num), .string (mg ((rq n s t) + (rq m p q)).num), .string (dm ((rq n s t) + (rq m p q)).den)]) from by rw [eqL_Q, decide_eq_true (rfl : ((rq n s t) + (rq m p q)) = ((rq n s t) + (rq m p q)))]; rfl⟩,
     rfl,
     fun γ w' hb _ => awake_any w' (hT.later hb)⟩
theorem Arithmetic_any (n : Bool) (s t : ByteArray) (m : Bool) (p q : ByteArray) (w : World) (hT : TabC w) :
    Calls Tryz.prog 4 #[.agg #[.bool n, .string s, .string t], .agg #[.bool m, .string p, .string q]] w fun e w' => e = .returned (.bool true) ∧ Below w.heap.size w w' := by
  by_cases h : s.size ≤ 24 ∧ t.size ≤ 24 ∧ p.size ≤ 24 ∧ q.size ≤ 24
  · obtain ⟨hs, ht, hp, hq⟩ := h
    exact Arithmetic_no n s t m p q w hT hs ht hp hq
  · exact Arithmetic_yes n s t m p q w hT h
theorem CanonicalForm_yes (n : Bool) (s t : ByteArray) (m : Bool) (p : ByteArray) (k : Bool) (u : ByteArray) (w : World) (hT : TabC w) (h : ¬ (s.size ≤ 24 ∧ t.size ≤ 24 ∧ p.size ≤ 24 ∧ u.size ≤ 24)) :
    Calls Tryz.prog 3 #[.agg #[.bool n, .string s, .string t], .agg #[.bool m, .string p], .agg #[.bool k, .string u]] w fun e w' => e = .returned (.bool true) ∧ Below w.heap.size w w' := by
  exact SX.run (w := w) [.bool n, .string s, .string t, .bool m, .string p, .bool k, .string u, .bool true, .bool true] [.b true] [.agg [.p (.at 0), .p (.at 1), .p (.at 2)], .agg [.p (.at 3), .p (.at 4)], .agg [.p (.at 5), .p (.at 6)]] 7 (.one (.c (.p (.at 8)))) [.call 10 [.c (.p (.slc 3 0 2 2))] (.one (.c (.p (.at 7)))) [(3073, .p (.at 0)), (3074, .p (.at 1)), (3075, .p (.at 2)), (3076, .p (.lit (.bool false))), (3077, .p (.at 4)), (3078, .p (.at 6))], .isB 7 true, .call 11 [] (.one (.c (.p (.at 8)))) []] Tryz.func3 (by kernel_rfl) rfl (by kernel_rfl) rfl (by kernel_rfl)
    ⟨fun γ w' _ hm => great2_yes n s t false p u w' (γ 3) (SX.mem_at (b := 3) (l := [.p (.at 0), .p (.at 1), .p (.at 2), .p (.lit (.bool false)), .p (.at 4), .p (.at 6)]) hm rfl) h,
     rfl,
     fun γ w' hb _ => awake_any w' (hT.later hb)⟩
theorem CanonicalForm_no (n : Bool) (s t : ByteArray) (m : Bool) (p : ByteArray) (k : Bool) (u : ByteArray) (w : World) (hT : TabC w) (hs : s.size ≤ 24) (ht : t.size ≤ 24) (hp : p.size ≤ 24) (hu : u.size ≤ 24) :
    Calls Tryz.prog 3 #[.agg #[.bool n, .string s, .string t], .agg #[.bool m, .string p], .agg #[.bool k, .string u]] w fun e w' => e = .returned (.bool true) ∧ Below w.heap.size w w' := by
  have f1 : Rk (rq n s t) 24 := Rk.rq (n := n) (by omega) (by omega) (by omega)
  have f2 : (mg (rq n s t).num).size ≤ 24 := f1.1
  have f3 : (dm (rq n s t).den).size ≤ 24 := f1.dm
  have f4 : (mg (iv m p)).size ≤ 24 := mg_iv_size (n := m) hp
  have f5 : (mg (iv k u)).size ≤ 24 := mg_iv_size (n := k) hu
  have f6 : Rk (Rat.divInt (iv m p) (iv k u)) 24 := Rk.divInt (k := 24) (by omega) (by omega) (by omega)
  have f7 : (mg (Rat.divInt (iv m p) (iv k u)).num).size ≤ 24 := f6.1
  have f8 : (dm (Rat.divInt (iv m p) (iv k u)).den).size ≤ 24 := f6.dm
  exact SX.run (w := w) (.bool n :: .string s :: .string t :: .bool m :: .string p :: .bool k :: .string u :: .bool false :: .bool (sg ((rq n s t).num)) :: .string (mg ((rq n s t).num)) :: .bool (sg (((rq n s t).den : Nat) : Int)) :: .string (mg (((rq n s t).den : Nat) : Int)) :: .bool (sg ((rq n s t).num)) :: .string (mg ((rq n s t).num)) :: .bool (sg (((rq n s t).den : Nat) : Int)) :: .string (mg (((rq n s t).den : Nat) : Int)) :: .bool (sg (Rat.divInt (iv m p) (iv k u)).num) :: .string (mg (Rat.divInt (iv m p) (iv k u)).num) :: .string (dm (Rat.divInt (iv m p) (iv k u)).den) :: .bool (decide ((iv k u) ≠ 0)) :: .bool (sg (Rat.divInt (iv m p) (iv k u)).num) :: .string (mg (Rat.divInt (iv m p) (iv k u)).num) :: .string (dm (Rat.divInt (iv m p) (iv k u)).den) :: .bool (decide ((iv k u) ≠ 0)) :: .bool (sg (rq n s t).num) :: .string (mg (rq n s t).num) :: .string (dm (rq n s t).den) :: .bool (sg (rq n s t).num) :: .string (mg (rq n s t).num) :: .string (dm (rq n s t).den) :: .bool true :: .bool true :: .bool true :: .int .i64 (sgQ (rq n s t)) :: .int .i64 (sgQ (rq n s t)) :: .bool true :: .bool true :: .bool true :: .bool true :: []) [.b false, .b true, .b true, .b true, .b true, .b true, .b true, .b true, .b true, .b true] [.agg [.p (.at 0), .p (.at 1), .p (.at 2)], .agg [.p (.at 3), .p (.at 4)], .agg [.p (.at 5), .p (.at 6)]] 7 (.one (.c (.p (.at 38)))) [.call 10 [.c (.p (.slc 3 0 2 2))] (.one (.c (.p (.at 7)))) [(3073, .p (.at 0)), (3074, .p (.at 1)), (3075, .p (.at 2)), (3076, .p (.lit (.bool false))), (3077, .p (.at 4)), (3078, .p (.at 6))], .isB 7 false, .call 12 [.agg [.p (.at 0), .p (.at 1), .p (.at 2)]] (.tup [.agg [.p (.at 8), .p (.at 9)], .agg [.p (.at 10), .p (.at 11)]]) [], .call 13 [.agg [.p (.at 0), .p (.at 1), .p (.at 2)]] (.tup [.agg [.p (.at 12), .p (.at 13)], .agg [.p (.at 14), .p (.at 15)]]) [], .call 14 [.agg [.p (.at 3), .p (.at 4)], .agg [.p (.at 5), .p (.at 6)]] (.tup [.agg [.p (.at 16), .p (.at 17), .p (.at 18)], .c (.p (.at 19))]) [], .call 15 [.agg [.p (.at 3), .p (.at 4)], .agg [.p (.at 5), .p (.at 6)]] (.tup [.agg [.p (.at 20), .p (.at 21), .p (.at 22)], .c (.p (.at 23))]) [], .call 16 [.agg [.p (.at 0), .p (.at 1), .p (.at 2)]] (.one (.agg [.p (.at 24), .p (.at 25), .p (.at 26)])) [], .call 17 [.agg [.p (.at 0), .p (.at 1), .p (.at 2)]] (.one (.agg [.p (.at 27), .p (.at 28), .p (.at 29)])) [], .eqs false [.b, .s, .s] [.p (.at 24), .p (.at 25), .p (.at 26)] [.p (.at 27), .p (.at 28), .p (.at 29)] 30, .isB 30 true, .eqs false [.b, .s] [.p (.at 8), .p (.at 9)] [.p (.at 12), .p (.at 13)] 31, .isB 31 true, .eqs false [.b, .s] [.p (.at 10), .p (.at 11)] [.p (.at 14), .p (.at 15)] 32, .isB 32 true, .call 18 [.agg [.p (.at 0), .p (.at 1), .p (.at 2)]] (.one (.c (.p (.at 33)))) [], .call 19 [.agg [.p (.at 0), .p (.at 1), .p (.at 2)]] (.one (.c (.p (.at 34)))) [], .op2 false .eql (.p (.at 33)) (.p (.at 34)) 35, .isB 35 true, .eqs false [.b, .s, .s] [.p (.at 16), .p (.at 17), .p (.at 18)] [.p (.at 20), .p (.at 21), .p (.at 22)] 36, .isB 36 true, .op2 true .eql (.p (.at 19)) (.p (.at 23)) 37, .isB 37 true, .call 11 [] (.one (.c (.p (.at 38)))) []] Tryz.func3 (by kernel_rfl) rfl (by kernel_rfl) rfl (by kernel_rfl)
    ⟨fun γ w' _ hm => great2_no n s t false p u w' (γ 3) (SX.mem_at (b := 3) (l := [.p (.at 0), .p (.at 1), .p (.at 2), .p (.lit (.bool false)), .p (.at 4), .p (.at 6)]) hm rfl) hs ht hp hu,
     rfl,
     fun γ w' hb _ => NumDenom_any n s t w' (by omega) (by omega) (hT.later hb),
     fun γ w' _ _ => rParts_any n s t w' (by omega) (by omega),
     fun γ w' hb _ => by have h := Make_any m k p u w' (by omega) (by omega) (hT.later hb); (try simp only [iv_Z] at h); rw [makeV_eq] at h; exact h,
     fun γ w' _ _ => by have h := rMake_any m k p u w' (by omega) (by omega); (try simp only [iv_Z] at h); rw [makeV_eq] at h; exact h,
     fun γ w' hb _ => NormQ_any n s t w' (by omega) (by omega) (hT.later hb),
     fun γ w' _ _ => rNorm_any n s t w' (by omega) (by omega),
     ⟨rfl, rfl, show Value.bool true = Value.bool (false != eqL [.bool (sg (rq n s t).num), .string (mg (rq n s t).num), .string (dm (rq n s t).den)] [.bool (sg (rq n s t).num), .string (mg (rq n s t).num), .string (dm (rq n s t).den)]) from by rw [eqL_Q, decide_eq_true (rfl : (rq n s t) = (rq n s t))]; rfl⟩,
     rfl,
     ⟨rfl, rfl, show Value.bool true = Value.bool (false != eqL [.bool (sg ((rq n s t).num)), .string (mg ((rq n s t).num))] [.bool (sg ((rq n s t).num)), .string (mg ((rq n s t).num))]) from by rw [eqL_Z, decide_eq_true (rfl : ((rq n s t).num) = ((rq n s t).num))]; rfl⟩,
     rfl,
     ⟨rfl, rfl, show Value.bool true = Value.bool (false != eqL [.bool (sg (((rq n s t).den : Nat) : Int)), .string (mg (((rq n s t).den : Nat) : Int))] [.bool (sg (((rq n s t).den : Nat) : Int)), .string (mg (((rq n s t).den : Nat) : Int))]) from by rw [eqL_Z, decide_eq_true (rfl : (((rq n s t).den : Nat) : Int) = (((rq n s t).den : Nat) : Int))]; rfl⟩,
     rfl,
     fun γ w' _ _ => SignQ_any n s t w' (by omega) (by omega),
     fun γ w' _ _ => rSign_any n s t w' (by omega),
     congrArg (fun z => some (Value.bool z)) (beq_self_eq_true _ : ((sgQ (rq n s t)) == (sgQ (rq n s t))) = true),
     rfl,
     ⟨rfl, rfl, show Value.bool true = Value.bool (false != eqL [.bool (sg (Rat.divInt (iv m p) (iv k u)).num), .string (mg (Rat.divInt (iv m p) (iv k u)).num), .string (dm (Rat.divInt (iv m p) (iv k u)).den)] [.bool (sg (Rat.divInt (iv m p) (iv k u)).num), .string (mg (Rat.divInt (iv m p) (iv k u)).num), .string (dm (Rat.divInt (iv m p) (iv k u)).den)]) from by rw [eqL_Q, decide_eq_true (rfl : (Rat.divInt (iv m p) (iv k u)) = (Rat.divInt (iv m p) (iv k u)))]; rfl⟩,
     rfl,
     congrArg (fun z => some (Value.bool z)) (beq_self_eq_true _ : ((decide ((iv k u) ≠ 0)) == (decide ((iv k u) ≠ 0))) = true),
     rfl,
     fun γ w' hb _ => awake_any w' (hT.later hb)⟩
theorem CanonicalForm_any (n : Bool) (s t : ByteArray) (m : Bool) (p : ByteArray) (k : Bool) (u : ByteArray) (w : World) (hT : TabC w) :
    Calls Tryz.prog 3 #[.agg #[.bool n, .string s, .string t], .agg #[.bool m, .string p], .agg #[.bool k, .string u]] w fun e w' => e = .returned (.bool true) ∧ Below w.heap.size w w' := by
  by_cases h : s.size ≤ 24 ∧ t.size ≤ 24 ∧ p.size ≤ 24 ∧ u.size ≤ 24
  · obtain ⟨hs, ht, hp, hu⟩ := h
    exact CanonicalForm_no n s t m p k u w hT hs ht hp hu
  · exact CanonicalForm_yes n s t m p k u w hT h
theorem Floor_yes (n : Bool) (s t : ByteArray) (w : World) (hT : TabC w) (h : ¬ (s.size ≤ 24 ∧ t.size ≤ 24)) :
    Calls Tryz.prog 7 #[.agg #[.bool n, .string s, .string t]] w fun e w' => e = .returned (.bool true) ∧ Below w.heap.size w w' := by
  exact SX.run (w := w) [.bool n, .string s, .string t, .bool true, .bool true] [.b true] [.agg [.p (.at 0), .p (.at 1), .p (.at 2)]] 3 (.one (.c (.p (.at 4)))) [.call 10 [.c (.p (.slc 1 0 1 1))] (.one (.c (.p (.at 3)))) [(1025, .p (.at 0)), (1026, .p (.at 1)), (1027, .p (.at 2))], .isB 3 true, .call 11 [] (.one (.c (.p (.at 4)))) []] Tryz.func7 (by kernel_rfl) rfl (by kernel_rfl) rfl (by kernel_rfl)
    ⟨fun γ w' _ hm => great1_yes n s t w' (γ 1) (SX.mem_at (b := 1) (l := [.p (.at 0), .p (.at 1), .p (.at 2)]) hm rfl) h,
     rfl,
     fun γ w' hb _ => awake_any w' (hT.later hb)⟩
theorem Floor_no (n : Bool) (s t : ByteArray) (w : World) (hT : TabC w) (hs : s.size ≤ 24) (ht : t.size ≤ 24) :
    Calls Tryz.prog 7 #[.agg #[.bool n, .string s, .string t]] w fun e w' => e = .returned (.bool true) ∧ Below w.heap.size w w' := by
  have f1 : Rk (rq n s t) 24 := Rk.rq (n := n) (by omega) (by omega) (by omega)
  have f2 : (mg (flQ (rq n s t))).size ≤ 25 := flQ_size f1
  have f3 : (mg (1 : Int)).size ≤ 8 := mg_size_le (by first | decide | omega)
  have f4 : Rk (Rat.divInt (flQ (rq n s t)) (1 : Int)) 25 := Rk.divInt (k := 25) (by omega) (by omega) (by omega)
  have f5 : (mg (Rat.divInt (flQ (rq n s t)) (1 : Int)).num).size ≤ 25 := f4.1
  have f6 : (dm (Rat.divInt (flQ (rq n s t)) (1 : Int)).den).size ≤ 25 := f4.dm
  have f7 : Rk ((rq n s t) - (Rat.divInt (flQ (rq n s t)) (1 : Int))) 50 := Rk.sub f1 f4
  have f8 : (mg ((rq n s t) - (Rat.divInt (flQ (rq n s t)) (1 : Int))).num).size ≤ 50 := f7.1
  have f9 : (dm ((rq n s t) - (Rat.divInt (flQ (rq n s t)) (1 : Int))).den).size ≤ 50 := f7.dm
  have f10 : Rk (1 : Rat) 8 := ⟨by decide +kernel, by decide +kernel⟩
  have f11 : (mg (1 : Rat).num).size ≤ 8 := f10.1
  have f12 : (dm (1 : Rat).den).size ≤ 8 := f10.dm
  exact SX.run (w := w) [.bool n, .string s, .string t, .bool false, .bool (sg (flQ (rq n s t))), .string (mg (flQ (rq n s t))), .bool (sg (1 : Int)), .string (mg (1 : Int)), .bool (sg (Rat.divInt (flQ (rq n s t)) (1 : Int)).num), .string (mg (Rat.divInt (flQ (rq n s t)) (1 : Int)).num), .string (dm (Rat.divInt (flQ (rq n s t)) (1 : Int)).den), .bool (decide ((1 : Int) ≠ 0)), .bool (sg ((rq n s t) - (Rat.divInt (flQ (rq n s t)) (1 : Int))).num), .string (mg ((rq n s t) - (Rat.divInt (flQ (rq n s t)) (1 : Int))).num), .string (dm ((rq n s t) - (Rat.divInt (flQ (rq n s t)) (1 : Int))).den), .bool (sg (flQ (rq n s t))), .string (mg (flQ (rq n s t))), .bool true, .int .i64 (sgQ ((rq n s t) - (Rat.divInt (flQ (rq n s t)) (1 : Int)))), .bool true, .bool (sg (1 : Rat).num), .string (mg (1 : Rat).num), .string (dm (1 : Rat).den), .int .i64 (cmpQ ((rq n s t) - (Rat.divInt (flQ (rq n s t)) (1 : Int))) (1 : Rat)), .bool true, .bool true] [.b false, .b true, .b true, .b true, .b true, .b true] [.agg [.p (.at 0), .p (.at 1), .p (.at 2)]] 3 (.one (.c (.p (.at 25)))) [.call 10 [.c (.p (.slc 1 0 1 1))] (.one (.c (.p (.at 3)))) [(1025, .p (.at 0)), (1026, .p (.at 1)), (1027, .p (.at 2))], .isB 3 false, .call 33 [.agg [.p (.at 0), .p (.at 1), .p (.at 2)]] (.one (.agg [.p (.at 4), .p (.at 5)])) [], .call 34 [.c (.p (.lit (.int .i64 1)))] (.one (.agg [.p (.at 6), .p (.at 7)])) [], .call 14 [.agg [.p (.at 4), .p (.at 5)], .agg [.p (.at 6), .p (.at 7)]] (.tup [.agg [.p (.at 8), .p (.at 9), .p (.at 10)], .c (.p (.at 11))]) [], .call 24 [.agg [.p (.at 0), .p (.at 1), .p (.at 2)], .agg [.p (.at 8), .p (.at 9), .p (.at 10)]] (.one (.agg [.p (.at 12), .p (.at 13), .p (.at 14)])) [], .call 35 [.agg [.p (.at 0), .p (.at 1), .p (.at 2)]] (.one (.agg [.p (.at 15), .p (.at 16)])) [], .eqs false [.b, .s] [.p (.at 4), .p (.at 5)] [.p (.at 15), .p (.at 16)] 17, .isB 17 true, .isB 11 true, .call 18 [.agg [.p (.at 12), .p (.at 13), .p (.at 14)]] (.one (.c (.p (.at 18)))) [], .op2 false .geq (.p (.at 18)) (.p (.lit (.int .i64 0))) 19, .isB 19 true, .call 32 [.c (.p (.lit (.int .i64 1)))] (.one (.agg [.p (.at 20), .p (.at 21), .p (.at 22)])) [], .call 30 [.agg [.p (.at 12), .p (.at 13), .p (.at 14)], .agg [.p (.at 20), .p (.at 21), .p (.at 22)]] (.one (.c (.p (.at 23)))) [], .op2 false .lss (.p (.at 23)) (.p (.lit (.int .i64 0))) 24, .isB 24 true, .call 11 [] (.one (.c (.p (.at 25)))) []] Tryz.func7 (by kernel_rfl) rfl (by kernel_rfl) rfl (by kernel_rfl)
    ⟨fun γ w' _ hm => great1_no n s t w' (γ 1) (SX.mem_at (b := 1) (l := [.p (.at 0), .p (.at 1), .p (.at 2)]) hm rfl) hs ht,
     rfl,
     fun γ w' _ _ => FloorQ_any n s t w' (by omega) (by omega),
     fun γ w' _ _ => FromInt64_any 1 w' (by omega) (by omega),
     fun γ w' hb _ => by have h := Make_any (sg (flQ (rq n s t))) (sg (1 : Int)) (mg (flQ (rq n s t))) (mg (1 : Int)) w' (by omega) (by omega) (hT.later hb); (try simp only [iv_Z] at h); rw [makeV_eq] at h; exact h,
     fun γ w' hb _ => by have h := SubQ_any n s t (sg (Rat.divInt (flQ (rq n s t)) (1 : Int)).num) (mg (Rat.divInt (flQ (rq n s t)) (1 : Int)).num) (dm (Rat.divInt (flQ (rq n s t)) (1 : Int)).den) w' (by omega) (by omega) (by omega) (by omega) (hT.later hb); (try simp only [rq_QV] at h); exact h,
     fun γ w' _ _ => rFloor_any n s t w' (by omega) (by omega),
     ⟨rfl, rfl, show Value.bool true = Value.bool (false != eqL [.bool (sg (flQ (rq n s t))), .string (mg (flQ (rq n s t)))] [.bool (sg (flQ (rq n s t))), .string (mg (flQ (rq n s t)))]) from by rw [eqL_Z, decide_eq_true (rfl : (flQ (rq n s t)) = (flQ (rq n s t)))]; rfl⟩,
     rfl,
     rfl,
     fun γ w' _ _ => by have h := SignQ_any (sg ((rq n s t) - (Rat.divInt (flQ (rq n s t)) (1 : Int))).num) (mg ((rq n s t) - (Rat.divInt (flQ (rq n s t)) (1 : Int))).num) (dm ((rq n s t) - (Rat.divInt (flQ (rq n s t)) (1 : Int))).den) w' (by omega) (by omega); (try simp only [rq_QV] at h); exact h,
     congrArg (fun z => some (Value.bool z)) (decide_eq_true (fl_low _) : decide ((sgQ ((rq n s t) - (Rat.divInt (flQ (rq n s t)) (1 : Int)))) ≥ (0 : Int)) = true),
     rfl,
     fun γ w' _ _ => FromQ_any 1 w' (by omega) (by omega),
     fun γ w' _ _ => by have h := CmpQ_any (sg ((rq n s t) - (Rat.divInt (flQ (rq n s t)) (1 : Int))).num) (mg ((rq n s t) - (Rat.divInt (flQ (rq n s t)) (1 : Int))).num) (dm ((rq n s t) - (Rat.divInt (flQ (rq n s t)) (1 : Int))).den) (sg (1 : Rat).num) (mg (1 : Rat).num) (dm (1 : Rat).den) w' (by omega) (by omega) (by omega) (by omega); (try simp only [rq_QV] at h); exact h,
     congrArg (fun z => some (Value.bool z)) (decide_eq_true (fl_high _) : decide ((cmpQ ((rq n s t) - (Rat.divInt (flQ (rq n s t)) (1 : Int))) (1 : Rat)) < (0 : Int)) = true),
     rfl,
     fun γ w' hb _ => awake_any w' (hT.later hb)⟩
theorem Floor_any (n : Bool) (s t : ByteArray) (w : World) (hT : TabC w) :
    Calls Tryz.prog 7 #[.agg #[.bool n, .string s, .string t]] w fun e w' => e = .returned (.bool true) ∧ Below w.heap.size w w' := by
  by_cases h : s.size ≤ 24 ∧ t.size ≤ 24
  · obtain ⟨hs, ht⟩ := h
    exact Floor_no n s t w hT hs ht
  · exact Floor_yes n s t w hT h
theorem Text_yes (n : Bool) (s t : ByteArray) (e : ByteArray) (i : Int) (w : World) (hT : TabC w) (h : ¬ (s.size ≤ 24 ∧ t.size ≤ 24)) :
    Calls Tryz.prog 8 #[.agg #[.bool n, .string s, .string t], .string e, .int .i64 i] w fun e w' => e = .returned (.bool true) ∧ Below w.heap.size w w' := by
  exact SX.run (w := w) [.bool n, .string s, .string t, .string e, .int .i64 i, .bool true, .bool true] [.b true] [.agg [.p (.at 0), .p (.at 1), .p (.at 2)], .c (.p (.at 3)), .c (.p (.at 4))] 5 (.one (.c (.p (.at 6)))) [.call 10 [.c (.p (.slc 1 0 1 1))] (.one (.c (.p (.at 5)))) [(1025, .p (.at 0)), (1026, .p (.at 1)), (1027, .p (.at 2))], .isB 5 true, .call 11 [] (.one (.c (.p (.at 6)))) []] Tryz.func8 (by kernel_rfl) rfl (by kernel_rfl) rfl (by kernel_rfl)
    ⟨fun γ w' _ hm => great1_yes n s t w' (γ 1) (SX.mem_at (b := 1) (l := [.p (.at 0), .p (.at 1), .p (.at 2)]) hm rfl) h,
     rfl,
     fun γ w' hb _ => awake_any w' (hT.later hb)⟩
theorem Text_nol (n : Bool) (s t : ByteArray) (e : ByteArray) (i : Int) (w : World) (hT : TabC w) (hs : s.size ≤ 24) (ht : t.size ≤ 24) (he : ¬ e.size ≤ 100) :
    Calls Tryz.prog 8 #[.agg #[.bool n, .string s, .string t], .string e, .int .i64 i] w fun e w' => e = .returned (.bool true) ∧ Below w.heap.size w w' := by
  exact SX.run (w := w) [.bool n, .string s, .string t, .string e, .int .i64 i, .bool false, .int .i64 (e.size : Int), .bool true, .bool true] [.b false, .b true] [.agg [.p (.at 0), .p (.at 1), .p (.at 2)], .c (.p (.at 3)), .c (.p (.at 4))] 5 (.one (.c (.p (.at 8)))) [.call 10 [.c (.p (.slc 1 0 1 1))] (.one (.c (.p (.at 5)))) [(1025, .p (.at 0)), (1026, .p (.at 1)), (1027, .p (.at 2))], .isB 5 false, .len (.p (.at 3)) 6, .op2 false .gtr (.p (.at 6)) (.p (.lit (.int .i64 100))) 7, .isB 7 true, .call 11 [] (.one (.c (.p (.at 8)))) []] Tryz.func8 (by kernel_rfl) rfl (by kernel_rfl) rfl (by kernel_rfl)
    ⟨fun γ w' _ hm => great1_no n s t w' (γ 1) (SX.mem_at (b := 1) (l := [.p (.at 0), .p (.at 1), .p (.at 2)]) hm rfl) hs ht,
     rfl,
     ⟨_, rfl, rfl⟩,
     congrArg (fun z => some (Value.bool z)) (decide_eq_true (by omega) : decide ((e.size : Int) > (100 : Int)) = true),
     rfl,
     fun γ w' hb _ => awake_any w' (hT.later hb)⟩
theorem Text_no (n : Bool) (s t : ByteArray) (e : ByteArray) (i : Int) (z : Rat) (c : Bool) (w : World) (hT : TabC w) (hs : s.size ≤ 24) (ht : t.size ≤ 24) (he : e.size ≤ 100) (hz : parseQV e = .tuple #[QV z, .bool c]) :
    Calls Tryz.prog 8 #[.agg #[.bool n, .string s, .string t], .string e, .int .i64 i] w fun e w' => e = .returned (.bool true) ∧ Below w.heap.size w w' := by
  have ht0 := textQ_size (Rk.rq (n := n) (k := 24) hs ht (by omega))
  have f1 : Rk (rq n s t) 24 := Rk.rq (n := n) (by omega) (by omega) (by omega)
  have f2 : (mg (rq n s t).num).size ≤ 24 := f1.1
  have f3 : (dm (rq n s t).den).size ≤ 24 := f1.dm
  exact SX.run (w := w) (.bool n :: .string s :: .string t :: .string e :: .int .i64 i :: .bool false :: .int .i64 (e.size : Int) :: .bool false :: .string (textQ (rq n s t)) :: .bool (sg (rq n s t).num) :: .string (mg (rq n s t).num) :: .string (dm (rq n s t).den) :: .bool true :: .bool (sg z.num) :: .string (mg z.num) :: .string (dm z.den) :: .bool c :: .bool (sg z.num) :: .string (mg z.num) :: .string (dm z.den) :: .bool c :: .string (textQ (rq n s t)) :: .bool true :: .bool (sg (rq n s t).num) :: .string (mg (rq n s t).num) :: .string (dm (rq n s t).den) :: .bool true :: .bool true :: .bool true :: .bool (decide ((if ((dm (rq n s t).den).size : Int) > ((mg (rq n s t).num).size : Int) then ((dm (rq n s t).den).size : Int) else ((mg (rq n s t).num).size : Int)) ≤ i)) :: .bool (decide ((if ((dm (rq n s t).den).size : Int) > ((mg (rq n s t).num).size : Int) then ((dm (rq n s t).den).size : Int) else ((mg (rq n s t).num).size : Int)) ≤ i)) :: .bool true :: .bool true :: []) [.b false, .b false, .b true, .b true, .b true, .b true, .b true, .b true, .b true] [.agg [.p (.at 0), .p (.at 1), .p (.at 2)], .c (.p (.at 3)), .c (.p (.at 4))] 5 (.one (.c (.p (.at 32)))) [.call 10 [.c (.p (.slc 1 0 1 1))] (.one (.c (.p (.at 5)))) [(1025, .p (.at 0)), (1026, .p (.at 1)), (1027, .p (.at 2))], .isB 5 false, .len (.p (.at 3)) 6, .op2 false .gtr (.p (.at 6)) (.p (.lit (.int .i64 100))) 7, .isB 7 false, .call 36 [.agg [.p (.at 0), .p (.at 1), .p (.at 2)]] (.one (.c (.p (.at 8)))) [], .call 37 [.c (.p (.at 8))] (.tup [.agg [.p (.at 9), .p (.at 10), .p (.at 11)], .c (.p (.at 12))]) [], .call 37 [.c (.p (.at 3))] (.tup [.agg [.p (.at 13), .p (.at 14), .p (.at 15)], .c (.p (.at 16))]) [], .call 38 [.c (.p (.at 3))] (.tup [.agg [.p (.at 17), .p (.at 18), .p (.at 19)], .c (.p (.at 20))]) [], .call 39 [.agg [.p (.at 0), .p (.at 1), .p (.at 2)]] (.one (.c (.p (.at 21)))) [], .op2 false .eql (.p (.at 8)) (.p (.at 21)) 22, .isB 22 true, .isB 12 true, .call 16 [.agg [.p (.at 0), .p (.at 1), .p (.at 2)]] (.one (.agg [.p (.at 23), .p (.at 24), .p (.at 25)])) [], .eqs false [.b, .s, .s] [.p (.at 9), .p (.at 10), .p (.at 11)] [.p (.at 23), .p (.at 24), .p (.at 25)] 26, .isB 26 true, .eqs false [.b, .s, .s] [.p (.at 13), .p (.at 14), .p (.at 15)] [.p (.at 17), .p (.at 18), .p (.at 19)] 27, .isB 27 true, .op2 true .eql (.p (.at 16)) (.p (.at 20)) 28, .isB 28 true, .call 40 [.agg [.p (.at 0), .p (.at 1), .p (.at 2)], .c (.p (.at 4))] (.one (.c (.p (.at 29)))) [], .call 41 [.agg [.p (.at 0), .p (.at 1), .p (.at 2)], .c (.p (.at 4))] (.one (.c (.p (.at 30)))) [], .op2 true .eql (.p (.at 29)) (.p (.at 30)) 31, .isB 31 true, .call 11 [] (.one (.c (.p (.at 32)))) []] Tryz.func8 (by kernel_rfl) rfl (by kernel_rfl) rfl (by kernel_rfl)
    ⟨fun γ w' _ hm => great1_no n s t w' (γ 1) (SX.mem_at (b := 1) (l := [.p (.at 0), .p (.at 1), .p (.at 2)]) hm rfl) hs ht,
     rfl,
     ⟨_, rfl, rfl⟩,
     congrArg (fun z => some (Value.bool z)) (decide_eq_false (by omega) : decide ((e.size : Int) > (100 : Int)) = false),
     rfl,
     fun γ w' hb _ => FormatQ_any n s t w' (by omega) (by omega) (hT.later hb),
     fun γ w' hb _ => by have h := ParseQ_any (textQ (rq n s t)) w' (by omega) (hT.later hb); rw [parse_text] at h; exact h,
     fun γ w' hb _ => by have h := ParseQ_any e w' (by omega) (hT.later hb); rw [hz] at h; exact h,
     fun γ w' _ _ => by have h := rParse_any e w' (by omega); rw [hz] at h; exact h,
     fun γ w' _ _ => rText_any n s t w' (by omega) (by omega),
     congrArg (fun z => some (Value.bool z)) (beq_self_eq_true _ : ((textQ (rq n s t)).toList == (textQ (rq n s t)).toList) = true),
     rfl,
     rfl,
     fun γ w' hb _ => NormQ_any n s t w' (by omega) (by omega) (hT.later hb),
     ⟨rfl, rfl, show Value.bool true = Value.bool (false != eqL [.bool (sg (rq n s t).num), .string (mg (rq n s t).num), .string (dm (rq n s t).den)] [.bool (sg (rq n s t).num), .string (mg (rq n s t).num), .string (dm (rq n s t).den)]) from by rw [eqL_Q, decide_eq_true (rfl : (rq n s t) = (rq n s t))]; rfl⟩,
     rfl,
     ⟨rfl, rfl, show Value.bool true = Value.bool (false != eqL [.bool (sg z.num), .string (mg z.num), .string (dm z.den)] [.bool (sg z.num), .string (mg z.num), .string (dm z.den)]) from by rw [eqL_Q, decide_eq_true (rfl : z = z)]; rfl⟩,
     rfl,
     congrArg (fun z => some (Value.bool z)) (beq_self_eq_true _ : (c == c) = true),
     rfl,
     fun γ w' hb _ => Fits_any n s t i w' (by omega) (by omega) (hT.later hb),
     fun γ w' _ _ => rFits_any n s t i w' (by omega) (by omega),
     congrArg (fun z => some (Value.bool z)) (beq_self_eq_true _ : ((decide ((if ((dm (rq n s t).den).size : Int) > ((mg (rq n s t).num).size : Int) then ((dm (rq n s t).den).size : Int) else ((mg (rq n s t).num).size : Int)) ≤ i)) == (decide ((if ((dm (rq n s t).den).size : Int) > ((mg (rq n s t).num).size : Int) then ((dm (rq n s t).den).size : Int) else ((mg (rq n s t).num).size : Int)) ≤ i))) = true),
     rfl,
     fun γ w' hb _ => awake_any w' (hT.later hb)⟩
theorem Text_any (n : Bool) (s t : ByteArray) (e : ByteArray) (i : Int) (w : World) (hT : TabC w) :
    Calls Tryz.prog 8 #[.agg #[.bool n, .string s, .string t], .string e, .int .i64 i] w fun e w' => e = .returned (.bool true) ∧ Below w.heap.size w w' := by
  by_cases h : s.size ≤ 24 ∧ t.size ≤ 24
  · obtain ⟨hs, ht⟩ := h
    by_cases he : e.size ≤ 100
    · obtain ⟨z, c, hz⟩ := parse_parts e
      exact Text_no n s t e i z c w hT hs ht he hz
    · exact Text_nol n s t e i w hT hs ht he
  · exact Text_yes n s t e i w hT h
theorem Scaling_s (n : Bool) (s : ByteArray) (m : Bool) (p : ByteArray) (k : Bool) (u : ByteArray) (w : World) (hT : TabC w) (hs : ¬ s.size ≤ 20) :
    Calls Tryz.prog 9 #[.agg #[.bool n, .string s], .agg #[.bool m, .string p], .agg #[.bool k, .string u]] w fun e w' => e = .returned (.bool true) ∧ Below w.heap.size w w' := by
  exact SX.run (w := w) [.bool n, .string s, .bool m, .string p, .bool k, .string u, .int .i64 (s.size : Int), .bool true, .bool true] [.b true] [.agg [.p (.at 0), .p (.at 1)], .agg [.p (.at 2), .p (.at 3)], .agg [.p (.at 4), .p (.at 5)]] 6 (.one (.c (.p (.at 8)))) [.len (.p (.at 1)) 6, .op2 false .gtr (.p (.at 6)) (.p (.lit (.int .i64 20))) 7, .isB 7 true, .call 11 [] (.one (.c (.p (.at 8)))) []] Tryz.func9 (by kernel_rfl) rfl (by kernel_rfl) rfl (by kernel_rfl)
    ⟨⟨_, rfl, rfl⟩,
     congrArg (fun z => some (Value.bool z)) (decide_eq_true (by omega) : decide ((s.size : Int) > (20 : Int)) = true),
     rfl,
     fun γ w' hb _ => awake_any w' (hT.later hb)⟩
theorem Scaling_p (n : Bool) (s : ByteArray) (m : Bool) (p : ByteArray) (k : Bool) (u : ByteArray) (w : World) (hT : TabC w) (hs : s.size ≤ 20) (hp : ¬ p.size ≤ 20) :
    Calls Tryz.prog 9 #[.agg #[.bool n, .string s], .agg #[.bool m, .string p], .agg #[.bool k, .string u]] w fun e w' => e = .returned (.bool true) ∧ Below w.heap.size w w' := by
  exact SX.run (w := w) [.bool n, .string s, .bool m, .string p, .bool k, .string u, .int .i64 (s.size : Int), .bool false, .int .i64 (p.size : Int), .bool true, .bool true] [.b false, .b true] [.agg [.p (.at 0), .p (.at 1)], .agg [.p (.at 2), .p (.at 3)], .agg [.p (.at 4), .p (.at 5)]] 6 (.one (.c (.p (.at 10)))) [.len (.p (.at 1)) 6, .op2 false .gtr (.p (.at 6)) (.p (.lit (.int .i64 20))) 7, .isB 7 false, .len (.p (.at 3)) 8, .op2 false .gtr (.p (.at 8)) (.p (.lit (.int .i64 20))) 9, .isB 9 true, .call 11 [] (.one (.c (.p (.at 10)))) []] Tryz.func9 (by kernel_rfl) rfl (by kernel_rfl) rfl (by kernel_rfl)
    ⟨⟨_, rfl, rfl⟩,
     congrArg (fun z => some (Value.bool z)) (decide_eq_false (by omega) : decide ((s.size : Int) > (20 : Int)) = false),
     rfl,
     ⟨_, rfl, rfl⟩,
     congrArg (fun z => some (Value.bool z)) (decide_eq_true (by omega) : decide ((p.size : Int) > (20 : Int)) = true),
     rfl,
     fun γ w' hb _ => awake_any w' (hT.later hb)⟩
theorem Scaling_u (n : Bool) (s : ByteArray) (m : Bool) (p : ByteArray) (k : Bool) (u : ByteArray) (w : World) (hT : TabC w) (hs : s.size ≤ 20) (hp : p.size ≤ 20) (hu : ¬ u.size ≤ 20) :
    Calls Tryz.prog 9 #[.agg #[.bool n, .string s], .agg #[.bool m, .string p], .agg #[.bool k, .string u]] w fun e w' => e = .returned (.bool true) ∧ Below w.heap.size w w' := by
  exact SX.run (w := w) [.bool n, .string s, .bool m, .string p, .bool k, .string u, .int .i64 (s.size : Int), .bool false, .int .i64 (p.size : Int), .bool false, .int .i64 (u.size : Int), .bool true, .bool true] [.b false, .b false, .b true] [.agg [.p (.at 0), .p (.at 1)], .agg [.p (.at 2), .p (.at 3)], .agg [.p (.at 4), .p (.at 5)]] 6 (.one (.c (.p (.at 12)))) [.len (.p (.at 1)) 6, .op2 false .gtr (.p (.at 6)) (.p (.lit (.int .i64 20))) 7, .isB 7 false, .len (.p (.at 3)) 8, .op2 false .gtr (.p (.at 8)) (.p (.lit (.int .i64 20))) 9, .isB 9 false, .len (.p (.at 5)) 10, .op2 false .gtr (.p (.at 10)) (.p (.lit (.int .i64 20))) 11, .isB 11 true, .call 11 [] (.one (.c (.p (.at 12)))) []] Tryz.func9 (by kernel_rfl) rfl (by kernel_rfl) rfl (by kernel_rfl)
    ⟨⟨_, rfl, rfl⟩,
     congrArg (fun z => some (Value.bool z)) (decide_eq_false (by omega) : decide ((s.size : Int) > (20 : Int)) = false),
     rfl,
     ⟨_, rfl, rfl⟩,
     congrArg (fun z => some (Value.bool z)) (decide_eq_false (by omega) : decide ((p.size : Int) > (20 : Int)) = false),
     rfl,
     ⟨_, rfl, rfl⟩,
     congrArg (fun z => some (Value.bool z)) (decide_eq_true (by omega) : decide ((u.size : Int) > (20 : Int)) = true),
     rfl,
     fun γ w' hb _ => awake_any w' (hT.later hb)⟩
theorem Scaling_z (n : Bool) (s : ByteArray) (m : Bool) (p : ByteArray) (k : Bool) (u : ByteArray) (w : World) (hT : TabC w) (hs : s.size ≤ 20) (hp : p.size ≤ 20) (hu : u.size ≤ 20) (h0 : iv k u = 0) :
    Calls Tryz.prog 9 #[.agg #[.bool n, .string s], .agg #[.bool m, .string p], .agg #[.bool k, .string u]] w fun e w' => e = .returned (.bool true) ∧ Below w.heap.size w w' := by
  have f1 : (mg (iv k u)).size ≤ 20 := mg_iv_size (n := k) hu
  exact SX.run (w := w) [.bool n, .string s, .bool m, .string p, .bool k, .string u, .int .i64 (s.size : Int), .bool false, .int .i64 (p.size : Int), .bool false, .int .i64 (u.size : Int), .bool false, .int .i64 (cmpZ (iv k u) 0), .bool true, .bool true] [.b false, .b false, .b false, .b true] [.agg [.p (.at 0), .p (.at 1)], .agg [.p (.at 2), .p (.at 3)], .agg [.p (.at 4), .p (.at 5)]] 6 (.one (.c (.p (.at 14)))) [.len (.p (.at 1)) 6, .op2 false .gtr (.p (.at 6)) (.p (.lit (.int .i64 20))) 7, .isB 7 false, .len (.p (.at 3)) 8, .op2 false .gtr (.p (.at 8)) (.p (.lit (.int .i64 20))) 9, .isB 9 false, .len (.p (.at 5)) 10, .op2 false .gtr (.p (.at 10)) (.p (.lit (.int .i64 20))) 11, .isB 11 false, .call 42 [.agg [.p (.at 4), .p (.at 5)]] (.one (.c (.p (.at 12)))) [], .op2 false .eql (.p (.at 12)) (.p (.lit (.int .i64 0))) 13, .isB 13 true, .call 11 [] (.one (.c (.p (.at 14)))) []] Tryz.func9 (by kernel_rfl) rfl (by kernel_rfl) rfl (by kernel_rfl)
    ⟨⟨_, rfl, rfl⟩,
     congrArg (fun z => some (Value.bool z)) (decide_eq_false (by omega) : decide ((s.size : Int) > (20 : Int)) = false),
     rfl,
     ⟨_, rfl, rfl⟩,
     congrArg (fun z => some (Value.bool z)) (decide_eq_false (by omega) : decide ((p.size : Int) > (20 : Int)) = false),
     rfl,
     ⟨_, rfl, rfl⟩,
     congrArg (fun z => some (Value.bool z)) (decide_eq_false (by omega) : decide ((u.size : Int) > (20 : Int)) = false),
     rfl,
     fun γ w' _ _ => Sign2_any k u w' (by simp [maxLen]; omega),
     congrArg (fun z => some (Value.bool z)) (by rw [cmpZ_is0]; exact decide_eq_true h0 : ((cmpZ (iv k u) 0) == (0 : Int)) = true),
     rfl,
     fun γ w' hb _ => awake_any w' (hT.later hb)⟩
theorem Scaling_m (n : Bool) (s : ByteArray) (m : Bool) (p : ByteArray) (k : Bool) (u : ByteArray) (w : World) (hT : TabC w) (hs : s.size ≤ 20) (hp : p.size ≤ 20) (hu : u.size ≤ 20) (h0 : iv k u ≠ 0) :
    Calls Tryz.prog 9 #[.agg #[.bool n, .string s], .agg #[.bool m, .string p], .agg #[.bool k, .string u]] w fun e w' => e = .returned (.bool true) ∧ Below w.heap.size w w' := by
  have f1 : (mg (iv k u)).size ≤ 20 := mg_iv_size (n := k) hu
  have f2 : (mg (iv n s)).size ≤ 20 := mg_iv_size (n := n) hs
  have f3 : (mg (iv m p)).size ≤ 20 := mg_iv_size (n := m) hp
  have f4 : Rk (Rat.divInt (iv n s) (iv m p)) 20 := Rk.divInt (k := 20) (by omega) (by omega) (by omega)
  have f5 : (mg (Rat.divInt (iv n s) (iv m p)).num).size ≤ 20 := f4.1
  have f6 : (dm (Rat.divInt (iv n s) (iv m p)).den).size ≤ 20 := f4.dm
  have f7 : (mg ((iv n s) * (iv k u))).size ≤ 40 := mg_mul_size f2 f1
  have f8 : (mg ((iv m p) * (iv k u))).size ≤ 40 := mg_mul_size f3 f1
  have f9 : Rk (Rat.divInt ((iv n s) * (iv k u)) ((iv m p) * (iv k u))) 40 := Rk.divInt (k := 40) (by omega) (by omega) (by omega)
  have f10 : (mg (Rat.divInt ((iv n s) * (iv k u)) ((iv m p) * (iv k u))).num).size ≤ 40 := f9.1
  have f11 : (dm (Rat.divInt ((iv n s) * (iv k u)) ((iv m p) * (iv k u))).den).size ≤ 40 := f9.dm
  exact SX.run (w := w) (.bool n :: .string s :: .bool m :: .string p :: .bool k :: .string u :: .int .i64 (s.size : Int) :: .bool false :: .int .i64 (p.size : Int) :: .bool false :: .int .i64 (u.size : Int) :: .bool false :: .int .i64 (cmpZ (iv k u) 0) :: .bool false :: .bool (sg (Rat.divInt (iv n s) (iv m p)).num) :: .string (mg (Rat.divInt (iv n s) (iv m p)).num) :: .string (dm (Rat.divInt (iv n s) (iv m p)).den) :: .bool (decide ((iv m p) ≠ 0)) :: .bool (sg ((iv n s) * (iv k u))) :: .string (mg ((iv n s) * (iv k u))) :: .bool (sg ((iv m p) * (iv k u))) :: .string (mg ((iv m p) * (iv k u))) :: .bool (sg (Rat.divInt ((iv n s) * (iv k u)) ((iv m p) * (iv k u))).num) :: .string (mg (Rat.divInt ((iv n s) * (iv k u)) ((iv m p) * (iv k u))).num) :: .string (dm (Rat.divInt ((iv n s) * (iv k u)) ((iv m p) * (iv k u))).den) :: .bool (decide (((iv m p) * (iv k u)) ≠ 0)) :: .bool true :: .bool true :: .int .i64 (cmpZ (iv m p) 0) :: .bool ((cmpZ (iv m p) 0) != (0 : Int)) :: .bool true :: .bool true :: []) [.b false, .b false, .b false, .b false, .b true, .b true, .b true] [.agg [.p (.at 0), .p (.at 1)], .agg [.p (.at 2), .p (.at 3)], .agg [.p (.at 4), .p (.at 5)]] 6 (.one (.c (.p (.at 31)))) [.len (.p (.at 1)) 6, .op2 false .gtr (.p (.at 6)) (.p (.lit (.int .i64 20))) 7, .isB 7 false, .len (.p (.at 3)) 8, .op2 false .gtr (.p (.at 8)) (.p (.lit (.int .i64 20))) 9, .isB 9 false, .len (.p (.at 5)) 10, .op2 false .gtr (.p (.at 10)) (.p (.lit (.int .i64 20))) 11, .isB 11 false, .call 42 [.agg [.p (.at 4), .p (.at 5)]] (.one (.c (.p (.at 12)))) [], .op2 false .eql (.p (.at 12)) (.p (.lit (.int .i64 0))) 13, .isB 13 false, .call 14 [.agg [.p (.at 0), .p (.at 1)], .agg [.p (.at 2), .p (.at 3)]] (.tup [.agg [.p (.at 14), .p (.at 15), .p (.at 16)], .c (.p (.at 17))]) [], .call 43 [.agg [.p (.at 0), .p (.at 1)], .agg [.p (.at 4), .p (.at 5)]] (.one (.agg [.p (.at 18), .p (.at 19)])) [], .call 43 [.agg [.p (.at 2), .p (.at 3)], .agg [.p (.at 4), .p (.at 5)]] (.one (.agg [.p (.at 20), .p (.at 21)])) [], .call 14 [.agg [.p (.at 18), .p (.at 19)], .agg [.p (.at 20), .p (.at 21)]] (.tup [.agg [.p (.at 22), .p (.at 23), .p (.at 24)], .c (.p (.at 25))]) [], .eqs false [.b, .s, .s] [.p (.at 14), .p (.at 15), .p (.at 16)] [.p (.at 22), .p (.at 23), .p (.at 24)] 26, .isB 26 true, .op2 true .eql (.p (.at 17)) (.p (.at 25)) 27, .isB 27 true, .call 42 [.agg [.p (.at 2), .p (.at 3)]] (.one (.c (.p (.at 28)))) [], .op2 false .neq (.p (.at 28)) (.p (.lit (.int .i64 0))) 29, .op2 true .eql (.p (.at 17)) (.p (.at 29)) 30, .isB 30 true, .call 11 [] (.one (.c (.p (.at 31)))) []] Tryz.func9 (by kernel_rfl) rfl (by kernel_rfl) rfl (by kernel_rfl)
    ⟨⟨_, rfl, rfl⟩,
     congrArg (fun z => some (Value.bool z)) (decide_eq_false (by omega) : decide ((s.size : Int) > (20 : Int)) = false),
     rfl,
     ⟨_, rfl, rfl⟩,
     congrArg (fun z => some (Value.bool z)) (decide_eq_false (by omega) : decide ((p.size : Int) > (20 : Int)) = false),
     rfl,
     ⟨_, rfl, rfl⟩,
     congrArg (fun z => some (Value.bool z)) (decide_eq_false (by omega) : decide ((u.size : Int) > (20 : Int)) = false),
     rfl,
     fun γ w' _ _ => Sign2_any k u w' (by simp [maxLen]; omega),
     congrArg (fun z => some (Value.bool z)) (by rw [cmpZ_is0]; exact decide_eq_false h0 : ((cmpZ (iv k u) 0) == (0 : Int)) = false),
     rfl,
     fun γ w' hb _ => by have h := Make_any n m s p w' (by omega) (by omega) (hT.later hb); (try simp only [iv_Z] at h); rw [makeV_eq] at h; exact h,
     fun γ w' _ _ => Mul2_any n k s u w' (by omega) (by omega),
     fun γ w' _ _ => Mul2_any m k p u w' (by omega) (by omega),
     fun γ w' hb _ => by have h := Make_any (sg ((iv n s) * (iv k u))) (sg ((iv m p) * (iv k u))) (mg ((iv n s) * (iv k u))) (mg ((iv m p) * (iv k u))) w' (by omega) (by omega) (hT.later hb); (try simp only [iv_Z] at h); rw [makeV_eq] at h; exact h,
     ⟨rfl, rfl, show Value.bool true = Value.bool (false != eqL [.bool (sg (Rat.divInt (iv n s) (iv m p)).num), .string (mg (Rat.divInt (iv n s) (iv m p)).num), .string (dm (Rat.divInt (iv n s) (iv m p)).den)] [.bool (sg (Rat.divInt ((iv n s) * (iv k u)) ((iv m p) * (iv k u))).num), .string (mg (Rat.divInt ((iv n s) * (iv k u)) ((iv m p) * (iv k u))).num), .string (dm (Rat.divInt ((iv n s) * (iv k u)) ((iv m p) * (iv k u))).den)]) from by rw [eqL_Q, decide_eq_true ((Rat.divInt_mul_right h0).symm : (Rat.divInt (iv n s) (iv m p)) = (Rat.divInt ((iv n s) * (iv k u)) ((iv m p) * (iv k u))))]; rfl⟩,
     rfl,
     congrArg (fun z => some (Value.bool z)) (mul_ne h0 : ((decide ((iv m p) ≠ 0)) == (decide (((iv m p) * (iv k u)) ≠ 0))) = true),
     rfl,
     fun γ w' _ _ => Sign2_any m p w' (by simp [maxLen]; omega),
     rfl,
     congrArg (fun z => some (Value.bool z)) (sgZ_ne _ : ((decide ((iv m p) ≠ 0)) == ((cmpZ (iv m p) 0) != (0 : Int))) = true),
     rfl,
     fun γ w' hb _ => awake_any w' (hT.later hb)⟩
theorem Scaling_any (n : Bool) (s : ByteArray) (m : Bool) (p : ByteArray) (k : Bool) (u : ByteArray) (w : World) (hT : TabC w) :
    Calls Tryz.prog 9 #[.agg #[.bool n, .string s], .agg #[.bool m, .string p], .agg #[.bool k, .string u]] w fun e w' => e = .returned (.bool true) ∧ Below w.heap.size w w' := by
  by_cases hs : s.size ≤ 20
  · by_cases hp : p.size ≤ 20
    · by_cases hu : u.size ≤ 20
      · by_cases h0 : iv k u = 0
        · exact Scaling_z n s m p k u w hT hs hp hu h0
        · exact Scaling_m n s m p k u w hT hs hp hu h0
      · exact Scaling_u n s m p k u w hT hs hp hu
    · exact Scaling_p n s m p k u w hT hs hp
  · exact Scaling_s n s m p k u w hT hs
theorem Order_yes (n : Bool) (s t : ByteArray) (m : Bool) (p q : ByteArray) (k : Bool) (u v : ByteArray) (w : World) (hT : TabC w) (h : ¬ (s.size ≤ 24 ∧ t.size ≤ 24 ∧ p.size ≤ 24 ∧ q.size ≤ 24 ∧ u.size ≤ 24 ∧ v.size ≤ 24)) :
    Calls Tryz.prog 6 #[.agg #[.bool n, .string s, .string t], .agg #[.bool m, .string p, .string q], .agg #[.bool k, .string u, .string v]] w fun e w' => e = .returned (.bool true) ∧ Below w.heap.size w w' := by
  exact SX.run (w := w) [.bool n, .string s, .string t, .bool m, .string p, .string q, .bool k, .string u, .string v, .bool true, .bool true] [.b true] [.agg [.p (.at 0), .p (.at 1), .p (.at 2)], .agg [.p (.at 3), .p (.at 4), .p (.at 5)], .agg [.p (.at 6), .p (.at 7), .p (.at 8)]] 9 (.one (.c (.p (.at 10)))) [.call 10 [.c (.p (.slc 3 0 3 3))] (.one (.c (.p (.at 9)))) [(3073, .p (.at 0)), (3074, .p (.at 1)), (3075, .p (.at 2)), (3076, .p (.at 3)), (3077, .p (.at 4)), (3078, .p (.at 5)), (3079, .p (.at 6)), (3080, .p (.at 7)), (3081, .p (.at 8))], .isB 9 true, .call 11 [] (.one (.c (.p (.at 10)))) []] Tryz.func6 (by kernel_rfl) rfl (by kernel_rfl) rfl (by kernel_rfl)
    ⟨fun γ w' _ hm => great3_yes n s t m p q k u v w' (γ 3) (SX.mem_at (b := 3) (l := [.p (.at 0), .p (.at 1), .p (.at 2), .p (.at 3), .p (.at 4), .p (.at 5), .p (.at 6), .p (.at 7), .p (.at 8)]) hm rfl) h,
     rfl,
     fun γ w' hb _ => awake_any w' (hT.later hb)⟩
theorem Order_noa (n : Bool) (s t : ByteArray) (m : Bool) (p q : ByteArray) (k : Bool) (u v : ByteArray) (w : World) (hT : TabC w) (hs : s.size ≤ 24) (ht : t.size ≤ 24) (hp : p.size ≤ 24) (hq : q.size ≤ 24) (hu : u.size ≤ 24) (hv : v.size ≤ 24) (h1 : cmpQ (rq n s t) (rq m p q) < 0) :
    Calls Tryz.prog 6 #[.agg #[.bool n, .string s, .string t], .agg #[.bool m, .string p, .string q], .agg #[.bool k, .string u, .string v]] w fun e w' => e = .returned (.bool true) ∧ Below w.heap.size w w' := by
  have f1 : Rk (rq n s t) 24 := Rk.rq (n := n) (by omega) (by omega) (by omega)
  have f2 : Rk (rq m p q) 24 := Rk.rq (n := m) (by omega) (by omega) (by omega)
  have f3 : (mg (rq n s t).num).size ≤ 24 := f1.1
  have f4 : (dm (rq n s t).den).size ≤ 24 := f1.dm
  have f5 : (mg (rq m p q).num).size ≤ 24 := f2.1
  have f6 : (dm (rq m p q).den).size ≤ 24 := f2.dm
  have f7 : Rk (rq k u v) 24 := Rk.rq (n := k) (by omega) (by omega) (by omega)
  have f8 : Rk ((rq n s t) + (rq k u v)) 49 := Rk.add f1 f7
  have f9 : (mg ((rq n s t) + (rq k u v)).num).size ≤ 49 := f8.1
  have f10 : (dm ((rq n s t) + (rq k u v)).den).size ≤ 49 := f8.dm
  have f11 : Rk ((rq m p q) + (rq k u v)) 49 := Rk.add f2 f7
  have f12 : (mg ((rq m p q) + (rq k u v)).num).size ≤ 49 := f11.1
  have f13 : (dm ((rq m p q) + (rq k u v)).den).size ≤ 49 := f11.dm
  have f14 : Rk ((rq n s t) - (rq m p q)) 49 := Rk.sub f1 f2
  have f15 : (mg ((rq n s t) - (rq m p q)).num).size ≤ 49 := f14.1
  have f16 : (dm ((rq n s t) - (rq m p q)).den).size ≤ 49 := f14.dm
  have f17 : Rk ((rq n s t) * (rq k u v)) 48 := Rk.mul f1 f7 (by omega)
  have f18 : (mg ((rq n s t) * (rq k u v)).num).size ≤ 48 := f17.1
  have f19 : (dm ((rq n s t) * (rq k u v)).den).size ≤ 48 := f17.dm
  have f20 : Rk ((rq m p q) * (rq k u v)) 48 := Rk.mul f2 f7 (by omega)
  have f21 : (mg ((rq m p q) * (rq k u v)).num).size ≤ 48 := f20.1
  have f22 : (dm ((rq m p q) * (rq k u v)).den).size ≤ 48 := f20.dm
  exact SX.run (w := w) (.bool n :: .string s :: .string t :: .bool m :: .string p :: .string q :: .bool k :: .string u :: .string v :: .bool false :: .int .i64 (cmpQ (rq n s t) (rq m p q)) :: .int .i64 (cmpQ (rq m p q) (rq n s t)) :: .int .i64 (cmpQ (rq n s t) (rq m p q)) :: .bool false :: .bool ((cmpQ (rq n s t) (rq m p q)) == (0 : Int)) :: .bool (sg (rq n s t).num) :: .string (mg (rq n s t).num) :: .string (dm (rq n s t).den) :: .bool (sg (rq m p q).num) :: .string (mg (rq m p q).num) :: .string (dm (rq m p q).den) :: .bool (false != decide ((rq n s t) = (rq m p q))) :: .bool false :: .bool (sg ((rq n s t) + (rq k u v)).num) :: .string (mg ((rq n s t) + (rq k u v)).num) :: .string (dm ((rq n s t) + (rq k u v)).den) :: .bool (sg ((rq m p q) + (rq k u v)).num) :: .string (mg ((rq m p q) + (rq k u v)).num) :: .string (dm ((rq m p q) + (rq k u v)).den) :: .int .i64 (cmpQ ((rq n s t) + (rq k u v)) ((rq m p q) + (rq k u v))) :: .bool false :: .bool (sg ((rq n s t) - (rq m p q)).num) :: .string (mg ((rq n s t) - (rq m p q)).num) :: .string (dm ((rq n s t) - (rq m p q)).den) :: .int .i64 (sgQ ((rq n s t) - (rq m p q))) :: .bool false :: .bool (sg ((rq n s t) * (rq k u v)).num) :: .string (mg ((rq n s t) * (rq k u v)).num) :: .string (dm ((rq n s t) * (rq k u v)).den) :: .bool (sg ((rq m p q) * (rq k u v)).num) :: .string (mg ((rq m p q) * (rq k u v)).num) :: .string (dm ((rq m p q) * (rq k u v)).den) :: .int .i64 (cmpQ ((rq n s t) * (rq k u v)) ((rq m p q) * (rq k u v))) :: .int .i64 (sgQ (rq k u v)) :: .int .i64 (cmpQ (rq n s t) (rq m p q) * sgQ (rq k u v)) :: .bool false :: .bool true :: .bool true :: []) [.b false, .b false, .b false, .b false, .b false, .b false, .b true] [.agg [.p (.at 0), .p (.at 1), .p (.at 2)], .agg [.p (.at 3), .p (.at 4), .p (.at 5)], .agg [.p (.at 6), .p (.at 7), .p (.at 8)]] 9 (.one (.c (.p (.at 47)))) (.call 10 [.c (.p (.slc 3 0 3 3))] (.one (.c (.p (.at 9)))) [(3073, .p (.at 0)), (3074, .p (.at 1)), (3075, .p (.at 2)), (3076, .p (.at 3)), (3077, .p (.at 4)), (3078, .p (.at 5)), (3079, .p (.at 6)), (3080, .p (.at 7)), (3081, .p (.at 8))] :: .isB 9 false :: .call 30 [.agg [.p (.at 0), .p (.at 1), .p (.at 2)], .agg [.p (.at 3), .p (.at 4), .p (.at 5)]] (.one (.c (.p (.at 10)))) [] :: .call 30 [.agg [.p (.at 3), .p (.at 4), .p (.at 5)], .agg [.p (.at 0), .p (.at 1), .p (.at 2)]] (.one (.c (.p (.at 11)))) [] :: .op1 .neg (.p (.at 11)) 12 :: .op2 false .neq (.p (.at 10)) (.p (.at 12)) 13 :: .isB 13 false :: .op2 false .eql (.p (.at 10)) (.p (.lit (.int .i64 0))) 14 :: .call 16 [.agg [.p (.at 0), .p (.at 1), .p (.at 2)]] (.one (.agg [.p (.at 15), .p (.at 16), .p (.at 17)])) [] :: .call 16 [.agg [.p (.at 3), .p (.at 4), .p (.at 5)]] (.one (.agg [.p (.at 18), .p (.at 19), .p (.at 20)])) [] :: .eqs false [.b, .s, .s] [.p (.at 15), .p (.at 16), .p (.at 17)] [.p (.at 18), .p (.at 19), .p (.at 20)] 21 :: .op2 true .neq (.p (.at 14)) (.p (.at 21)) 22 :: .isB 22 false :: .call 22 [.agg [.p (.at 0), .p (.at 1), .p (.at 2)], .agg [.p (.at 6), .p (.at 7), .p (.at 8)]] (.one (.agg [.p (.at 23), .p (.at 24), .p (.at 25)])) [] :: .call 22 [.agg [.p (.at 3), .p (.at 4), .p (.at 5)], .agg [.p (.at 6), .p (.at 7), .p (.at 8)]] (.one (.agg [.p (.at 26), .p (.at 27), .p (.at 28)])) [] :: .call 30 [.agg [.p (.at 23), .p (.at 24), .p (.at 25)], .agg [.p (.at 26), .p (.at 27), .p (.at 28)]] (.one (.c (.p (.at 29)))) [] :: .op2 false .neq (.p (.at 29)) (.p (.at 10)) 30 :: .isB 30 false :: .call 24 [.agg [.p (.at 0), .p (.at 1), .p (.at 2)], .agg [.p (.at 3), .p (.at 4), .p (.at 5)]] (.one (.agg [.p (.at 31), .p (.at 32), .p (.at 33)])) [] :: .call 18 [.agg [.p (.at 31), .p (.at 32), .p (.at 33)]] (.one (.c (.p (.at 34)))) [] :: .op2 false .neq (.p (.at 34)) (.p (.at 10)) 35 :: .isB 35 false :: .call 26 [.agg [.p (.at 0), .p (.at 1), .p (.at 2)], .agg [.p (.at 6), .p (.at 7), .p (.at 8)]] (.one (.agg [.p (.at 36), .p (.at 37), .p (.at 38)])) [] :: .call 26 [.agg [.p (.at 3), .p (.at 4), .p (.at 5)], .agg [.p (.at 6), .p (.at 7), .p (.at 8)]] (.one (.agg [.p (.at 39), .p (.at 40), .p (.at 41)])) [] :: .call 30 [.agg [.p (.at 36), .p (.at 37), .p (.at 38)], .agg [.p (.at 39), .p (.at 40), .p (.at 41)]] (.one (.c (.p (.at 42)))) [] :: .call 18 [.agg [.p (.at 6), .p (.at 7), .p (.at 8)]] (.one (.c (.p (.at 43)))) [] :: .op2 false .mul (.p (.at 10)) (.p (.at 43)) 44 :: .op2 false .neq (.p (.at 42)) (.p (.at 44)) 45 :: .isB 45 false :: .op2 false .lss (.p (.at 10)) (.p (.lit (.int .i64 0))) 46 :: .isB 46 true :: .call 11 [] (.one (.c (.p (.at 47)))) [] :: []) Tryz.func6 (by kernel_rfl) rfl (by kernel_rfl) rfl (by kernel_rfl)
    ⟨fun γ w' _ hm => great3_no n s t m p q k u v w' (γ 3) (SX.mem_at (b := 3) (l := [.p (.at 0), .p (.at 1), .p (.at 2), .p (.at 3), .p (.at 4), .p (.at 5), .p (.at 6), .p (.at 7), .p (.at 8)]) hm rfl) hs ht hp hq hu hv,
     rfl,
     fun γ w' _ _ => CmpQ_any n s t m p q w' (by omega) (by omega) (by omega) (by omega),
     fun γ w' _ _ => CmpQ_any m p q n s t w' (by omega) (by omega) (by omega) (by omega),
     congrArg (fun z => some (Value.int .i64 z)) (neg_cmp _ _ : IntKind.wrap .i64 (0 - (cmpQ (rq m p q) (rq n s t))) = (cmpQ (rq n s t) (rq m p q))),
     congrArg (fun z => some (Value.bool z)) (bne_self_eq_false _ : ((cmpQ (rq n s t) (rq m p q)) != (cmpQ (rq n s t) (rq m p q))) = false),
     rfl,
     rfl,
     fun γ w' hb _ => NormQ_any n s t w' (by omega) (by omega) (hT.later hb),
     fun γ w' hb _ => NormQ_any m p q w' (by omega) (by omega) (hT.later hb),
     ⟨rfl, rfl, show Value.bool (false != decide ((rq n s t) = (rq m p q))) = Value.bool (false != eqL [.bool (sg (rq n s t).num), .string (mg (rq n s t).num), .string (dm (rq n s t).den)] [.bool (sg (rq m p q).num), .string (mg (rq m p q).num), .string (dm (rq m p q).den)]) from by rw [eqL_Q]⟩,
     congrArg (fun z => some (Value.bool z)) (ord_eq _ _ : (!(((cmpQ (rq n s t) (rq m p q)) == (0 : Int)) == (false != decide ((rq n s t) = (rq m p q))))) = false),
     rfl,
     fun γ w' hb _ => AddQ_any n s t k u v w' (by omega) (by omega) (by omega) (by omega) (hT.later hb),
     fun γ w' hb _ => AddQ_any m p q k u v w' (by omega) (by omega) (by omega) (by omega) (hT.later hb),
     fun γ w' _ _ => by have h := CmpQ_any (sg ((rq n s t) + (rq k u v)).num) (mg ((rq n s t) + (rq k u v)).num) (dm ((rq n s t) + (rq k u v)).den) (sg ((rq m p q) + (rq k u v)).num) (mg ((rq m p q) + (rq k u v)).num) (dm ((rq m p q) + (rq k u v)).den) w' (by omega) (by omega) (by omega) (by omega); (try simp only [rq_QV] at h); exact h,
     congrArg (fun z => some (Value.bool z)) (by rw [cmpQ_add]; exact bne_self_eq_false _ : ((cmpQ ((rq n s t) + (rq k u v)) ((rq m p q) + (rq k u v))) != (cmpQ (rq n s t) (rq m p q))) = false),
     rfl,
     fun γ w' hb _ => SubQ_any n s t m p q w' (by omega) (by omega) (by omega) (by omega) (hT.later hb),
     fun γ w' _ _ => by have h := SignQ_any (sg ((rq n s t) - (rq m p q)).num) (mg ((rq n s t) - (rq m p q)).num) (dm ((rq n s t) - (rq m p q)).den) w' (by omega) (by omega); (try simp only [rq_QV] at h); exact h,
     congrArg (fun z => some (Value.bool z)) (bne_self_eq_false (sgQ ((rq n s t) - (rq m p q))) : ((sgQ ((rq n s t) - (rq m p q))) != (cmpQ (rq n s t) (rq m p q))) = false),
     rfl,
     fun γ w' hb _ => MulQ_any n s t k u v w' (by omega) (by omega) (by omega) (by omega) (hT.later hb),
     fun γ w' hb _ => MulQ_any m p q k u v w' (by omega) (by omega) (by omega) (by omega) (hT.later hb),
     fun γ w' _ _ => by have h := CmpQ_any (sg ((rq n s t) * (rq k u v)).num) (mg ((rq n s t) * (rq k u v)).num) (dm ((rq n s t) * (rq k u v)).den) (sg ((rq m p q) * (rq k u v)).num) (mg ((rq m p q) * (rq k u v)).num) (dm ((rq m p q) * (rq k u v)).den) w' (by omega) (by omega) (by omega) (by omega); (try simp only [rq_QV] at h); exact h,
     fun γ w' _ _ => SignQ_any k u v w' (by omega) (by omega),
     congrArg (fun z => some (Value.int .i64 z)) (mul_sg _ _ _ : IntKind.wrap .i64 ((cmpQ (rq n s t) (rq m p q)) * (sgQ (rq k u v))) = (cmpQ (rq n s t) (rq m p q) * sgQ (rq k u v))),
     congrArg (fun z => some (Value.bool z)) (by rw [cmpQ_mul]; exact bne_self_eq_false _ : ((cmpQ ((rq n s t) * (rq k u v)) ((rq m p q) * (rq k u v))) != (cmpQ (rq n s t) (rq m p q) * sgQ (rq k u v))) = false),
     rfl,
     congrArg (fun z => some (Value.bool z)) (decide_eq_true h1 : decide ((cmpQ (rq n s t) (rq m p q)) < (0 : Int)) = true),
     rfl,
     fun γ w' hb _ => awake_any w' (hT.later hb)⟩
theorem Order_nob (n : Bool) (s t : ByteArray) (m : Bool) (p q : ByteArray) (k : Bool) (u v : ByteArray) (w : World) (hT : TabC w) (hs : s.size ≤ 24) (ht : t.size ≤ 24) (hp : p.size ≤ 24) (hq : q.size ≤ 24) (hu : u.size ≤ 24) (hv : v.size ≤ 24) (h1 : ¬ cmpQ (rq n s t) (rq m p q) < 0) (h2 : cmpQ (rq m p q) (rq k u v) < 0) :
    Calls Tryz.prog 6 #[.agg #[.bool n, .string s, .string t], .agg #[.bool m, .string p, .string q], .agg #[.bool k, .string u, .string v]] w fun e w' => e = .returned (.bool true) ∧ Below w.heap.size w w' := by
  have f1 : Rk (rq n s t) 24 := Rk.rq (n := n) (by omega) (by omega) (by omega)
  have f2 : Rk (rq m p q) 24 := Rk.rq (n := m) (by omega) (by omega) (by omega)
  have f3 : (mg (rq n s t).num).size ≤ 24 := f1.1
  have f4 : (dm (rq n s t).den).size ≤ 24 := f1.dm
  have f5 : (mg (rq m p q).num).size ≤ 24 := f2.1
  have f6 : (dm (rq m p q).den).size ≤ 24 := f2.dm
  have f7 : Rk (rq k u v) 24 := Rk.rq (n := k) (by omega) (by omega) (by omega)
  have f8 : Rk ((rq n s t) + (rq k u v)) 49 := Rk.add f1 f7
  have f9 : (mg ((rq n s t) + (rq k u v)).num).size ≤ 49 := f8.1
  have f10 : (dm ((rq n s t) + (rq k u v)).den).size ≤ 49 := f8.dm
  have f11 : Rk ((rq m p q) + (rq k u v)) 49 := Rk.add f2 f7
  have f12 : (mg ((rq m p q) + (rq k u v)).num).size ≤ 49 := f11.1
  have f13 : (dm ((rq m p q) + (rq k u v)).den).size ≤ 49 := f11.dm
  have f14 : Rk ((rq n s t) - (rq m p q)) 49 := Rk.sub f1 f2
  have f15 : (mg ((rq n s t) - (rq m p q)).num).size ≤ 49 := f14.1
  have f16 : (dm ((rq n s t) - (rq m p q)).den).size ≤ 49 := f14.dm
  have f17 : Rk ((rq n s t) * (rq k u v)) 48 := Rk.mul f1 f7 (by omega)
  have f18 : (mg ((rq n s t) * (rq k u v)).num).size ≤ 48 := f17.1
  have f19 : (dm ((rq n s t) * (rq k u v)).den).size ≤ 48 := f17.dm
  have f20 : Rk ((rq m p q) * (rq k u v)) 48 := Rk.mul f2 f7 (by omega)
  have f21 : (mg ((rq m p q) * (rq k u v)).num).size ≤ 48 := f20.1
  have f22 : (dm ((rq m p q) * (rq k u v)).den).size ≤ 48 := f20.dm
  exact SX.run (w := w) (.bool n :: .string s :: .string t :: .bool m :: .string p :: .string q :: .bool k :: .string u :: .string v :: .bool false :: .int .i64 (cmpQ (rq n s t) (rq m p q)) :: .int .i64 (cmpQ (rq m p q) (rq n s t)) :: .int .i64 (cmpQ (rq n s t) (rq m p q)) :: .bool false :: .bool ((cmpQ (rq n s t) (rq m p q)) == (0 : Int)) :: .bool (sg (rq n s t).num) :: .string (mg (rq n s t).num) :: .string (dm (rq n s t).den) :: .bool (sg (rq m p q).num) :: .string (mg (rq m p q).num) :: .string (dm (rq m p q).den) :: .bool (false != decide ((rq n s t) = (rq m p q))) :: .bool false :: .bool (sg ((rq n s t) + (rq k u v)).num) :: .string (mg ((rq n s t) + (rq k u v)).num) :: .string (dm ((rq n s t) + (rq k u v)).den) :: .bool (sg ((rq m p q) + (rq k u v)).num) :: .string (mg ((rq m p q) + (rq k u v)).num) :: .string (dm ((rq m p q) + (rq k u v)).den) :: .int .i64 (cmpQ ((rq n s t) + (rq k u v)) ((rq m p q) + (rq k u v))) :: .bool false :: .bool (sg ((rq n s t) - (rq m p q)).num) :: .string (mg ((rq n s t) - (rq m p q)).num) :: .string (dm ((rq n s t) - (rq m p q)).den) :: .int .i64 (sgQ ((rq n s t) - (rq m p q))) :: .bool false :: .bool (sg ((rq n s t) * (rq k u v)).num) :: .string (mg ((rq n s t) * (rq k u v)).num) :: .string (dm ((rq n s t) * (rq k u v)).den) :: .bool (sg ((rq m p q) * (rq k u v)).num) :: .string (mg ((rq m p q) * (rq k u v)).num) :: .string (dm ((rq m p q) * (rq k u v)).den) :: .int .i64 (cmpQ ((rq n s t) * (rq k u v)) ((rq m p q) * (rq k u v))) :: .int .i64 (sgQ (rq k u v)) :: .int .i64 (cmpQ (rq n s t) (rq m p q) * sgQ (rq k u v)) :: .bool false :: .bool false :: .int .i64 (cmpQ (rq m p q) (rq k u v)) :: .bool true :: .bool true :: []) [.b false, .b false, .b false, .b false, .b false, .b false, .b false, .b true] [.agg [.p (.at 0), .p (.at 1), .p (.at 2)], .agg [.p (.at 3), .p (.at 4), .p (.at 5)], .agg [.p (.at 6), .p (.at 7), .p (.at 8)]] 9 (.one (.c (.p (.at 49)))) (.call 10 [.c (.p (.slc 3 0 3 3))] (.one (.c (.p (.at 9)))) [(3073, .p (.at 0)), (3074, .p (.at 1)), (3075, .p (.at 2)), (3076, .p (.at 3)), (3077, .p (.at 4)), (3078, .p (.at 5)), (3079, .p (.at 6)), (3080, .p (.at 7)), (3081, .p (.at 8))] :: .isB 9 false :: .call 30 [.agg [.p (.at 0), .p (.at 1), .p (.at 2)], .agg [.p (.at 3), .p (.at 4), .p (.at 5)]] (.one (.c (.p (.at 10)))) [] :: .call 30 [.agg [.p (.at 3), .p (.at 4), .p (.at 5)], .agg [.p (.at 0), .p (.at 1), .p (.at 2)]] (.one (.c (.p (.at 11)))) [] :: .op1 .neg (.p (.at 11)) 12 :: .op2 false .neq (.p (.at 10)) (.p (.at 12)) 13 :: .isB 13 false :: .op2 false .eql (.p (.at 10)) (.p (.lit (.int .i64 0))) 14 :: .call 16 [.agg [.p (.at 0), .p (.at 1), .p (.at 2)]] (.one (.agg [.p (.at 15), .p (.at 16), .p (.at 17)])) [] :: .call 16 [.agg [.p (.at 3), .p (.at 4), .p (.at 5)]] (.one (.agg [.p (.at 18), .p (.at 19), .p (.at 20)])) [] :: .eqs false [.b, .s, .s] [.p (.at 15), .p (.at 16), .p (.at 17)] [.p (.at 18), .p (.at 19), .p (.at 20)] 21 :: .op2 true .neq (.p (.at 14)) (.p (.at 21)) 22 :: .isB 22 false :: .call 22 [.agg [.p (.at 0), .p (.at 1), .p (.at 2)], .agg [.p (.at 6), .p (.at 7), .p (.at 8)]] (.one (.agg [.p (.at 23), .p (.at 24), .p (.at 25)])) [] :: .call 22 [.agg [.p (.at 3), .p (.at 4), .p (.at 5)], .agg [.p (.at 6), .p (.at 7), .p (.at 8)]] (.one (.agg [.p (.at 26), .p (.at 27), .p (.at 28)])) [] :: .call 30 [.agg [.p (.at 23), .p (.at 24), .p (.at 25)], .agg [.p (.at 26), .p (.at 27), .p (.at 28)]] (.one (.c (.p (.at 29)))) [] :: .op2 false .neq (.p (.at 29)) (.p (.at 10)) 30 :: .isB 30 false :: .call 24 [.agg [.p (.at 0), .p (.at 1), .p (.at 2)], .agg [.p (.at 3), .p (.at 4), .p (.at 5)]] (.one (.agg [.p (.at 31), .p (.at 32), .p (.at 33)])) [] :: .call 18 [.agg [.p (.at 31), .p (.at 32), .p (.at 33)]] (.one (.c (.p (.at 34)))) [] :: .op2 false .neq (.p (.at 34)) (.p (.at 10)) 35 :: .isB 35 false :: .call 26 [.agg [.p (.at 0), .p (.at 1), .p (.at 2)], .agg [.p (.at 6), .p (.at 7), .p (.at 8)]] (.one (.agg [.p (.at 36), .p (.at 37), .p (.at 38)])) [] :: .call 26 [.agg [.p (.at 3), .p (.at 4), .p (.at 5)], .agg [.p (.at 6), .p (.at 7), .p (.at 8)]] (.one (.agg [.p (.at 39), .p (.at 40), .p (.at 41)])) [] :: .call 30 [.agg [.p (.at 36), .p (.at 37), .p (.at 38)], .agg [.p (.at 39), .p (.at 40), .p (.at 41)]] (.one (.c (.p (.at 42)))) [] :: .call 18 [.agg [.p (.at 6), .p (.at 7), .p (.at 8)]] (.one (.c (.p (.at 43)))) [] :: .op2 false .mul (.p (.at 10)) (.p (.at 43)) 44 :: .op2 false .neq (.p (.at 42)) (.p (.at 44)) 45 :: .isB 45 false :: .op2 false .lss (.p (.at 10)) (.p (.lit (.int .i64 0))) 46 :: .isB 46 false :: .call 30 [.agg [.p (.at 3), .p (.at 4), .p (.at 5)], .agg [.p (.at 6), .p (.at 7), .p (.at 8)]] (.one (.c (.p (.at 47)))) [] :: .op2 false .lss (.p (.at 47)) (.p (.lit (.int .i64 0))) 48 :: .isB 48 true :: .call 11 [] (.one (.c (.p (.at 49)))) [] :: []) Tryz.func6 (by kernel_rfl) rfl (by kernel_rfl) rfl (by kernel_rfl)
    ⟨fun γ w' _ hm => great3_no n s t m p q k u v w' (γ 3) (SX.mem_at (b := 3) (l := [.p (.at 0), .p (.at 1), .p (.at 2), .p (.at 3), .p (.at 4), .p (.at 5), .p (.at 6), .p (.at 7), .p (.at 8)]) hm rfl) hs ht hp hq hu hv,
     rfl,
     fun γ w' _ _ => CmpQ_any n s t m p q w' (by omega) (by omega) (by omega) (by omega),
     fun γ w' _ _ => CmpQ_any m p q n s t w' (by omega) (by omega) (by omega) (by omega),
     congrArg (fun z => some (Value.int .i64 z)) (neg_cmp _ _ : IntKind.wrap .i64 (0 - (cmpQ (rq m p q) (rq n s t))) = (cmpQ (rq n s t) (rq m p q))),
     congrArg (fun z => some (Value.bool z)) (bne_self_eq_false _ : ((cmpQ (rq n s t) (rq m p q)) != (cmpQ (rq n s t) (rq m p q))) = false),
     rfl,
     rfl,
     fun γ w' hb _ => NormQ_any n s t w' (by omega) (by omega) (hT.later hb),
     fun γ w' hb _ => NormQ_any m p q w' (by omega) (by omega) (hT.later hb),
     ⟨rfl, rfl, show Value.bool (false != decide ((rq n s t) = (rq m p q))) = Value.bool (false != eqL [.bool (sg (rq n s t).num), .string (mg (rq n s t).num), .string (dm (rq n s t).den)] [.bool (sg (rq m p q).num), .string (mg (rq m p q).num), .string (dm (rq m p q).den)]) from by rw [eqL_Q]⟩,
     congrArg (fun z => some (Value.bool z)) (ord_eq _ _ : (!(((cmpQ (rq n s t) (rq m p q)) == (0 : Int)) == (false != decide ((rq n s t) = (rq m p q))))) = false),
     rfl,
     fun γ w' hb _ => AddQ_any n s t k u v w' (by omega) (by omega) (by omega) (by omega) (hT.later hb),
     fun γ w' hb _ => AddQ_any m p q k u v w' (by omega) (by omega) (by omega) (by omega) (hT.later hb),
     fun γ w' _ _ => by have h := CmpQ_any (sg ((rq n s t) + (rq k u v)).num) (mg ((rq n s t) + (rq k u v)).num) (dm ((rq n s t) + (rq k u v)).den) (sg ((rq m p q) + (rq k u v)).num) (mg ((rq m p q) + (rq k u v)).num) (dm ((rq m p q) + (rq k u v)).den) w' (by omega) (by omega) (by omega) (by omega); (try simp only [rq_QV] at h); exact h,
     congrArg (fun z => some (Value.bool z)) (by rw [cmpQ_add]; exact bne_self_eq_false _ : ((cmpQ ((rq n s t) + (rq k u v)) ((rq m p q) + (rq k u v))) != (cmpQ (rq n s t) (rq m p q))) = false),
     rfl,
     fun γ w' hb _ => SubQ_any n s t m p q w' (by omega) (by omega) (by omega) (by omega) (hT.later hb),
     fun γ w' _ _ => by have h := SignQ_any (sg ((rq n s t) - (rq m p q)).num) (mg ((rq n s t) - (rq m p q)).num) (dm ((rq n s t) - (rq m p q)).den) w' (by omega) (by omega); (try simp only [rq_QV] at h); exact h,
     congrArg (fun z => some (Value.bool z)) (bne_self_eq_false (sgQ ((rq n s t) - (rq m p q))) : ((sgQ ((rq n s t) - (rq m p q))) != (cmpQ (rq n s t) (rq m p q))) = false),
     rfl,
     fun γ w' hb _ => MulQ_any n s t k u v w' (by omega) (by omega) (by omega) (by omega) (hT.later hb),
     fun γ w' hb _ => MulQ_any m p q k u v w' (by omega) (by omega) (by omega) (by omega) (hT.later hb),
     fun γ w' _ _ => by have h := CmpQ_any (sg ((rq n s t) * (rq k u v)).num) (mg ((rq n s t) * (rq k u v)).num) (dm ((rq n s t) * (rq k u v)).den) (sg ((rq m p q) * (rq k u v)).num) (mg ((rq m p q) * (rq k u v)).num) (dm ((rq m p q) * (rq k u v)).den) w' (by omega) (by omega) (by omega) (by omega); (try simp only [rq_QV] at h); exact h,
     fun γ w' _ _ => SignQ_any k u v w' (by omega) (by omega),
     congrArg (fun z => some (Value.int .i64 z)) (mul_sg _ _ _ : IntKind.wrap .i64 ((cmpQ (rq n s t) (rq m p q)) * (sgQ (rq k u v))) = (cmpQ (rq n s t) (rq m p q) * sgQ (rq k u v))),
     congrArg (fun z => some (Value.bool z)) (by rw [cmpQ_mul]; exact bne_self_eq_false _ : ((cmpQ ((rq n s t) * (rq k u v)) ((rq m p q) * (rq k u v))) != (cmpQ (rq n s t) (rq m p q) * sgQ (rq k u v))) = false),
     rfl,
     congrArg (fun z => some (Value.bool z)) (decide_eq_false h1 : decide ((cmpQ (rq n s t) (rq m p q)) < (0 : Int)) = false),
     rfl,
     fun γ w' _ _ => CmpQ_any m p q k u v w' (by omega) (by omega) (by omega) (by omega),
     congrArg (fun z => some (Value.bool z)) (decide_eq_true h2 : decide ((cmpQ (rq m p q) (rq k u v)) < (0 : Int)) = true),
     rfl,
     fun γ w' hb _ => awake_any w' (hT.later hb)⟩
theorem Order_noc (n : Bool) (s t : ByteArray) (m : Bool) (p q : ByteArray) (k : Bool) (u v : ByteArray) (w : World) (hT : TabC w) (hs : s.size ≤ 24) (ht : t.size ≤ 24) (hp : p.size ≤ 24) (hq : q.size ≤ 24) (hu : u.size ≤ 24) (hv : v.size ≤ 24) (h1 : ¬ cmpQ (rq n s t) (rq m p q) < 0) (h2 : ¬ cmpQ (rq m p q) (rq k u v) < 0) :
    Calls Tryz.prog 6 #[.agg #[.bool n, .string s, .string t], .agg #[.bool m, .string p, .string q], .agg #[.bool k, .string u, .string v]] w fun e w' => e = .returned (.bool true) ∧ Below w.heap.size w w' := by
  have f1 : Rk (rq n s t) 24 := Rk.rq (n := n) (by omega) (by omega) (by omega)
  have f2 : Rk (rq m p q) 24 := Rk.rq (n := m) (by omega) (by omega) (by omega)
  have f3 : (mg (rq n s t).num).size ≤ 24 := f1.1
  have f4 : (dm (rq n s t).den).size ≤ 24 := f1.dm
  have f5 : (mg (rq m p q).num).size ≤ 24 := f2.1
  have f6 : (dm (rq m p q).den).size ≤ 24 := f2.dm
  have f7 : Rk (rq k u v) 24 := Rk.rq (n := k) (by omega) (by omega) (by omega)
  have f8 : Rk ((rq n s t) + (rq k u v)) 49 := Rk.add f1 f7
  have f9 : (mg ((rq n s t) + (rq k u v)).num).size ≤ 49 := f8.1
  have f10 : (dm ((rq n s t) + (rq k u v)).den).size ≤ 49 := f8.dm
  have f11 : Rk ((rq m p q) + (rq k u v)) 49 := Rk.add f2 f7
  have f12 : (mg ((rq m p q) + (rq k u v)).num).size ≤ 49 := f11.1
  have f13 : (dm ((rq m p q) + (rq k u v)).den).size ≤ 49 := f11.dm
  have f14 : Rk ((rq n s t) - (rq m p q)) 49 := Rk.sub f1 f2
  have f15 : (mg ((rq n s t) - (rq m p q)).num).size ≤ 49 := f14.1
  have f16 : (dm ((rq n s t) - (rq m p q)).den).size ≤ 49 := f14.dm
  have f17 : Rk ((rq n s t) * (rq k u v)) 48 := Rk.mul f1 f7 (by omega)
  have f18 : (mg ((rq n s t) * (rq k u v)).num).size ≤ 48 := f17.1
  have f19 : (dm ((rq n s t) * (rq k u v)).den).size ≤ 48 := f17.dm
  have f20 : Rk ((rq m p q) * (rq k u v)) 48 := Rk.mul f2 f7 (by omega)
  have f21 : (mg ((rq m p q) * (rq k u v)).num).size ≤ 48 := f20.1
  have f22 : (dm ((rq m p q) * (rq k u v)).den).size ≤ 48 := f20.dm
  exact SX.run (w := w) (.bool n :: .string s :: .string t :: .bool m :: .string p :: .string q :: .bool k :: .string u :: .string v :: .bool false :: .int .i64 (cmpQ (rq n s t) (rq m p q)) :: .int .i64 (cmpQ (rq m p q) (rq n s t)) :: .int .i64 (cmpQ (rq n s t) (rq m p q)) :: .bool false :: .bool ((cmpQ (rq n s t) (rq m p q)) == (0 : Int)) :: .bool (sg (rq n s t).num) :: .string (mg (rq n s t).num) :: .string (dm (rq n s t).den) :: .bool (sg (rq m p q).num) :: .string (mg (rq m p q).num) :: .string (dm (rq m p q).den) :: .bool (false != decide ((rq n s t) = (rq m p q))) :: .bool false :: .bool (sg ((rq n s t) + (rq k u v)).num) :: .string (mg ((rq n s t) + (rq k u v)).num) :: .string (dm ((rq n s t) + (rq k u v)).den) :: .bool (sg ((rq m p q) + (rq k u v)).num) :: .string (mg ((rq m p q) + (rq k u v)).num) :: .string (dm ((rq m p q) + (rq k u v)).den) :: .int .i64 (cmpQ ((rq n s t) + (rq k u v)) ((rq m p q) + (rq k u v))) :: .bool false :: .bool (sg ((rq n s t) - (rq m p q)).num) :: .string (mg ((rq n s t) - (rq m p q)).num) :: .string (dm ((rq n s t) - (rq m p q)).den) :: .int .i64 (sgQ ((rq n s t) - (rq m p q))) :: .bool false :: .bool (sg ((rq n s t) * (rq k u v)).num) :: .string (mg ((rq n s t) * (rq k u v)).num) :: .string (dm ((rq n s t) * (rq k u v)).den) :: .bool (sg ((rq m p q) * (rq k u v)).num) :: .string (mg ((rq m p q) * (rq k u v)).num) :: .string (dm ((rq m p q) * (rq k u v)).den) :: .int .i64 (cmpQ ((rq n s t) * (rq k u v)) ((rq m p q) * (rq k u v))) :: .int .i64 (sgQ (rq k u v)) :: .int .i64 (cmpQ (rq n s t) (rq m p q) * sgQ (rq k u v)) :: .bool false :: .bool false :: .int .i64 (cmpQ (rq m p q) (rq k u v)) :: .bool false :: .int .i64 (cmpQ (rq n s t) (rq k u v)) :: .bool true :: .bool true :: []) [.b false, .b false, .b false, .b false, .b false, .b false, .b false, .b false, .b true] [.agg [.p (.at 0), .p (.at 1), .p (.at 2)], .agg [.p (.at 3), .p (.at 4), .p (.at 5)], .agg [.p (.at 6), .p (.at 7), .p (.at 8)]] 9 (.one (.c (.p (.at 51)))) (.call 10 [.c (.p (.slc 3 0 3 3))] (.one (.c (.p (.at 9)))) [(3073, .p (.at 0)), (3074, .p (.at 1)), (3075, .p (.at 2)), (3076, .p (.at 3)), (3077, .p (.at 4)), (3078, .p (.at 5)), (3079, .p (.at 6)), (3080, .p (.at 7)), (3081, .p (.at 8))] :: .isB 9 false :: .call 30 [.agg [.p (.at 0), .p (.at 1), .p (.at 2)], .agg [.p (.at 3), .p (.at 4), .p (.at 5)]] (.one (.c (.p (.at 10)))) [] :: .call 30 [.agg [.p (.at 3), .p (.at 4), .p (.at 5)], .agg [.p (.at 0), .p (.at 1), .p (.at 2)]] (.one (.c (.p (.at 11)))) [] :: .op1 .neg (.p (.at 11)) 12 :: .op2 false .neq (.p (.at 10)) (.p (.at 12)) 13 :: .isB 13 false :: .op2 false .eql (.p (.at 10)) (.p (.lit (.int .i64 0))) 14 :: .call 16 [.agg [.p (.at 0), .p (.at 1), .p (.at 2)]] (.one (.agg [.p (.at 15), .p (.at 16), .p (.at 17)])) [] :: .call 16 [.agg [.p (.at 3), .p (.at 4), .p (.at 5)]] (.one (.agg [.p (.at 18), .p (.at 19), .p (.at 20)])) [] :: .eqs false [.b, .s, .s] [.p (.at 15), .p (.at 16), .p (.at 17)] [.p (.at 18), .p (.at 19), .p (.at 20)] 21 :: .op2 true .neq (.p (.at 14)) (.p (.at 21)) 22 :: .isB 22 false :: .call 22 [.agg [.p (.at 0), .p (.at 1), .p (.at 2)], .agg [.p (.at 6), .p (.at 7), .p (.at 8)]] (.one (.agg [.p (.at 23), .p (.at 24), .p (.at 25)])) [] :: .call 22 [.agg [.p (.at 3), .p (.at 4), .p (.at 5)], .agg [.p (.at 6), .p (.at 7), .p (.at 8)]] (.one (.agg [.p (.at 26), .p (.at 27), .p (.at 28)])) [] :: .call 30 [.agg [.p (.at 23), .p (.at 24), .p (.at 25)], .agg [.p (.at 26), .p (.at 27), .p (.at 28)]] (.one (.c (.p (.at 29)))) [] :: .op2 false .neq (.p (.at 29)) (.p (.at 10)) 30 :: .isB 30 false :: .call 24 [.agg [.p (.at 0), .p (.at 1), .p (.at 2)], .agg [.p (.at 3), .p (.at 4), .p (.at 5)]] (.one (.agg [.p (.at 31), .p (.at 32), .p (.at 33)])) [] :: .call 18 [.agg [.p (.at 31), .p (.at 32), .p (.at 33)]] (.one (.c (.p (.at 34)))) [] :: .op2 false .neq (.p (.at 34)) (.p (.at 10)) 35 :: .isB 35 false :: .call 26 [.agg [.p (.at 0), .p (.at 1), .p (.at 2)], .agg [.p (.at 6), .p (.at 7), .p (.at 8)]] (.one (.agg [.p (.at 36), .p (.at 37), .p (.at 38)])) [] :: .call 26 [.agg [.p (.at 3), .p (.at 4), .p (.at 5)], .agg [.p (.at 6), .p (.at 7), .p (.at 8)]] (.one (.agg [.p (.at 39), .p (.at 40), .p (.at 41)])) [] :: .call 30 [.agg [.p (.at 36), .p (.at 37), .p (.at 38)], .agg [.p (.at 39), .p (.at 40), .p (.at 41)]] (.one (.c (.p (.at 42)))) [] :: .call 18 [.agg [.p (.at 6), .p (.at 7), .p (.at 8)]] (.one (.c (.p (.at 43)))) [] :: .op2 false .mul (.p (.at 10)) (.p (.at 43)) 44 :: .op2 false .neq (.p (.at 42)) (.p (.at 44)) 45 :: .isB 45 false :: .op2 false .lss (.p (.at 10)) (.p (.lit (.int .i64 0))) 46 :: .isB 46 false :: .call 30 [.agg [.p (.at 3), .p (.at 4), .p (.at 5)], .agg [.p (.at 6), .p (.at 7), .p (.at 8)]] (.one (.c (.p (.at 47)))) [] :: .op2 false .lss (.p (.at 47)) (.p (.lit (.int .i64 0))) 48 :: .isB 48 false :: .call 30 [.agg [.p (.at 0), .p (.at 1), .p (.at 2)], .agg [.p (.at 6), .p (.at 7), .p (.at 8)]] (.one (.c (.p (.at 49)))) [] :: .op2 false .geq (.p (.at 49)) (.p (.lit (.int .i64 0))) 50 :: .isB 50 true :: .call 11 [] (.one (.c (.p (.at 51)))) [] :: []) Tryz.func6 (by kernel_rfl) rfl (by kernel_rfl) rfl (by kernel_rfl)
    ⟨fun γ w' _ hm => great3_no n s t m p q k u v w' (γ 3) (SX.mem_at (b := 3) (l := [.p (.at 0), .p (.at 1), .p (.at 2), .p (.at 3), .p (.at 4), .p (.at 5), .p (.at 6), .p (.at 7), .p (.at 8)]) hm rfl) hs ht hp hq hu hv,
     rfl,
     fun γ w' _ _ => CmpQ_any n s t m p q w' (by omega) (by omega) (by omega) (by omega),
     fun γ w' _ _ => CmpQ_any m p q n s t w' (by omega) (by omega) (by omega) (by omega),
     congrArg (fun z => some (Value.int .i64 z)) (neg_cmp _ _ : IntKind.wrap .i64 (0 - (cmpQ (rq m p q) (rq n s t))) = (cmpQ (rq n s t) (rq m p q))),
     congrArg (fun z => some (Value.bool z)) (bne_self_eq_false _ : ((cmpQ (rq n s t) (rq m p q)) != (cmpQ (rq n s t) (rq m p q))) = false),
     rfl,
     rfl,
     fun γ w' hb _ => NormQ_any n s t w' (by omega) (by omega) (hT.later hb),
     fun γ w' hb _ => NormQ_any m p q w' (by omega) (by omega) (hT.later hb),
     ⟨rfl, rfl, show Value.bool (false != decide ((rq n s t) = (rq m p q))) = Value.bool (false != eqL [.bool (sg (rq n s t).num), .string (mg (rq n s t).num), .string (dm (rq n s t).den)] [.bool (sg (rq m p q).num), .string (mg (rq m p q).num), .string (dm (rq m p q).den)]) from by rw [eqL_Q]⟩,
     congrArg (fun z => some (Value.bool z)) (ord_eq _ _ : (!(((cmpQ (rq n s t) (rq m p q)) == (0 : Int)) == (false != decide ((rq n s t) = (rq m p q))))) = false),
     rfl,
     fun γ w' hb _ => AddQ_any n s t k u v w' (by omega) (by omega) (by omega) (by omega) (hT.later hb),
     fun γ w' hb _ => AddQ_any m p q k u v w' (by omega) (by omega) (by omega) (by omega) (hT.later hb),
     fun γ w' _ _ => by have h := CmpQ_any (sg ((rq n s t) + (rq k u v)).num) (mg ((rq n s t) + (rq k u v)).num) (dm ((rq n s t) + (rq k u v)).den) (sg ((rq m p q) + (rq k u v)).num) (mg ((rq m p q) + (rq k u v)).num) (dm ((rq m p q) + (rq k u v)).den) w' (by omega) (by omega) (by omega) (by omega); (try simp only [rq_QV] at h); exact h,
     congrArg (fun z => some (Value.bool z)) (by rw [cmpQ_add]; exact bne_self_eq_false _ : ((cmpQ ((rq n s t) + (rq k u v)) ((rq m p q) + (rq k u v))) != (cmpQ (rq n s t) (rq m p q))) = false),
     rfl,
     fun γ w' hb _ => SubQ_any n s t m p q w' (by omega) (by omega) (by omega) (by omega) (hT.later hb),
     fun γ w' _ _ => by have h := SignQ_any (sg ((rq n s t) - (rq m p q)).num) (mg ((rq n s t) - (rq m p q)).num) (dm ((rq n s t) - (rq m p q)).den) w' (by omega) (by omega); (try simp only [rq_QV] at h); exact h,
     congrArg (fun z => some (Value.bool z)) (bne_self_eq_false (sgQ ((rq n s t) - (rq m p q))) : ((sgQ ((rq n s t) - (rq m p q))) != (cmpQ (rq n s t) (rq m p q))) = false),
     rfl,
     fun γ w' hb _ => MulQ_any n s t k u v w' (by omega) (by omega) (by omega) (by omega) (hT.later hb),
     fun γ w' hb _ => MulQ_any m p q k u v w' (by omega) (by omega) (by omega) (by omega) (hT.later hb),
     fun γ w' _ _ => by have h := CmpQ_any (sg ((rq n s t) * (rq k u v)).num) (mg ((rq n s t) * (rq k u v)).num) (dm ((rq n s t) * (rq k u v)).den) (sg ((rq m p q) * (rq k u v)).num) (mg ((rq m p q) * (rq k u v)).num) (dm ((rq m p q) * (rq k u v)).den) w' (by omega) (by omega) (by omega) (by omega); (try simp only [rq_QV] at h); exact h,
     fun γ w' _ _ => SignQ_any k u v w' (by omega) (by omega),
     congrArg (fun z => some (Value.int .i64 z)) (mul_sg _ _ _ : IntKind.wrap .i64 ((cmpQ (rq n s t) (rq m p q)) * (sgQ (rq k u v))) = (cmpQ (rq n s t) (rq m p q) * sgQ (rq k u v))),
     congrArg (fun z => some (Value.bool z)) (by rw [cmpQ_mul]; exact bne_self_eq_false _ : ((cmpQ ((rq n s t) * (rq k u v)) ((rq m p q) * (rq k u v))) != (cmpQ (rq n s t) (rq m p q) * sgQ (rq k u v))) = false),
     rfl,
     congrArg (fun z => some (Value.bool z)) (decide_eq_false h1 : decide ((cmpQ (rq n s t) (rq m p q)) < (0 : Int)) = false),
     rfl,
     fun γ w' _ _ => CmpQ_any m p q k u v w' (by omega) (by omega) (by omega) (by omega),
     congrArg (fun z => some (Value.bool z)) (decide_eq_false h2 : decide ((cmpQ (rq m p q) (rq k u v)) < (0 : Int)) = false),
     rfl,
     fun γ w' _ _ => CmpQ_any n s t k u v w' (by omega) (by omega) (by omega) (by omega),
     congrArg (fun z => some (Value.bool z)) (decide_eq_true (cmpQ_trans (Int.not_lt.1 h1) (Int.not_lt.1 h2)) : decide ((cmpQ (rq n s t) (rq k u v)) ≥ (0 : Int)) = true),
     rfl,
     fun γ w' hb _ => awake_any w' (hT.later hb)⟩
theorem Order_any (n : Bool) (s t : ByteArray) (m : Bool) (p q : ByteArray) (k : Bool) (u v : ByteArray) (w : World) (hT : TabC w) :
    Calls Tryz.prog 6 #[.agg #[.bool n, .string s, .string t], .agg #[.bool m, .string p, .string q], .agg #[.bool k, .string u, .string v]] w fun e w' => e = .returned (.bool true) ∧ Below w.heap.size w w' := by
  by_cases h : s.size ≤ 24 ∧ t.size ≤ 24 ∧ p.size ≤ 24 ∧ q.size ≤ 24 ∧ u.size ≤ 24 ∧ v.size ≤ 24
  · obtain ⟨hs, ht, hp, hq, hu, hv⟩ := h
    by_cases h1 : cmpQ (rq n s t) (rq m p q) < 0
    · exact Order_noa n s t m p q k u v w hT hs ht hp hq hu hv h1
    · by_cases h2 : cmpQ (rq m p q) (rq k u v) < 0
      · exact Order_nob n s t m p q k u v w hT hs ht hp hq hu hv h1 h2
      · exact Order_noc n s t m p q k u v w hT hs ht hp hq hu hv h1 h2
  · exact Order_yes n s t m p q k u v w hT h
end Go.Proofs.YtnifidpehkojcaaGreatDoor
