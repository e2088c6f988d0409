/- Points: the mathematics of parts, sums and comparisons over homogeneous coordinates. -/
import Derived.Test.YtodcomijjmobdaaGreatDoorPt
set_option linter.unusedVariables false
set_option linter.unusedSimpArgs false
namespace Go.Proofs.YtodcomijjmobdaaGreatDoor
open Go.RowKit NM SX

theorem turn_zero {q : Z4} (h : q.d = 0) : turn q = ⟨q.a, q.b, q.c, 1⟩ := by
  unfold turn
  have e : w1 q.d = 1 := by rw [h]; rfl
  rw [if_neg (by omega), e]
theorem turn_minus {q : Z4} (h : q.d < 0) : turn q = ⟨-q.a, -q.b, -q.c, -q.d⟩ := by
  unfold turn
  have e : w1 q.d = q.d := w1_pos (by omega)
  rw [if_pos (by omega)]
theorem turn_plus {q : Z4} (h : 0 < q.d) : turn q = q := by
  unfold turn
  have e : w1 q.d = q.d := w1_pos (by omega)
  rw [if_neg (by omega), e]
/-- A point by its turned four. -/
theorem pt_x (q : Z4) : (pt q).x = Rat.divInt (turn q).a (turn q).d := by
  rw [← pt_turn q]
  show Rat.divInt (turn q).a (w1 (turn q).d) = _
  rw [w1_pos (by have := turn_pos q; omega)]
theorem pt_y (q : Z4) : (pt q).y = Rat.divInt (turn q).b (turn q).d := by
  rw [← pt_turn q]
  show Rat.divInt (turn q).b (w1 (turn q).d) = _
  rw [w1_pos (by have := turn_pos q; omega)]
theorem pt_z (q : Z4) : (pt q).z = Rat.divInt (turn q).c (turn q).d := by
  rw [← pt_turn q]
  show Rat.divInt (turn q).c (w1 (turn q).d) = _
  rw [w1_pos (by have := turn_pos q; omega)]
theorem pt_pos {a b c d : Int} (h : d ≠ 0) : pt ⟨a, b, c, d⟩ = ⟨Rat.divInt a d, Rat.divInt b d, Rat.divInt c d⟩ := by
  show (⟨Rat.divInt a (w1 d), Rat.divInt b (w1 d), Rat.divInt c (w1 d)⟩ : P3) = _
  rw [w1_pos h]
theorem PV_pos {q : Z4} (h : 0 < q.d) : PV (pt q) = FV (prim q) := by
  show FV (can4 (pt q)) = _
  rw [can4_pos h]
theorem g4_last {q : Z4} (h : 0 < q.d) : g4 q.a q.b q.c q.d ≠ 0 := fun e => by
  have := (g4_zero.1 e).2.2.2
  omega
/-- The greatest common divisor as the program and the reference ask it. -/
theorem gcd_first (d a b c : Int) : Nat.gcd (Nat.gcd (Nat.gcd (Nat.gcd 0 d.natAbs) a.natAbs) b.natAbs) c.natAbs = g4 a b c d := by
  unfold g4
  rw [Nat.gcd_zero_left, Nat.gcd_comm d.natAbs, Nat.gcd_assoc a.natAbs, Nat.gcd_comm d.natAbs b.natAbs, ← Nat.gcd_assoc a.natAbs, Nat.gcd_assoc (Nat.gcd a.natAbs b.natAbs), Nat.gcd_comm d.natAbs, ← Nat.gcd_assoc]
theorem gcd_last (a b c d : Int) : Nat.gcd (Nat.gcd (Nat.gcd (Nat.gcd 0 a.natAbs) b.natAbs) c.natAbs) d.natAbs = g4 a b c d := by
  unfold g4
  rw [Nat.gcd_zero_left]
theorem g4_size {q : Z4} {k : Nat} (h : Fk q k) : Zk ((g4 q.a q.b q.c q.d : Nat) : Int) k := by
  have e1 : ((g4 q.a q.b q.c q.d : Nat) : Int).natAbs = g4 q.a q.b q.c q.d := rfl
  by_cases h0 : q.a = 0 ∧ q.b = 0 ∧ q.c = 0 ∧ q.d = 0
  · rw [g4_zero.2 h0]; exact Nat.zero_le _
  · have hd := g4_dvd q.a q.b q.c q.d
    have key : ∀ x : Int, ((g4 q.a q.b q.c q.d : Nat) : Int) ∣ x → x ≠ 0 → Zk x k → Zk ((g4 q.a q.b q.c q.d : Nat) : Int) k := by
      intro x h1 h2 h3
      refine mg_abs_le ?_ h3
      rw [e1]
      exact Nat.le_of_dvd (by omega) (Int.ofNat_dvd_left.1 h1)
    by_cases ha : q.a = 0
    · by_cases hb : q.b = 0
      · by_cases hc : q.c = 0
        · by_cases hw : q.d = 0
          · exact absurd ⟨ha, hb, hc, hw⟩ h0
          · exact key _ hd.2.2.2 hw h.2.2.2
        · exact key _ hd.2.2.1 hc h.2.2.1
      · exact key _ hd.2.1 hb h.2.1
    · exact key _ hd.1 ha h.1
theorem prim_divq {q : Z4} (h : g4 q.a q.b q.c q.d ≠ 0) : prim q = ⟨divq q.a (g4 q.a q.b q.c q.d : Nat), divq q.b (g4 q.a q.b q.c q.d : Nat), divq q.c (g4 q.a q.b q.c q.d : Nat), divq q.d (g4 q.a q.b q.c q.d : Nat)⟩ := by
  have h1 : ((g4 q.a q.b q.c q.d : Nat) : Int) ≠ 0 := by omega
  unfold prim
  rw [divq_pos h1, divq_pos h1, divq_pos h1, divq_pos h1]
/-! Order. -/
/-! Sums. -/
theorem div_sum {m n d x y u v : Int} (hd : d ≠ 0) (hu : u ≠ 0) (hv : v ≠ 0) : Rat.divInt (m * v * x + n * u * y) (d * (u * v)) = (m * Rat.divInt x u + n * Rat.divInt y v) / d := by
  rw [Rat.divInt_eq_div, Rat.divInt_eq_div, Rat.divInt_eq_div]
  simp only [Rat.intCast_add, Rat.intCast_mul]
  have h1 : (d : Rat) ≠ 0 := by exact_mod_cast hd
  have h2 : (u : Rat) ≠ 0 := by exact_mod_cast hu
  have h3 : (v : Rat) ≠ 0 := by exact_mod_cast hv
  grind
/-- The point (m a + n b) / d. -/
def combP (a b : P3) (m n d : Int) : P3 := ⟨(m * a.x + n * b.x) / d, (m * a.y + n * b.y) / d, (m * a.z + n * b.z) / d⟩
theorem combP_lerp (a b : P3) (t : Rat) : combP a b ((t.den : Int) - t.num) t.num (t.den : Int) = lerp a b t := by
  have e : t = (t.num : Rat) / (t.den : Rat) := by
    have h := Rat.num_divInt_den t
    rw [Rat.divInt_eq_div] at h
    exact h.symm
  have h0 : (t.den : Rat) ≠ 0 := by exact_mod_cast t.den_nz
  have h1 : (((t.den : Nat) : Int) : Rat) = (t.den : Rat) := rfl
  have key : ∀ x y : Rat, (((t.den : Int) - t.num : Int) * x + (t.num : Int) * y : Rat) / (((t.den : Nat) : Int) : Rat) = x + t * (y - x) := by
    intro x y
    rw [Rat.intCast_sub, h1]
    generalize (t.den : Rat) = D at *
    generalize (t.num : Rat) = N at *
    rw [e]
    grind
  unfold combP lerp
  exact P3.ext' (key _ _) (key _ _) (key _ _)
theorem comb_pt {a b : Z4} {m n d : Int} (hd : 0 < d) : pt ⟨m * (turn b).d * (turn a).a + n * (turn a).d * (turn b).a, m * (turn b).d * (turn a).b + n * (turn a).d * (turn b).b, m * (turn b).d * (turn a).c + n * (turn a).d * (turn b).c, d * ((turn a).d * (turn b).d)⟩ = combP (pt a) (pt b) m n d := by
  have ha := turn_pos a
  have hb := turn_pos b
  rw [pt_pos (Int.mul_ne_zero (by omega) (Int.mul_ne_zero (by omega) (by omega)))]
  unfold combP
  rw [pt_x a, pt_x b, pt_y a, pt_y b, pt_z a, pt_z b]
  refine P3.ext' ?_ ?_ ?_ <;> exact div_sum (by omega) (by omega) (by omega)
theorem hom_prog (p : P3) : pt ⟨p.x.num * 1 * (p.y.den : Int) * (p.z.den : Int), p.y.num * (1 * (p.x.den : Int)) * (p.z.den : Int), p.z.num * (1 * (p.x.den : Int) * (p.y.den : Int)), 1 * (p.x.den : Int) * (p.y.den : Int) * (p.z.den : Int)⟩ = p := by
  have h := pt_hom p
  have e : hom p = ⟨p.x.num * 1 * (p.y.den : Int) * (p.z.den : Int), p.y.num * (1 * (p.x.den : Int)) * (p.z.den : Int), p.z.num * (1 * (p.x.den : Int) * (p.y.den : Int)), 1 * (p.x.den : Int) * (p.y.den : Int) * (p.z.den : Int)⟩ := by
    refine Z4.ext' ?_ ?_ ?_ ?_ <;> simp only [hom, Int.mul_one, Int.one_mul, Int.mul_assoc]
  rw [← e, h]
/-! Signs; parts of four integers; sizes. -/
theorem cmpZ_eq0 {z : Int} : (cmpZ z 0 == 0) = decide (z = 0) := by
  rw [Bool.eq_iff_iff, beq_iff_eq, decide_eq_true_eq]
  unfold cmpZ
  split <;> (try split) <;> omega
theorem cmpZ_eqm {z : Int} : (cmpZ z 0 == -1) = decide (z < 0) := by
  rw [Bool.eq_iff_iff, beq_iff_eq, decide_eq_true_eq]
  unfold cmpZ
  split <;> (try split) <;> omega
theorem cmpZ_lt0 {z : Int} : decide (cmpZ z 0 < 0) = decide (z < 0) := by
  rw [decide_eq_decide]
  unfold cmpZ
  split <;> (try split) <;> omega
theorem IsF.in {a0 a2 a4 a6 : Bool} {a1 a3 a5 a7 : ByteArray} {q : Z4} {k : Nat} (h : IsF (.agg #[.bool a0, .string a1, .bool a2, .string a3, .bool a4, .string a5, .bool a6, .string a7]) q k) :
    (iv a0 a1 = q.a ∧ a1.size ≤ k) ∧ (iv a2 a3 = q.b ∧ a3.size ≤ k) ∧ (iv a4 a5 = q.c ∧ a5.size ≤ k) ∧ (iv a6 a7 = q.d ∧ a7.size ≤ k) := by
  obtain ⟨b0, b1, b2, b3, b4, b5, b6, b7, e, h1, h2, h3, h4, h5, h6, h7, h8⟩ := h
  simp only [Value.agg.injEq, Array.mk.injEq, List.cons.injEq, Value.bool.injEq, Value.string.injEq, and_true] at e
  obtain ⟨rfl, rfl, rfl, rfl, rfl, rfl, rfl, rfl⟩ := e
  exact ⟨⟨h1, h2⟩, ⟨h3, h4⟩, ⟨h5, h6⟩, ⟨h7, h8⟩⟩
section
variable {a0 a2 a4 a6 : Bool} {a1 a3 a5 a7 : ByteArray} {q : Z4} {k : Nat} (h : IsF (.agg #[.bool a0, .string a1, .bool a2, .string a3, .bool a4, .string a5, .bool a6, .string a7]) q k)
include h
theorem IsF.za : IsZ (I2 a0 a1) q.a k := ⟨_, _, rfl, h.in.1.1, h.in.1.2⟩
theorem IsF.zb : IsZ (I2 a2 a3) q.b k := ⟨_, _, rfl, h.in.2.1.1, h.in.2.1.2⟩
theorem IsF.zc : IsZ (I2 a4 a5) q.c k := ⟨_, _, rfl, h.in.2.2.1.1, h.in.2.2.1.2⟩
theorem IsF.zd : IsZ (I2 a6 a7) q.d k := ⟨_, _, rfl, h.in.2.2.2.1, h.in.2.2.2.2⟩
end
theorem Pk.red {q : Z4} {p : P3} {k : Nat} (e : Go.Proofs.YtodcomijjmobdaaGreatDoor.pt q = p) (h : Fk q k) (hk : 1 ≤ k) : Pk p k := e ▸ Pk.pt h hk
theorem Vk.ofP1 {p : P3} {k : Nat} (h : Pk p k) : Vk p (max k 1) := Vk.ofP (h.up (Nat.le_max_left _ _)) (Nat.le_max_right _ _)
theorem Pk.ofV3 {p : P3} {k : Nat} (h : Vk p k) : Pk p (3 * k) := (Pk.ofV h).up (by omega)
theorem Pk.add {p v : P3} {j k : Nat} (h1 : Pk p j) (h2 : Vk v k) : Pk (addP p v) (3 * (max j 1 + k + 1)) := by
  have h := Vk.ofP1 h1
  exact Pk.ofV3 ⟨Rk.add h.1 h2.1, Rk.add h.2.1 h2.2.1, Rk.add h.2.2 h2.2.2⟩
theorem Pk.lerp {a b : P3} {t : Rat} {i j k : Nat} (h1 : Pk a i) (h2 : Pk b j) (h3 : Rk t k) : Pk (lerp a b t) (3 * (max i 1 + (max k 1 + (max j 1 + max i 1 + 1)) + 1)) := by
  have ha := Vk.ofP1 h1
  have hb := Vk.ofP1 h2
  have ht := h3.mono (Nat.le_max_left k 1)
  have m := Nat.le_max_right k 1
  exact Pk.ofV3 ⟨Rk.add ha.1 (Rk.mul ht (Rk.sub hb.1 ha.1) m), Rk.add ha.2.1 (Rk.mul ht (Rk.sub hb.2.1 ha.2.1) m), Rk.add ha.2.2 (Rk.mul ht (Rk.sub hb.2.2 ha.2.2) m)⟩
theorem hom_prog_pos (p : P3) : 0 < (Z4.mk (p.x.num * 1 * (p.y.den : Int) * (p.z.den : Int)) (p.y.num * (1 * (p.x.den : Int)) * (p.z.den : Int)) (p.z.num * (1 * (p.x.den : Int) * (p.y.den : Int))) (1 * (p.x.den : Int) * (p.y.den : Int) * (p.z.den : Int))).d := by
  have h := hom_pos p
  show 0 < 1 * (p.x.den : Int) * (p.y.den : Int) * (p.z.den : Int)
  rw [Int.one_mul]
  exact h
theorem can4_x (p : P3) : Rat.divInt (can4 p).a (can4 p).d = p.x := by
  have h := pt_x (can4 p)
  rw [turn_plus (can4_wpos p), pt_can4] at h
  exact h.symm
theorem can4_y (p : P3) : Rat.divInt (can4 p).b (can4 p).d = p.y := by
  have h := pt_y (can4 p)
  rw [turn_plus (can4_wpos p), pt_can4] at h
  exact h.symm
theorem can4_z (p : P3) : Rat.divInt (can4 p).c (can4 p).d = p.z := by
  have h := pt_z (can4 p)
  rw [turn_plus (can4_wpos p), pt_can4] at h
  exact h.symm
theorem IsV.in {a0 a3 a6 : Bool} {a1 a2 a4 a5 a7 a8 : ByteArray} {p : P3} {k : Nat} (h : IsV (.agg #[.bool a0, .string a1, .string a2, .bool a3, .string a4, .string a5, .bool a6, .string a7, .string a8]) p k) :
    (rq a0 a1 a2 = p.x ∧ a1.size ≤ k ∧ a2.size ≤ k) ∧ (rq a3 a4 a5 = p.y ∧ a4.size ≤ k ∧ a5.size ≤ k) ∧ (rq a6 a7 a8 = p.z ∧ a7.size ≤ k ∧ a8.size ≤ k) := by
  obtain ⟨b0, b1, b2, b3, b4, b5, b6, b7, b8, e, h1, h2, h3, h4, h5, h6, h7, h8, h9⟩ := h
  simp only [Value.agg.injEq, Array.mk.injEq, List.cons.injEq, Value.bool.injEq, Value.string.injEq, and_true] at e
  obtain ⟨rfl, rfl, rfl, rfl, rfl, rfl, rfl, rfl, rfl⟩ := e
  exact ⟨⟨h1, h2, h3⟩, ⟨h4, h5, h6⟩, ⟨h7, h8, h9⟩⟩
section
variable {a0 a3 a6 : Bool} {a1 a2 a4 a5 a7 a8 : ByteArray} {p : P3} {k : Nat} (h : IsV (.agg #[.bool a0, .string a1, .string a2, .bool a3, .string a4, .string a5, .bool a6, .string a7, .string a8]) p k)
include h
end
end Go.Proofs.YtodcomijjmobdaaGreatDoor
