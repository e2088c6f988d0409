/- What package affine computes: numerators over a common denominator. -/
import Derived.Test.YtodcomijjmobdaaGreatDoorYb
import Derived.Test.YtodcomijjmobdaaGreatDoorVb
set_option linter.unusedVariables false
set_option linter.unusedSimpArgs false
namespace Go.Proofs.YtodcomijjmobdaaGreatDoor
open Go.RowKit NM SX

/-- The entries of a map by number, row by row. -/
def entM (m : M3) : Nat → Rat
  | 0 => m.x.a
  | 1 => m.x.b
  | 2 => m.x.c
  | 3 => m.x.d
  | 4 => m.y.a
  | 5 => m.y.b
  | 6 => m.y.c
  | 7 => m.y.d
  | 8 => m.z.a
  | 9 => m.z.b
  | 10 => m.z.c
  | 11 => m.z.d
  | _ => 0
/-- Sixteen integers: three rows of numerators; the last one is the denominator. -/
def matE (e : Nat → Nat → Int) (d : Int) : Nat → Int
  | 0 => e 0 0
  | 1 => e 0 1
  | 2 => e 0 2
  | 3 => e 0 3
  | 4 => e 1 0
  | 5 => e 1 1
  | 6 => e 1 2
  | 7 => e 1 3
  | 8 => e 2 0
  | 9 => e 2 1
  | 10 => e 2 2
  | 11 => e 2 3
  | 15 => d
  | _ => 0
abbrev XV (E : Nat → Int) : Value := .agg #[.bool (sg (E 0)), .string (mg (E 0)), .bool (sg (E 1)), .string (mg (E 1)), .bool (sg (E 2)), .string (mg (E 2)), .bool (sg (E 3)), .string (mg (E 3)), .bool (sg (E 4)), .string (mg (E 4)), .bool (sg (E 5)), .string (mg (E 5)), .bool (sg (E 6)), .string (mg (E 6)), .bool (sg (E 7)), .string (mg (E 7)), .bool (sg (E 8)), .string (mg (E 8)), .bool (sg (E 9)), .string (mg (E 9)), .bool (sg (E 10)), .string (mg (E 10)), .bool (sg (E 11)), .string (mg (E 11)), .bool (sg (E 12)), .string (mg (E 12)), .bool (sg (E 13)), .string (mg (E 13)), .bool (sg (E 14)), .string (mg (E 14)), .bool (sg (E 15)), .string (mg (E 15))]
@[reducible] def xc (E : Nat → Int) : List Value := [.bool (sg (E 0)), .string (mg (E 0)), .bool (sg (E 1)), .string (mg (E 1)), .bool (sg (E 2)), .string (mg (E 2)), .bool (sg (E 3)), .string (mg (E 3)), .bool (sg (E 4)), .string (mg (E 4)), .bool (sg (E 5)), .string (mg (E 5)), .bool (sg (E 6)), .string (mg (E 6)), .bool (sg (E 7)), .string (mg (E 7)), .bool (sg (E 8)), .string (mg (E 8)), .bool (sg (E 9)), .string (mg (E 9)), .bool (sg (E 10)), .string (mg (E 10)), .bool (sg (E 11)), .string (mg (E 11)), .bool (sg (E 12)), .string (mg (E 12)), .bool (sg (E 13)), .string (mg (E 13)), .bool (sg (E 14)), .string (mg (E 14)), .bool (sg (E 15)), .string (mg (E 15))]
abbrev Xk (E : Nat → Int) (k : Nat) : Prop := ∀ i, i < 16 → Zk (E i) k
theorem Xk.up {E : Nat → Int} {j k : Nat} (h : Xk E j) (hk : j ≤ k) : Xk E k := fun i hi => (h i hi).up hk
theorem twelve {i : Nat} (h : i < 12) : i = 0 ∨ i = 1 ∨ i = 2 ∨ i = 3 ∨ i = 4 ∨ i = 5 ∨ i = 6 ∨ i = 7 ∨ i = 8 ∨ i = 9 ∨ i = 10 ∨ i = 11 := by omega
theorem sixteen {i : Nat} (h : i < 16) : i < 12 ∨ i = 12 ∨ i = 13 ∨ i = 14 ∨ i = 15 := by omega
theorem Xk.mat {e : Nat → Nat → Int} {d : Int} {k : Nat} (he : ∀ r c, r < 3 → c < 4 → Zk (e r c) k) (hd : Zk d k) : Xk (matE e d) k := by
  intro i hi
  have z : Zk 0 k := Zk.zero.up (Nat.zero_le _)
  rcases sixteen hi with h | rfl | rfl | rfl | rfl
  · rcases twelve h with rfl | rfl | rfl | rfl | rfl | rfl | rfl | rfl | rfl | rfl | rfl | rfl <;> exact he _ _ (by decide) (by decide)
  · exact z
  · exact z
  · exact z
  · exact hd
/-- The numerators over their denominator are the map. -/
def Rep (E : Nat → Int) (m : M3) : Prop := E 15 ≠ 0 ∧ (E 12 = 0 ∧ E 13 = 0 ∧ E 14 = 0) ∧ ∀ i, i < 12 → (E i : Rat) = entM m i * (E 15 : Rat)
def overE (E : Nat → Int) : M3 := ⟨⟨Rat.divInt (E 0) (E 15), Rat.divInt (E 1) (E 15), Rat.divInt (E 2) (E 15), Rat.divInt (E 3) (E 15)⟩, ⟨Rat.divInt (E 4) (E 15), Rat.divInt (E 5) (E 15), Rat.divInt (E 6) (E 15), Rat.divInt (E 7) (E 15)⟩, ⟨Rat.divInt (E 8) (E 15), Rat.divInt (E 9) (E 15), Rat.divInt (E 10) (E 15), Rat.divInt (E 11) (E 15)⟩⟩
theorem over_rep {E : Nat → Int} {m : M3} (h : Rep E m) : overE E = m := by
  have key : ∀ i, i < 12 → Rat.divInt (E i) (E 15) = entM m i := by
    intro i hi
    rw [Rat.divInt_eq_div, h.2.2 i hi]
    have := cast_ne h.1
    grind
  exact M3.ext' (Q4.ext' (key 0 (by decide)) (key 1 (by decide)) (key 2 (by decide)) (key 3 (by decide))) (Q4.ext' (key 4 (by decide)) (key 5 (by decide)) (key 6 (by decide)) (key 7 (by decide))) (Q4.ext' (key 8 (by decide)) (key 9 (by decide)) (key 10 (by decide)) (key 11 (by decide)))
/-! The common denominator. -/
def cdM (m : M3) : Nat → Nat
  | 0 => 1
  | n + 1 => Nat.lcm (entM m n).den (cdM m n)
theorem cdM_pos (m : M3) : ∀ n, 0 < cdM m n
  | 0 => Nat.one_pos
  | n + 1 => Nat.lcm_pos (entM m n).den_pos (cdM_pos m n)
theorem cdM_dvd (m : M3) : ∀ n i, i < n → (entM m i).den ∣ cdM m n
  | 0, i, h => absurd h (Nat.not_lt_zero i)
  | n + 1, i, h => by
    rcases Nat.lt_succ_iff_lt_or_eq.1 h with h | rfl
    · exact Nat.dvd_trans (cdM_dvd m n i h) (Nat.dvd_lcm_right _ _)
    · exact Nat.dvd_lcm_left _ _
theorem cd_step (a c : Nat) (ha : 0 < a) : divq (a : Int) ((Nat.gcd a c : Nat) : Int) * (c : Int) = ((Nat.lcm a c : Nat) : Int) := by
  have hg : 0 < Nat.gcd a c := Nat.gcd_pos_of_pos_left c ha
  rw [divq_pos (by omega), ← Int.natCast_ediv, ← Int.natCast_mul]
  unfold Nat.lcm
  rw [Nat.div_mul_right_comm (Nat.gcd_dvd_left a c)]
theorem cd_step' (a c : Nat) (ha : 0 < a) : (c : Int) * divq (a : Int) ((Nat.gcd a c : Nat) : Int) = ((Nat.lcm a c : Nat) : Int) := by rw [Int.mul_comm, cd_step a c ha]
theorem Zk.abs_le {x y : Int} {k : Nat} (h : x.natAbs ≤ y.natAbs) (hy : Zk y k) : Zk x k := mg_size_le (Nat.lt_of_le_of_lt h (mg_lt hy))
theorem ent_size {m : M3} {k : Nat} (h : Mk m k) : ∀ i, i < 12 → Rk (entM m i) k := by
  obtain ⟨⟨h0, h1, h2, h3⟩, ⟨h4, h5, h6, h7⟩, ⟨h8, h9, h10, h11⟩⟩ := h
  intro i hi
  rcases twelve hi with rfl | rfl | rfl | rfl | rfl | rfl | rfl | rfl | rfl | rfl | rfl | rfl <;> assumption
theorem cd_size {m : M3} {k : Nat} (h : Mk m k) : ∀ n, n ≤ 12 → Zk ((cdM m n : Nat) : Int) (n * k + 1)
  | 0, _ => (show Zk ((1 : Nat) : Int) 1 from mg_size_le (by decide)).up (by omega)
  | n + 1, hn => by
    have h1 := (ent_size h n (by omega)).2
    have h2 := cd_size h n (by omega)
    refine Zk.abs_le (y := ((entM m n).den : Int) * ((cdM m n : Nat) : Int)) ?_ (Zk.up (mg_mul_size h1 h2) (by rw [Nat.succ_mul]; omega))
    rw [← Int.natCast_mul, Int.natAbs_natCast, Int.natAbs_natCast]
    exact Nat.le_of_dvd (Nat.mul_pos (entM m n).den_pos (cdM_pos m n)) (Nat.lcm_dvd_mul _ _)
def fromE (m : M3) : Nat → Int := matE (fun r c => (entM m (4 * r + c)).num * divq ((cdM m 12 : Nat) : Int) (((entM m (4 * r + c)).den : Nat) : Int)) ((cdM m 12 : Nat) : Int)
theorem frac (q : Rat) {c : Nat} (h : q.den ∣ c) : ((q.num * divq (c : Int) ((q.den : Nat) : Int) : Int) : Rat) = q * ((c : Int) : Rat) := by
  obtain ⟨k, rfl⟩ := h
  have hd : ((q.den : Nat) : Int) ≠ 0 := by have := q.den_pos; omega
  have e : q = (q.num : Rat) / ((q.den : Int) : Rat) := by
    rw [← Rat.divInt_eq_div, Rat.num_divInt_den]
  have hd' := cast_ne hd
  rw [divq_pos hd, Int.natCast_mul, Int.mul_ediv_cancel_left _ hd, Rat.intCast_mul, Rat.intCast_mul]
  generalize ((q.den : Int) : Rat) = D at *
  generalize (q.num : Rat) = N at *
  generalize ((k : Int) : Rat) = K
  rw [e]
  grind
theorem rep_from (m : M3) : Rep (fromE m) m := by
  refine ⟨?_, ⟨rfl, rfl, rfl⟩, ?_⟩
  · show ((cdM m 12 : Nat) : Int) ≠ 0
    have := cdM_pos m 12
    omega
  · intro i hi
    have h := frac (entM m i) (cdM_dvd m 12 i hi)
    rcases twelve hi with rfl | rfl | rfl | rfl | rfl | rfl | rfl | rfl | rfl | rfl | rfl | rfl <;> exact h
theorem Xk.fromE {m : M3} {k : Nat} (h : Mk m k) : Xk (fromE m) (13 * k + 1) := by
  have hc := cd_size h 12 (Nat.le_refl _)
  refine Xk.mat (fun r c hr hc' => ?_) (hc.up (by omega))
  have h1 := ent_size h (4 * r + c) (by omega)
  generalize entM m (4 * r + c) = q at *
  refine Zk.up (mg_mul_size h1.1 (Zk.abs_le ?_ hc)) (by omega)
  unfold divq
  split
  · exact Nat.zero_le _
  · exact Int.natAbs_ediv_le_natAbs _ _

/-! Sums, cofactors, the determinant. -/
def sum3 (t : Nat → Int) : Int := 0 + t 0 + t 1 + t 2
def sum4 (t : Nat → Int) : Int := 0 + t 0 + t 1 + t 2 + t 3
theorem Zk.sum3 {t : Nat → Int} {k : Nat} (h : ∀ i, i < 3 → Zk (t i) k) : Zk (sum3 t) (k + 3) :=
  (Is.add (Is.add (Is.add (Zk.zero.up (Nat.zero_le k)) (h 0 (by decide))) (h 1 (by decide))) (h 2 (by decide))).up (by omega)
theorem Zk.sum4 {t : Nat → Int} {k : Nat} (h : ∀ i, i < 4 → Zk (t i) k) : Zk (sum4 t) (k + 4) :=
  (Is.add (Is.add (Is.add (Is.add (Zk.zero.up (Nat.zero_le k)) (h 0 (by decide))) (h 1 (by decide))) (h 2 (by decide))) (h 3 (by decide))).up (by omega)
def cofE (X : Nat → Int) (r c : Nat) : Int := X (4 * ((r + 1) % 3) + (c + 1) % 3) * X (4 * ((r + 2) % 3) + (c + 2) % 3) - X (4 * ((r + 1) % 3) + (c + 2) % 3) * X (4 * ((r + 2) % 3) + (c + 1) % 3)
theorem Zk.cofE {X : Nat → Int} {k : Nat} (h : Xk X k) (r c : Nat) : Zk (cofE X r c) (2 * k + 1) := by
  have a := Nat.mod_lt (r + 1) (show 0 < 3 by decide)
  have b := Nat.mod_lt (c + 1) (show 0 < 3 by decide)
  have d := Nat.mod_lt (r + 2) (show 0 < 3 by decide)
  have e := Nat.mod_lt (c + 2) (show 0 < 3 by decide)
  exact (Is.sub (mg_mul_size (h _ (by omega)) (h _ (by omega))) (mg_mul_size (h _ (by omega)) (h _ (by omega)))).up (by omega)
def detE (X : Nat → Int) : Int := sum3 fun k => X k * cofE X 0 k
theorem Zk.detE {X : Nat → Int} {k : Nat} (h : Xk X k) : Zk (detE X) (3 * k + 4) := (Zk.sum3 (k := 3 * k + 1) fun i hi => Zk.up (mg_mul_size (h i (by omega)) (Zk.cofE h 0 i)) (by omega)).up (by omega)
theorem det_rep {X : Nat → Int} {m : M3} (h : Rep X m) : (detE X : Rat) = detM m * ((X 15 : Rat) * (X 15 * X 15)) := by
  have h0 : (X 0 : Rat) = m.x.a * (X 15 : Rat) := h.2.2 0 (by decide)
  have h1 : (X 1 : Rat) = m.x.b * (X 15 : Rat) := h.2.2 1 (by decide)
  have h2 : (X 2 : Rat) = m.x.c * (X 15 : Rat) := h.2.2 2 (by decide)
  have h4 : (X 4 : Rat) = m.y.a * (X 15 : Rat) := h.2.2 4 (by decide)
  have h5 : (X 5 : Rat) = m.y.b * (X 15 : Rat) := h.2.2 5 (by decide)
  have h6 : (X 6 : Rat) = m.y.c * (X 15 : Rat) := h.2.2 6 (by decide)
  have h8 : (X 8 : Rat) = m.z.a * (X 15 : Rat) := h.2.2 8 (by decide)
  have h9 : (X 9 : Rat) = m.z.b * (X 15 : Rat) := h.2.2 9 (by decide)
  have h10 : (X 10 : Rat) = m.z.c * (X 15 : Rat) := h.2.2 10 (by decide)
  have z0 : ((0 : Int) : Rat) = 0 := rfl
  show ((0 + X 0 * (X 5 * X 10 - X 6 * X 9) + X 1 * (X 6 * X 8 - X 4 * X 10) + X 2 * (X 4 * X 9 - X 5 * X 8) : Int) : Rat) = _
  simp only [Rat.intCast_add, Rat.intCast_mul, Rat.intCast_sub, Rat.intCast_neg, z0, h0, h1, h2, h4, h5, h6, h8, h9, h10]
  unfold detM
  grind
theorem det_zero {X : Nat → Int} {m : M3} (h : Rep X m) : detE X = 0 ↔ detM m = 0 := by
  have e := det_rep h
  have hd := cast_ne h.1
  constructor
  · intro h0
    rw [h0] at e
    have h1 : detM m * ((X 15 : Rat) * (X 15 * X 15)) = 0 := e.symm
    rcases Rat.mul_eq_zero.1 h1 with h2 | h2
    · exact h2
    · exfalso
      rcases Rat.mul_eq_zero.1 h2 with h3 | h3
      · exact hd h3
      · rcases Rat.mul_eq_zero.1 h3 with h4 | h4 <;> exact hd h4
  · intro h0
    rw [h0, Rat.zero_mul] at e
    exact_mod_cast e
theorem det_over {X : Nat → Int} {m : M3} (h : Rep X m) : Rat.divInt (detE X) (X 15 * (X 15 * X 15)) = detM m := by
  have hd := cast_ne h.1
  rw [Rat.divInt_eq_div, det_rep h, Rat.intCast_mul, Rat.intCast_mul]
  generalize (X 15 : Rat) = D at *
  have : D * (D * D) ≠ 0 := by
    intro e
    rcases Rat.mul_eq_zero.1 e with h3 | h3
    · exact hd h3
    · rcases Rat.mul_eq_zero.1 h3 with h4 | h4 <;> exact hd h4
  grind

/-! Compositions. -/
def compE (X Y : Nat → Int) : Nat → Int := matE (fun r c => sum4 fun k => X (4 * r + k) * Y (4 * k + c)) (X 15 * Y 15)
theorem rep_comp {X Y : Nat → Int} {a b : M3} (h : Rep X a) (g : Rep Y b) : Rep (compE X Y) (compM a b) := by
  obtain ⟨k1, k2, k3⟩ := g.2.1
  have h0 : (X 0 : Rat) = a.x.a * (X 15 : Rat) := h.2.2 0 (by decide)
  have h1 : (X 1 : Rat) = a.x.b * (X 15 : Rat) := h.2.2 1 (by decide)
  have h2 : (X 2 : Rat) = a.x.c * (X 15 : Rat) := h.2.2 2 (by decide)
  have h3 : (X 3 : Rat) = a.x.d * (X 15 : Rat) := h.2.2 3 (by decide)
  have h4 : (X 4 : Rat) = a.y.a * (X 15 : Rat) := h.2.2 4 (by decide)
  have h5 : (X 5 : Rat) = a.y.b * (X 15 : Rat) := h.2.2 5 (by decide)
  have h6 : (X 6 : Rat) = a.y.c * (X 15 : Rat) := h.2.2 6 (by decide)
  have h7 : (X 7 : Rat) = a.y.d * (X 15 : Rat) := h.2.2 7 (by decide)
  have h8 : (X 8 : Rat) = a.z.a * (X 15 : Rat) := h.2.2 8 (by decide)
  have h9 : (X 9 : Rat) = a.z.b * (X 15 : Rat) := h.2.2 9 (by decide)
  have h10 : (X 10 : Rat) = a.z.c * (X 15 : Rat) := h.2.2 10 (by decide)
  have h11 : (X 11 : Rat) = a.z.d * (X 15 : Rat) := h.2.2 11 (by decide)
  have g0 : (Y 0 : Rat) = b.x.a * (Y 15 : Rat) := g.2.2 0 (by decide)
  have g1 : (Y 1 : Rat) = b.x.b * (Y 15 : Rat) := g.2.2 1 (by decide)
  have g2 : (Y 2 : Rat) = b.x.c * (Y 15 : Rat) := g.2.2 2 (by decide)
  have g3 : (Y 3 : Rat) = b.x.d * (Y 15 : Rat) := g.2.2 3 (by decide)
  have g4 : (Y 4 : Rat) = b.y.a * (Y 15 : Rat) := g.2.2 4 (by decide)
  have g5 : (Y 5 : Rat) = b.y.b * (Y 15 : Rat) := g.2.2 5 (by decide)
  have g6 : (Y 6 : Rat) = b.y.c * (Y 15 : Rat) := g.2.2 6 (by decide)
  have g7 : (Y 7 : Rat) = b.y.d * (Y 15 : Rat) := g.2.2 7 (by decide)
  have g8 : (Y 8 : Rat) = b.z.a * (Y 15 : Rat) := g.2.2 8 (by decide)
  have g9 : (Y 9 : Rat) = b.z.b * (Y 15 : Rat) := g.2.2 9 (by decide)
  have g10 : (Y 10 : Rat) = b.z.c * (Y 15 : Rat) := g.2.2 10 (by decide)
  have g11 : (Y 11 : Rat) = b.z.d * (Y 15 : Rat) := g.2.2 11 (by decide)
  have z0 : ((0 : Int) : Rat) = 0 := rfl
  refine ⟨Int.mul_ne_zero h.1 g.1, ⟨rfl, rfl, rfl⟩, ?_⟩
  intro i hi
  rcases twelve hi with rfl | rfl | rfl | rfl | rfl | rfl | rfl | rfl | rfl | rfl | rfl | rfl
  · show ((0 + X 0 * Y 0 + X 1 * Y 4 + X 2 * Y 8 + X 3 * Y 12 : Int) : Rat) = entM (compM a b) 0 * ((X 15 * Y 15 : Int) : Rat)
    simp only [Rat.intCast_add, Rat.intCast_mul, Rat.intCast_sub, Rat.intCast_neg, z0, h0, h1, h2, h3, g0, g4, g8, k1]
    show _ = (0 + a.x.a * b.x.a + a.x.b * b.y.a + a.x.c * b.z.a) * _
    grind
  · show ((0 + X 0 * Y 1 + X 1 * Y 5 + X 2 * Y 9 + X 3 * Y 13 : Int) : Rat) = entM (compM a b) 1 * ((X 15 * Y 15 : Int) : Rat)
    simp only [Rat.intCast_add, Rat.intCast_mul, Rat.intCast_sub, Rat.intCast_neg, z0, h0, h1, h2, h3, g1, g5, g9, k2]
    show _ = (0 + a.x.a * b.x.b + a.x.b * b.y.b + a.x.c * b.z.b) * _
    grind
  · show ((0 + X 0 * Y 2 + X 1 * Y 6 + X 2 * Y 10 + X 3 * Y 14 : Int) : Rat) = entM (compM a b) 2 * ((X 15 * Y 15 : Int) : Rat)
    simp only [Rat.intCast_add, Rat.intCast_mul, Rat.intCast_sub, Rat.intCast_neg, z0, h0, h1, h2, h3, g2, g6, g10, k3]
    show _ = (0 + a.x.a * b.x.c + a.x.b * b.y.c + a.x.c * b.z.c) * _
    grind
  · show ((0 + X 0 * Y 3 + X 1 * Y 7 + X 2 * Y 11 + X 3 * Y 15 : Int) : Rat) = entM (compM a b) 3 * ((X 15 * Y 15 : Int) : Rat)
    simp only [Rat.intCast_add, Rat.intCast_mul, Rat.intCast_sub, Rat.intCast_neg, z0, h0, h1, h2, h3, g3, g7, g11]
    show _ = (a.x.d + a.x.a * b.x.d + a.x.b * b.y.d + a.x.c * b.z.d) * _
    grind
  · show ((0 + X 4 * Y 0 + X 5 * Y 4 + X 6 * Y 8 + X 7 * Y 12 : Int) : Rat) = entM (compM a b) 4 * ((X 15 * Y 15 : Int) : Rat)
    simp only [Rat.intCast_add, Rat.intCast_mul, Rat.intCast_sub, Rat.intCast_neg, z0, h4, h5, h6, h7, g0, g4, g8, k1]
    show _ = (0 + a.y.a * b.x.a + a.y.b * b.y.a + a.y.c * b.z.a) * _
    grind
  · show ((0 + X 4 * Y 1 + X 5 * Y 5 + X 6 * Y 9 + X 7 * Y 13 : Int) : Rat) = entM (compM a b) 5 * ((X 15 * Y 15 : Int) : Rat)
    simp only [Rat.intCast_add, Rat.intCast_mul, Rat.intCast_sub, Rat.intCast_neg, z0, h4, h5, h6, h7, g1, g5, g9, k2]
    show _ = (0 + a.y.a * b.x.b + a.y.b * b.y.b + a.y.c * b.z.b) * _
    grind
  · show ((0 + X 4 * Y 2 + X 5 * Y 6 + X 6 * Y 10 + X 7 * Y 14 : Int) : Rat) = entM (compM a b) 6 * ((X 15 * Y 15 : Int) : Rat)
    simp only [Rat.intCast_add, Rat.intCast_mul, Rat.intCast_sub, Rat.intCast_neg, z0, h4, h5, h6, h7, g2, g6, g10, k3]
    show _ = (0 + a.y.a * b.x.c + a.y.b * b.y.c + a.y.c * b.z.c) * _
    grind
  · show ((0 + X 4 * Y 3 + X 5 * Y 7 + X 6 * Y 11 + X 7 * Y 15 : Int) : Rat) = entM (compM a b) 7 * ((X 15 * Y 15 : Int) : Rat)
    simp only [Rat.intCast_add, Rat.intCast_mul, Rat.intCast_sub, Rat.intCast_neg, z0, h4, h5, h6, h7, g3, g7, g11]
    show _ = (a.y.d + a.y.a * b.x.d + a.y.b * b.y.d + a.y.c * b.z.d) * _
    grind
  · show ((0 + X 8 * Y 0 + X 9 * Y 4 + X 10 * Y 8 + X 11 * Y 12 : Int) : Rat) = entM (compM a b) 8 * ((X 15 * Y 15 : Int) : Rat)
    simp only [Rat.intCast_add, Rat.intCast_mul, Rat.intCast_sub, Rat.intCast_neg, z0, h8, h9, h10, h11, g0, g4, g8, k1]
    show _ = (0 + a.z.a * b.x.a + a.z.b * b.y.a + a.z.c * b.z.a) * _
    grind
  · show ((0 + X 8 * Y 1 + X 9 * Y 5 + X 10 * Y 9 + X 11 * Y 13 : Int) : Rat) = entM (compM a b) 9 * ((X 15 * Y 15 : Int) : Rat)
    simp only [Rat.intCast_add, Rat.intCast_mul, Rat.intCast_sub, Rat.intCast_neg, z0, h8, h9, h10, h11, g1, g5, g9, k2]
    show _ = (0 + a.z.a * b.x.b + a.z.b * b.y.b + a.z.c * b.z.b) * _
    grind
  · show ((0 + X 8 * Y 2 + X 9 * Y 6 + X 10 * Y 10 + X 11 * Y 14 : Int) : Rat) = entM (compM a b) 10 * ((X 15 * Y 15 : Int) : Rat)
    simp only [Rat.intCast_add, Rat.intCast_mul, Rat.intCast_sub, Rat.intCast_neg, z0, h8, h9, h10, h11, g2, g6, g10, k3]
    show _ = (0 + a.z.a * b.x.c + a.z.b * b.y.c + a.z.c * b.z.c) * _
    grind
  · show ((0 + X 8 * Y 3 + X 9 * Y 7 + X 10 * Y 11 + X 11 * Y 15 : Int) : Rat) = entM (compM a b) 11 * ((X 15 * Y 15 : Int) : Rat)
    simp only [Rat.intCast_add, Rat.intCast_mul, Rat.intCast_sub, Rat.intCast_neg, z0, h8, h9, h10, h11, g3, g7, g11]
    show _ = (a.z.d + a.z.a * b.x.d + a.z.b * b.y.d + a.z.c * b.z.d) * _
    grind
theorem Xk.comp {X Y : Nat → Int} {j k : Nat} (h : Xk X j) (g : Xk Y k) : Xk (compE X Y) (j + k + 4) :=
  Xk.mat (fun r c hr hc => Zk.sum4 fun i hi => mg_mul_size (h _ (by omega)) (g _ (by omega))) (Zk.up (mg_mul_size (h 15 (by omega)) (g 15 (by omega))) (by omega))

/-! The inverse. -/
def invE (X : Nat → Int) : Nat → Int := matE (fun r c => if c = 3 then -(sum3 fun k => cofE X k r * X (4 * k + 3)) else cofE X c r * X 15) (detE X)
theorem Xk.invE {X : Nat → Int} {k : Nat} (h : Xk X k) : Xk (invE X) (3 * k + 4) := by
  refine Xk.mat (fun r c hr hc => ?_) (Zk.detE h)
  by_cases h3 : c = 3
  · rw [if_pos h3]
    exact mg_neg_size ((Zk.sum3 (k := 3 * k + 1) fun i hi => Zk.up (mg_mul_size (Zk.cofE h i r) (h _ (by omega))) (by omega)).up (by omega))
  · rw [if_neg h3]
    exact Zk.up (mg_mul_size (Zk.cofE h c r) (h 15 (by omega))) (by omega)
theorem rep_inv {X : Nat → Int} {m : M3} (h : Rep X m) (hm : detM m ≠ 0) : Rep (invE X) (invM m) := by
  have hD := det_rep h
  have hI := Rat.mul_inv_cancel _ hm
  have h0 : (X 0 : Rat) = m.x.a * (X 15 : Rat) := h.2.2 0 (by decide)
  have h1 : (X 1 : Rat) = m.x.b * (X 15 : Rat) := h.2.2 1 (by decide)
  have h2 : (X 2 : Rat) = m.x.c * (X 15 : Rat) := h.2.2 2 (by decide)
  have h3 : (X 3 : Rat) = m.x.d * (X 15 : Rat) := h.2.2 3 (by decide)
  have h4 : (X 4 : Rat) = m.y.a * (X 15 : Rat) := h.2.2 4 (by decide)
  have h5 : (X 5 : Rat) = m.y.b * (X 15 : Rat) := h.2.2 5 (by decide)
  have h6 : (X 6 : Rat) = m.y.c * (X 15 : Rat) := h.2.2 6 (by decide)
  have h7 : (X 7 : Rat) = m.y.d * (X 15 : Rat) := h.2.2 7 (by decide)
  have h8 : (X 8 : Rat) = m.z.a * (X 15 : Rat) := h.2.2 8 (by decide)
  have h9 : (X 9 : Rat) = m.z.b * (X 15 : Rat) := h.2.2 9 (by decide)
  have h10 : (X 10 : Rat) = m.z.c * (X 15 : Rat) := h.2.2 10 (by decide)
  have h11 : (X 11 : Rat) = m.z.d * (X 15 : Rat) := h.2.2 11 (by decide)
  have z0 : ((0 : Int) : Rat) = 0 := rfl
  refine ⟨fun e => hm ((det_zero h).1 e), ⟨rfl, rfl, rfl⟩, ?_⟩
  intro i hi
  rcases twelve hi with rfl | rfl | rfl | rfl | rfl | rfl | rfl | rfl | rfl | rfl | rfl | rfl
  · show (((X 5 * X 10 - X 6 * X 9) * X 15 : Int) : Rat) = (linI m).x.a * ((detE X : Int) : Rat)
    rw [hD]
    simp only [Rat.intCast_add, Rat.intCast_mul, Rat.intCast_sub, Rat.intCast_neg, z0, h5, h10, h6, h9]
    unfold linI
    simp only [Rat.div_def]
    generalize (detM m)⁻¹ = I at *
    generalize detM m = D at *
    generalize (X 15 : Rat) = d
    clear hD h hm h0 h1 h2 h3 h4 h5 h6 h7 h8 h9 h10 h11
    grind
  · show (((X 9 * X 2 - X 10 * X 1) * X 15 : Int) : Rat) = (linI m).x.b * ((detE X : Int) : Rat)
    rw [hD]
    simp only [Rat.intCast_add, Rat.intCast_mul, Rat.intCast_sub, Rat.intCast_neg, z0, h9, h2, h10, h1]
    unfold linI
    simp only [Rat.div_def]
    generalize (detM m)⁻¹ = I at *
    generalize detM m = D at *
    generalize (X 15 : Rat) = d
    clear hD h hm h0 h1 h2 h3 h4 h5 h6 h7 h8 h9 h10 h11
    grind
  · show (((X 1 * X 6 - X 2 * X 5) * X 15 : Int) : Rat) = (linI m).x.c * ((detE X : Int) : Rat)
    rw [hD]
    simp only [Rat.intCast_add, Rat.intCast_mul, Rat.intCast_sub, Rat.intCast_neg, z0, h1, h6, h2, h5]
    unfold linI
    simp only [Rat.div_def]
    generalize (detM m)⁻¹ = I at *
    generalize detM m = D at *
    generalize (X 15 : Rat) = d
    clear hD h hm h0 h1 h2 h3 h4 h5 h6 h7 h8 h9 h10 h11
    grind
  · show ((-(0 + (X 5 * X 10 - X 6 * X 9) * X 3 + (X 9 * X 2 - X 10 * X 1) * X 7 + (X 1 * X 6 - X 2 * X 5) * X 11) : Int) : Rat) = (-(vecM (linI m) (lastM m)).x) * ((detE X : Int) : Rat)
    rw [hD]
    simp only [Rat.intCast_add, Rat.intCast_mul, Rat.intCast_sub, Rat.intCast_neg, z0, h1, h2, h3, h5, h6, h7, h9, h10, h11]
    unfold vecM vecR lastM linI
    simp only [Rat.div_def]
    generalize (detM m)⁻¹ = I at *
    generalize detM m = D at *
    generalize (X 15 : Rat) = d
    clear hD h hm h0 h1 h2 h3 h4 h5 h6 h7 h8 h9 h10 h11
    grind
  · show (((X 6 * X 8 - X 4 * X 10) * X 15 : Int) : Rat) = (linI m).y.a * ((detE X : Int) : Rat)
    rw [hD]
    simp only [Rat.intCast_add, Rat.intCast_mul, Rat.intCast_sub, Rat.intCast_neg, z0, h6, h8, h4, h10]
    unfold linI
    simp only [Rat.div_def]
    generalize (detM m)⁻¹ = I at *
    generalize detM m = D at *
    generalize (X 15 : Rat) = d
    clear hD h hm h0 h1 h2 h3 h4 h5 h6 h7 h8 h9 h10 h11
    grind
  · show (((X 10 * X 0 - X 8 * X 2) * X 15 : Int) : Rat) = (linI m).y.b * ((detE X : Int) : Rat)
    rw [hD]
    simp only [Rat.intCast_add, Rat.intCast_mul, Rat.intCast_sub, Rat.intCast_neg, z0, h10, h0, h8, h2]
    unfold linI
    simp only [Rat.div_def]
    generalize (detM m)⁻¹ = I at *
    generalize detM m = D at *
    generalize (X 15 : Rat) = d
    clear hD h hm h0 h1 h2 h3 h4 h5 h6 h7 h8 h9 h10 h11
    grind
  · show (((X 2 * X 4 - X 0 * X 6) * X 15 : Int) : Rat) = (linI m).y.c * ((detE X : Int) : Rat)
    rw [hD]
    simp only [Rat.intCast_add, Rat.intCast_mul, Rat.intCast_sub, Rat.intCast_neg, z0, h2, h4, h0, h6]
    unfold linI
    simp only [Rat.div_def]
    generalize (detM m)⁻¹ = I at *
    generalize detM m = D at *
    generalize (X 15 : Rat) = d
    clear hD h hm h0 h1 h2 h3 h4 h5 h6 h7 h8 h9 h10 h11
    grind
  · show ((-(0 + (X 6 * X 8 - X 4 * X 10) * X 3 + (X 10 * X 0 - X 8 * X 2) * X 7 + (X 2 * X 4 - X 0 * X 6) * X 11) : Int) : Rat) = (-(vecM (linI m) (lastM m)).y) * ((detE X : Int) : Rat)
    rw [hD]
    simp only [Rat.intCast_add, Rat.intCast_mul, Rat.intCast_sub, Rat.intCast_neg, z0, h0, h2, h3, h4, h6, h7, h8, h10, h11]
    unfold vecM vecR lastM linI
    simp only [Rat.div_def]
    generalize (detM m)⁻¹ = I at *
    generalize detM m = D at *
    generalize (X 15 : Rat) = d
    clear hD h hm h0 h1 h2 h3 h4 h5 h6 h7 h8 h9 h10 h11
    grind
  · show (((X 4 * X 9 - X 5 * X 8) * X 15 : Int) : Rat) = (linI m).z.a * ((detE X : Int) : Rat)
    rw [hD]
    simp only [Rat.intCast_add, Rat.intCast_mul, Rat.intCast_sub, Rat.intCast_neg, z0, h4, h9, h5, h8]
    unfold linI
    simp only [Rat.div_def]
    generalize (detM m)⁻¹ = I at *
    generalize detM m = D at *
    generalize (X 15 : Rat) = d
    clear hD h hm h0 h1 h2 h3 h4 h5 h6 h7 h8 h9 h10 h11
    grind
  · show (((X 8 * X 1 - X 9 * X 0) * X 15 : Int) : Rat) = (linI m).z.b * ((detE X : Int) : Rat)
    rw [hD]
    simp only [Rat.intCast_add, Rat.intCast_mul, Rat.intCast_sub, Rat.intCast_neg, z0, h8, h1, h9, h0]
    unfold linI
    simp only [Rat.div_def]
    generalize (detM m)⁻¹ = I at *
    generalize detM m = D at *
    generalize (X 15 : Rat) = d
    clear hD h hm h0 h1 h2 h3 h4 h5 h6 h7 h8 h9 h10 h11
    grind
  · show (((X 0 * X 5 - X 1 * X 4) * X 15 : Int) : Rat) = (linI m).z.c * ((detE X : Int) : Rat)
    rw [hD]
    simp only [Rat.intCast_add, Rat.intCast_mul, Rat.intCast_sub, Rat.intCast_neg, z0, h0, h5, h1, h4]
    unfold linI
    simp only [Rat.div_def]
    generalize (detM m)⁻¹ = I at *
    generalize detM m = D at *
    generalize (X 15 : Rat) = d
    clear hD h hm h0 h1 h2 h3 h4 h5 h6 h7 h8 h9 h10 h11
    grind
  · show ((-(0 + (X 4 * X 9 - X 5 * X 8) * X 3 + (X 8 * X 1 - X 9 * X 0) * X 7 + (X 0 * X 5 - X 1 * X 4) * X 11) : Int) : Rat) = (-(vecM (linI m) (lastM m)).z) * ((detE X : Int) : Rat)
    rw [hD]
    simp only [Rat.intCast_add, Rat.intCast_mul, Rat.intCast_sub, Rat.intCast_neg, z0, h0, h1, h3, h4, h5, h7, h8, h9, h11]
    unfold vecM vecR lastM linI
    simp only [Rat.div_def]
    generalize (detM m)⁻¹ = I at *
    generalize detM m = D at *
    generalize (X 15 : Rat) = d
    clear hD h hm h0 h1 h2 h3 h4 h5 h6 h7 h8 h9 h10 h11
    grind

/-! Points. -/
def fourF (q : Z4) : Nat → Int
  | 0 => q.a
  | 1 => q.b
  | 2 => q.c
  | _ => q.d
theorem fourF_size {q : Z4} {k : Nat} (g : Fk q k) : ∀ i, i < 4 → Zk (fourF q i) k := by
  obtain ⟨ga, gb, gc, gd⟩ := g
  intro i hi
  rcases (show i = 0 ∨ i = 1 ∨ i = 2 ∨ i = 3 by omega) with rfl | rfl | rfl | rfl <;> assumption
def ptE (X : Nat → Int) (q : Z4) : Z4 := ⟨sum4 fun k => X (0 + k) * fourF q k, sum4 fun k => X (4 + k) * fourF q k, sum4 fun k => X (8 + k) * fourF q k, sum4 fun k => X (12 + k) * fourF q k⟩
theorem Fk.ptE {X : Nat → Int} {q : Z4} {j k : Nat} (h : Xk X j) (g : Fk q k) : Fk (ptE X q) (j + k + 4) := by
  obtain ⟨ga, gb, gc, gd⟩ := g
  have g' : ∀ i, i < 4 → Zk (fourF q i) k := by
    intro i hi
    rcases (show i = 0 ∨ i = 1 ∨ i = 2 ∨ i = 3 by omega) with rfl | rfl | rfl | rfl <;> assumption
  have s : ∀ r, r < 4 → Zk (sum4 fun i => X (4 * r + i) * fourF q i) (j + k + 4) := fun r hr => Zk.sum4 fun i hi => mg_mul_size (h _ (by omega)) (g' i hi)
  exact ⟨s 0 (by decide), s 1 (by decide), s 2 (by decide), s 3 (by decide)⟩
theorem pt_rep {X : Nat → Int} {m : M3} (h : Rep X m) (p : P3) : pt (ptE X (can4 p)) = vecM m p := by
  obtain ⟨k1, k2, k3⟩ := h.2.1
  obtain ⟨ea, eb, ec⟩ := can_parts p
  have hw : (can4 p).d ≠ 0 := by have := can4_wpos p; omega
  have h0 : (X 0 : Rat) = m.x.a * (X 15 : Rat) := h.2.2 0 (by decide)
  have h1 : (X 1 : Rat) = m.x.b * (X 15 : Rat) := h.2.2 1 (by decide)
  have h2 : (X 2 : Rat) = m.x.c * (X 15 : Rat) := h.2.2 2 (by decide)
  have h3 : (X 3 : Rat) = m.x.d * (X 15 : Rat) := h.2.2 3 (by decide)
  have h4 : (X 4 : Rat) = m.y.a * (X 15 : Rat) := h.2.2 4 (by decide)
  have h5 : (X 5 : Rat) = m.y.b * (X 15 : Rat) := h.2.2 5 (by decide)
  have h6 : (X 6 : Rat) = m.y.c * (X 15 : Rat) := h.2.2 6 (by decide)
  have h7 : (X 7 : Rat) = m.y.d * (X 15 : Rat) := h.2.2 7 (by decide)
  have h8 : (X 8 : Rat) = m.z.a * (X 15 : Rat) := h.2.2 8 (by decide)
  have h9 : (X 9 : Rat) = m.z.b * (X 15 : Rat) := h.2.2 9 (by decide)
  have h10 : (X 10 : Rat) = m.z.c * (X 15 : Rat) := h.2.2 10 (by decide)
  have h11 : (X 11 : Rat) = m.z.d * (X 15 : Rat) := h.2.2 11 (by decide)
  have z0 : ((0 : Int) : Rat) = 0 := rfl
  have e15 : sum4 (fun k => X (12 + k) * fourF (can4 p) k) = X 15 * (can4 p).d := by
    show 0 + X 12 * (can4 p).a + X 13 * (can4 p).b + X 14 * (can4 p).c + X 15 * (can4 p).d = _
    rw [k1, k2, k3]
    omega
  refine pt_over (D := (X 15 : Rat) * ((can4 p).d : Rat)) ?_ ?_ ?_ ?_ ?_
  · show sum4 (fun k => X (12 + k) * fourF (can4 p) k) ≠ 0
    rw [e15]
    exact Int.mul_ne_zero h.1 hw
  · show ((sum4 (fun k => X (12 + k) * fourF (can4 p) k) : Int) : Rat) = _
    rw [e15, Rat.intCast_mul]
  · show ((0 + X 0 * (can4 p).a + X 1 * (can4 p).b + X 2 * (can4 p).c + X 3 * (can4 p).d : Int) : Rat) = _ * vecR m.x p
    simp only [Rat.intCast_add, Rat.intCast_mul, Rat.intCast_sub, Rat.intCast_neg, z0, ea, eb, ec, h0, h1, h2, h3]
    unfold vecR
    grind
  · show ((0 + X 4 * (can4 p).a + X 5 * (can4 p).b + X 6 * (can4 p).c + X 7 * (can4 p).d : Int) : Rat) = _ * vecR m.y p
    simp only [Rat.intCast_add, Rat.intCast_mul, Rat.intCast_sub, Rat.intCast_neg, z0, ea, eb, ec, h4, h5, h6, h7]
    unfold vecR
    grind
  · show ((0 + X 8 * (can4 p).a + X 9 * (can4 p).b + X 10 * (can4 p).c + X 11 * (can4 p).d : Int) : Rat) = _ * vecR m.z p
    simp only [Rat.intCast_add, Rat.intCast_mul, Rat.intCast_sub, Rat.intCast_neg, z0, ea, eb, ec, h8, h9, h10, h11]
    unfold vecR
    grind

/-! Planes. -/
def eq4 (q : Z4) : Z4 := ⟨q.a, q.b, q.c, -q.d⟩
def eqF (q : Z4) : Nat → Int := fourF (eq4 q)
def colE (X : Nat → Int) (q : Z4) (j : Nat) : Int := sum4 fun k => eqF q k * X (4 * k + j)
def plE (X : Nat → Int) (q : Z4) : Z4 := ⟨colE X q 0, colE X q 1, colE X q 2, -(colE X q 3)⟩
theorem eqF_size {q : Z4} {k : Nat} (g : Fk q k) : ∀ i, i < 4 → Zk (eqF q i) k := by
  obtain ⟨ga, gb, gc, gd⟩ := g
  intro i hi
  rcases (show i = 0 ∨ i = 1 ∨ i = 2 ∨ i = 3 by omega) with rfl | rfl | rfl | rfl
  · exact ga
  · exact gb
  · exact gc
  · exact mg_neg_size gd
theorem Zk.colE {X : Nat → Int} {q : Z4} {j k : Nat} (h : Xk X j) (g : Fk q k) {c : Nat} (hc : c < 4) : Zk (colE X q c) (j + k + 4) := (Zk.sum4 (k := k + j) fun i hi => mg_mul_size (eqF_size g i hi) (h _ (by omega))).up (by omega)
theorem Fk.plE {X : Nat → Int} {q : Z4} {j k : Nat} (h : Xk X j) (g : Fk q k) : Fk (plE X q) (j + k + 4) :=
  ⟨Zk.colE h g (by decide), Zk.colE h g (by decide), Zk.colE h g (by decide), mg_neg_size (Zk.colE h g (by decide))⟩
theorem pl_rep {X : Nat → Int} {b : M3} (h : Rep X b) (q : Z4) : toQ (plE X q) = (planeR b (toQ q)).mul (X 15 : Rat) := by
  obtain ⟨k1, k2, k3⟩ := h.2.1
  have h0 : (X 0 : Rat) = b.x.a * (X 15 : Rat) := h.2.2 0 (by decide)
  have h1 : (X 1 : Rat) = b.x.b * (X 15 : Rat) := h.2.2 1 (by decide)
  have h2 : (X 2 : Rat) = b.x.c * (X 15 : Rat) := h.2.2 2 (by decide)
  have h3 : (X 3 : Rat) = b.x.d * (X 15 : Rat) := h.2.2 3 (by decide)
  have h4 : (X 4 : Rat) = b.y.a * (X 15 : Rat) := h.2.2 4 (by decide)
  have h5 : (X 5 : Rat) = b.y.b * (X 15 : Rat) := h.2.2 5 (by decide)
  have h6 : (X 6 : Rat) = b.y.c * (X 15 : Rat) := h.2.2 6 (by decide)
  have h7 : (X 7 : Rat) = b.y.d * (X 15 : Rat) := h.2.2 7 (by decide)
  have h8 : (X 8 : Rat) = b.z.a * (X 15 : Rat) := h.2.2 8 (by decide)
  have h9 : (X 9 : Rat) = b.z.b * (X 15 : Rat) := h.2.2 9 (by decide)
  have h10 : (X 10 : Rat) = b.z.c * (X 15 : Rat) := h.2.2 10 (by decide)
  have h11 : (X 11 : Rat) = b.z.d * (X 15 : Rat) := h.2.2 11 (by decide)
  have z0 : ((0 : Int) : Rat) = 0 := rfl
  unfold planeR Q4.mul toQ
  refine Q4.ext' ?_ ?_ ?_ ?_
  · show ((0 + q.a * X 0 + q.b * X 4 + q.c * X 8 + (-q.d) * X 12 : Int) : Rat) = _
    simp only [Rat.intCast_add, Rat.intCast_mul, Rat.intCast_sub, Rat.intCast_neg, z0, h0, h4, h8, k1]
    grind
  · show ((0 + q.a * X 1 + q.b * X 5 + q.c * X 9 + (-q.d) * X 13 : Int) : Rat) = _
    simp only [Rat.intCast_add, Rat.intCast_mul, Rat.intCast_sub, Rat.intCast_neg, z0, h1, h5, h9, k2]
    grind
  · show ((0 + q.a * X 2 + q.b * X 6 + q.c * X 10 + (-q.d) * X 14 : Int) : Rat) = _
    simp only [Rat.intCast_add, Rat.intCast_mul, Rat.intCast_sub, Rat.intCast_neg, z0, h2, h6, h10, k3]
    grind
  · show ((-(0 + q.a * X 3 + q.b * X 7 + q.c * X 11 + (-q.d) * X 15) : Int) : Rat) = _
    simp only [Rat.intCast_add, Rat.intCast_mul, Rat.intCast_sub, Rat.intCast_neg, z0, h3, h7, h11]
    grind
theorem pl_flat {X : Nat → Int} {m : M3} (h : Rep X (invM m)) (hm : detM m ≠ 0) {q : Z4} (hq : ¬ flatF q) : ¬ flatF (plE X q) := by
  intro e
  have e1 := (flat_toQ _).2 e
  rw [pl_rep h] at e1
  apply planeM_flat hm hq
  have hd := cast_ne h.1
  have key : ∀ x : Rat, (X 15 : Rat) * x = 0 → x = 0 := fun x hx => (Rat.mul_eq_zero.1 hx).resolve_left hd
  exact ⟨key _ e1.1, key _ e1.2.1, key _ e1.2.2⟩
theorem pl_pos {X : Nat → Int} {m : M3} (h : Rep X (invM m)) (hd : 0 < X 15) (q : Z4) : prim (plE X q) = planeM m q := by
  refine canQ_of (k := (X 15 : Rat)) ?_ (pl_rep h q)
  exact_mod_cast hd
theorem pl_neg {X : Nat → Int} {m : M3} (h : Rep X (invM m)) (hd : X 15 < 0) (q : Z4) : negF (prim (plE X q)) = planeM m q := by
  rw [← prim_neg]
  refine canQ_of (k := -(X 15 : Rat)) ?_ ?_
  · have : (X 15 : Rat) < 0 := by exact_mod_cast hd
    grind
  · have e := pl_rep h q
    have h1 : toQ (negF (plE X q)) = (toQ (plE X q)).mul (-1) := by
      unfold toQ negF Q4.mul
      refine Q4.ext' ?_ ?_ ?_ ?_ <;> (simp only [Rat.intCast_neg]; grind)
    rw [h1, e]
    unfold Q4.mul
    refine Q4.ext' ?_ ?_ ?_ ?_ <;> (simp only []; grind)

/-! Translations, reflections. -/
def shE (q : Z4) : Nat → Int := matE (fun r c => if c = 3 then fourF q r else if r = c then q.d else 0) q.d
theorem Xk.shE {q : Z4} {k : Nat} (g : Fk q k) : Xk (shE q) k := by
  obtain ⟨ga, gb, gc, gd⟩ := g
  refine Xk.mat (fun r c hr hc => ?_) gd
  by_cases h3 : c = 3
  · rw [if_pos h3]
    rcases (show r = 0 ∨ r = 1 ∨ r = 2 by omega) with rfl | rfl | rfl <;> assumption
  · rw [if_neg h3]
    split
    · exact gd
    · exact Zk.zero.up (Nat.zero_le _)
theorem rep_sh (v : P3) : Rep (shE (can4 v)) (shiftM v) := by
  obtain ⟨ea, eb, ec⟩ := can_parts v
  have hw : (can4 v).d ≠ 0 := by have := can4_wpos v; omega
  have z0 : ((0 : Int) : Rat) = 0 := rfl
  refine ⟨hw, ⟨rfl, rfl, rfl⟩, ?_⟩
  intro i hi
  rcases twelve hi with rfl | rfl | rfl | rfl | rfl | rfl | rfl | rfl | rfl | rfl | rfl | rfl
  · show (((can4 v).d : Int) : Rat) = (1 : Rat) * ((can4 v).d : Rat)
    grind
  · show ((0 : Int) : Rat) = (0 : Rat) * ((can4 v).d : Rat)
    rw [z0]; grind
  · show ((0 : Int) : Rat) = (0 : Rat) * ((can4 v).d : Rat)
    rw [z0]; grind
  · show (((can4 v).a : Int) : Rat) = (v.x : Rat) * ((can4 v).d : Rat)
    rw [ea]; grind
  · show ((0 : Int) : Rat) = (0 : Rat) * ((can4 v).d : Rat)
    rw [z0]; grind
  · show (((can4 v).d : Int) : Rat) = (1 : Rat) * ((can4 v).d : Rat)
    grind
  · show ((0 : Int) : Rat) = (0 : Rat) * ((can4 v).d : Rat)
    rw [z0]; grind
  · show (((can4 v).b : Int) : Rat) = (v.y : Rat) * ((can4 v).d : Rat)
    rw [eb]; grind
  · show ((0 : Int) : Rat) = (0 : Rat) * ((can4 v).d : Rat)
    rw [z0]; grind
  · show ((0 : Int) : Rat) = (0 : Rat) * ((can4 v).d : Rat)
    rw [z0]; grind
  · show (((can4 v).d : Int) : Rat) = (1 : Rat) * ((can4 v).d : Rat)
    grind
  · show (((can4 v).c : Int) : Rat) = (v.z : Rat) * ((can4 v).d : Rat)
    rw [ec]; grind
def sqE (q : Z4) : Int := sum3 fun k => eqF q k * eqF q k
def mirE (q : Z4) : Nat → Int := matE (fun r c => (if r = c then sqE q else 0) - (eqF q r * eqF q c + eqF q r * eqF q c)) (sqE q)
theorem Zk.sqE {q : Z4} {k : Nat} (g : Fk q k) : Zk (sqE q) (2 * k + 3) := (Zk.sum3 (k := k + k) fun i hi => mg_mul_size (eqF_size g i (by omega)) (eqF_size g i (by omega))).up (by omega)
theorem Xk.mirE {q : Z4} {k : Nat} (g : Fk q k) : Xk (mirE q) (2 * k + 5) := by
  refine Xk.mat (fun r c hr hc => ?_) ((Zk.sqE g).up (by omega))
  have h1 : Zk (eqF q r * eqF q c) (k + k) := mg_mul_size (eqF_size g r (by omega)) (eqF_size g c (by omega))
  have h2 : Zk (if r = c then Go.Proofs.YtodcomijjmobdaaGreatDoor.sqE q else 0) (2 * k + 3) := by
    split
    · exact Zk.sqE g
    · exact Zk.zero.up (Nat.zero_le _)
  exact (Is.sub h2 (Is.add h1 h1)).up (by omega)
theorem sq_rep (q : Z4) : (sqE q : Rat) = sqF q := by
  have z0 : ((0 : Int) : Rat) = 0 := rfl
  show ((0 + q.a * q.a + q.b * q.b + q.c * q.c : Int) : Rat) = _
  simp only [Rat.intCast_add, Rat.intCast_mul, Rat.intCast_sub, Rat.intCast_neg, z0]
  rfl
theorem rep_mir {q : Z4} (hq : ¬ flatF q) : Rep (mirE q) (mirM q) := by
  have z0 : ((0 : Int) : Rat) = 0 := rfl
  have hs := sq_ne hq
  have es := sq_rep q
  have hI := Rat.mul_inv_cancel _ hs
  refine ⟨fun e => hs ?_, ⟨rfl, rfl, rfl⟩, ?_⟩
  · rw [← es]
    show ((sqE q : Int) : Rat) = 0
    rw [show sqE q = 0 from e]
    rfl
  intro i hi
  rcases twelve hi with rfl | rfl | rfl | rfl | rfl | rfl | rfl | rfl | rfl | rfl | rfl | rfl
  · show ((sqE q - (q.a * q.a + q.a * q.a) : Int) : Rat) = (1 - 2 * (q.a : Rat) / sqF q * q.a) * ((sqE q : Int) : Rat)
    simp only [Rat.intCast_add, Rat.intCast_mul, Rat.intCast_sub, Rat.intCast_neg, z0, es, Rat.div_def]
    generalize (sqF q)⁻¹ = I at *
    generalize sqF q = S at *
    clear es hs hq
    grind
  · show ((0 - (q.a * q.b + q.a * q.b) : Int) : Rat) = (0 - 2 * (q.a : Rat) / sqF q * q.b) * ((sqE q : Int) : Rat)
    simp only [Rat.intCast_add, Rat.intCast_mul, Rat.intCast_sub, Rat.intCast_neg, z0, es, Rat.div_def]
    generalize (sqF q)⁻¹ = I at *
    generalize sqF q = S at *
    clear es hs hq
    grind
  · show ((0 - (q.a * q.c + q.a * q.c) : Int) : Rat) = (0 - 2 * (q.a : Rat) / sqF q * q.c) * ((sqE q : Int) : Rat)
    simp only [Rat.intCast_add, Rat.intCast_mul, Rat.intCast_sub, Rat.intCast_neg, z0, es, Rat.div_def]
    generalize (sqF q)⁻¹ = I at *
    generalize sqF q = S at *
    clear es hs hq
    grind
  · show ((0 - (q.a * (-q.d) + q.a * (-q.d)) : Int) : Rat) = (2 * (q.a : Rat) / sqF q * q.d) * ((sqE q : Int) : Rat)
    simp only [Rat.intCast_add, Rat.intCast_mul, Rat.intCast_sub, Rat.intCast_neg, z0, es, Rat.div_def]
    generalize (sqF q)⁻¹ = I at *
    generalize sqF q = S at *
    clear es hs hq
    grind
  · show ((0 - (q.b * q.a + q.b * q.a) : Int) : Rat) = (0 - 2 * (q.b : Rat) / sqF q * q.a) * ((sqE q : Int) : Rat)
    simp only [Rat.intCast_add, Rat.intCast_mul, Rat.intCast_sub, Rat.intCast_neg, z0, es, Rat.div_def]
    generalize (sqF q)⁻¹ = I at *
    generalize sqF q = S at *
    clear es hs hq
    grind
  · show ((sqE q - (q.b * q.b + q.b * q.b) : Int) : Rat) = (1 - 2 * (q.b : Rat) / sqF q * q.b) * ((sqE q : Int) : Rat)
    simp only [Rat.intCast_add, Rat.intCast_mul, Rat.intCast_sub, Rat.intCast_neg, z0, es, Rat.div_def]
    generalize (sqF q)⁻¹ = I at *
    generalize sqF q = S at *
    clear es hs hq
    grind
  · show ((0 - (q.b * q.c + q.b * q.c) : Int) : Rat) = (0 - 2 * (q.b : Rat) / sqF q * q.c) * ((sqE q : Int) : Rat)
    simp only [Rat.intCast_add, Rat.intCast_mul, Rat.intCast_sub, Rat.intCast_neg, z0, es, Rat.div_def]
    generalize (sqF q)⁻¹ = I at *
    generalize sqF q = S at *
    clear es hs hq
    grind
  · show ((0 - (q.b * (-q.d) + q.b * (-q.d)) : Int) : Rat) = (2 * (q.b : Rat) / sqF q * q.d) * ((sqE q : Int) : Rat)
    simp only [Rat.intCast_add, Rat.intCast_mul, Rat.intCast_sub, Rat.intCast_neg, z0, es, Rat.div_def]
    generalize (sqF q)⁻¹ = I at *
    generalize sqF q = S at *
    clear es hs hq
    grind
  · show ((0 - (q.c * q.a + q.c * q.a) : Int) : Rat) = (0 - 2 * (q.c : Rat) / sqF q * q.a) * ((sqE q : Int) : Rat)
    simp only [Rat.intCast_add, Rat.intCast_mul, Rat.intCast_sub, Rat.intCast_neg, z0, es, Rat.div_def]
    generalize (sqF q)⁻¹ = I at *
    generalize sqF q = S at *
    clear es hs hq
    grind
  · show ((0 - (q.c * q.b + q.c * q.b) : Int) : Rat) = (0 - 2 * (q.c : Rat) / sqF q * q.b) * ((sqE q : Int) : Rat)
    simp only [Rat.intCast_add, Rat.intCast_mul, Rat.intCast_sub, Rat.intCast_neg, z0, es, Rat.div_def]
    generalize (sqF q)⁻¹ = I at *
    generalize sqF q = S at *
    clear es hs hq
    grind
  · show ((sqE q - (q.c * q.c + q.c * q.c) : Int) : Rat) = (1 - 2 * (q.c : Rat) / sqF q * q.c) * ((sqE q : Int) : Rat)
    simp only [Rat.intCast_add, Rat.intCast_mul, Rat.intCast_sub, Rat.intCast_neg, z0, es, Rat.div_def]
    generalize (sqF q)⁻¹ = I at *
    generalize sqF q = S at *
    clear es hs hq
    grind
  · show ((0 - (q.c * (-q.d) + q.c * (-q.d)) : Int) : Rat) = (2 * (q.c : Rat) / sqF q * q.d) * ((sqE q : Int) : Rat)
    simp only [Rat.intCast_add, Rat.intCast_mul, Rat.intCast_sub, Rat.intCast_neg, z0, es, Rat.div_def]
    generalize (sqF q)⁻¹ = I at *
    generalize sqF q = S at *
    clear es hs hq
    grind

/-! Rotations. -/
def sinT : Nat → Int
  | 1 => 1
  | 3 => -1
  | _ => 0
def rotF (a : Nat) (sn cs : Int) (r c : Nat) : Int := if r = (a + 1) % 3 ∧ c = (a + 2) % 3 then -sn else if r = (a + 2) % 3 ∧ c = (a + 1) % 3 then sn else if r = a then (if r = c then 1 else 0) else (if r = c then cs else 0)
def rotE (a t : Nat) : Nat → Int := matE (rotF a (sinT t) (sinT ((t + 1) % 4))) 1
theorem Xk.rotE {a t : Nat} (ha : a < 3) (ht : t < 4) : Xk (rotE a t) 1 := by
  rcases three ha with rfl | rfl | rfl <;> rcases four ht with rfl | rfl | rfl | rfl <;> decide +kernel
end Go.Proofs.YtodcomijjmobdaaGreatDoor
