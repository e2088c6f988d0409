/- Four integers without a common divisor; points: the coordinates that four integers stand for, the canonical four. -/
import Derived.Test.YtodcomijjmobdaaGreatDoorIs
set_option linter.unusedVariables false
set_option linter.unusedSimpArgs false
namespace Go.Proofs.YtodcomijjmobdaaGreatDoor
open Go.RowKit NM SX

/-! Four integers by their greatest common divisor. -/
/-- The greatest common divisor of four integers. -/
def g4 (a b c d : Int) : Nat := Nat.gcd (Nat.gcd (Nat.gcd a.natAbs b.natAbs) c.natAbs) d.natAbs
theorem g4_mul (k : Nat) (a b c d : Int) : g4 (k * a) (k * b) (k * c) (k * d) = k * g4 a b c d := by
  unfold g4
  simp only [Int.natAbs_mul, Int.natAbs_natCast, Nat.gcd_mul_left]
theorem g4_neg (a b c d : Int) : g4 (-a) (-b) (-c) (-d) = g4 a b c d := by simp [g4]
theorem g4_zero {a b c d : Int} : g4 a b c d = 0 ↔ a = 0 ∧ b = 0 ∧ c = 0 ∧ d = 0 := by
  unfold g4
  simp only [Nat.gcd_eq_zero_iff, Int.natAbs_eq_zero]
  constructor
  · rintro ⟨⟨⟨h1, h2⟩, h3⟩, h4⟩; exact ⟨h1, h2, h3, h4⟩
  · rintro ⟨h1, h2, h3, h4⟩; exact ⟨⟨⟨h1, h2⟩, h3⟩, h4⟩
theorem g4_dvd (a b c d : Int) : (g4 a b c d : Int) ∣ a ∧ (g4 a b c d : Int) ∣ b ∧ (g4 a b c d : Int) ∣ c ∧ (g4 a b c d : Int) ∣ d := by
  unfold g4
  refine ⟨Int.ofNat_dvd_left.2 ?_, Int.ofNat_dvd_left.2 ?_, Int.ofNat_dvd_left.2 ?_, Int.ofNat_dvd_left.2 ?_⟩
  · exact Nat.dvd_trans (Nat.gcd_dvd_left _ _) (Nat.dvd_trans (Nat.gcd_dvd_left _ _) (Nat.gcd_dvd_left _ _))
  · exact Nat.dvd_trans (Nat.gcd_dvd_left _ _) (Nat.dvd_trans (Nat.gcd_dvd_left _ _) (Nat.gcd_dvd_right _ _))
  · exact Nat.dvd_trans (Nat.gcd_dvd_left _ _) (Nat.gcd_dvd_right _ _)
  · exact Nat.gcd_dvd_right _ _
/-- Four integers, each over their greatest common divisor. -/
structure Z4 where
  (a b c d : Int)
theorem Z4.ext' {x y : Z4} (h1 : x.a = y.a) (h2 : x.b = y.b) (h3 : x.c = y.c) (h4 : x.d = y.d) : x = y := by
  cases x; cases y; cases h1; cases h2; cases h3; cases h4; rfl
def prim (q : Z4) : Z4 := ⟨q.a / g4 q.a q.b q.c q.d, q.b / g4 q.a q.b q.c q.d, q.c / g4 q.a q.b q.c q.d, q.d / g4 q.a q.b q.c q.d⟩
def Z4.mul (k : Int) (q : Z4) : Z4 := ⟨k * q.a, k * q.b, k * q.c, k * q.d⟩
theorem prim_mul {k : Nat} (hk : k ≠ 0) (q : Z4) : prim (q.mul k) = prim q := by
  have e := g4_mul k q.a q.b q.c q.d
  have h : ∀ x : Int, (k : Int) * x / ((k * g4 q.a q.b q.c q.d : Nat) : Int) = x / (g4 q.a q.b q.c q.d : Int) := by
    intro x
    rw [Int.natCast_mul, Int.mul_ediv_mul_of_pos _ _ (by omega)]
  refine Z4.ext' ?_ ?_ ?_ ?_ <;> (show (k : Int) * _ / (g4 (k * q.a) (k * q.b) (k * q.c) (k * q.d) : Int) = _; rw [e, h]; rfl)
theorem prim_abs (q : Z4) : (prim q).a.natAbs ≤ q.a.natAbs ∧ (prim q).b.natAbs ≤ q.b.natAbs ∧ (prim q).c.natAbs ≤ q.c.natAbs ∧ (prim q).d.natAbs ≤ q.d.natAbs := by
  obtain ⟨h1, h2, h3, h4⟩ := g4_dvd q.a q.b q.c q.d
  refine ⟨?_, ?_, ?_, ?_⟩
  · show (q.a / (g4 q.a q.b q.c q.d : Int)).natAbs ≤ _
    rw [Int.natAbs_ediv_of_dvd h1]; exact Nat.div_le_self _ _
  · show (q.b / (g4 q.a q.b q.c q.d : Int)).natAbs ≤ _
    rw [Int.natAbs_ediv_of_dvd h2]; exact Nat.div_le_self _ _
  · show (q.c / (g4 q.a q.b q.c q.d : Int)).natAbs ≤ _
    rw [Int.natAbs_ediv_of_dvd h3]; exact Nat.div_le_self _ _
  · show (q.d / (g4 q.a q.b q.c q.d : Int)).natAbs ≤ _
    rw [Int.natAbs_ediv_of_dvd h4]; exact Nat.div_le_self _ _
/-- Two fours that are proportional have one primitive four. -/
theorem prim_prop {p q : Z4} {j k : Nat} (hj : j ≠ 0) (hk : k ≠ 0) (h : p.mul j = q.mul k) : prim p = prim q := by rw [← prim_mul hj, h, prim_mul hk]
theorem prim_back {q : Z4} (h : g4 q.a q.b q.c q.d ≠ 0) : (prim q).mul (g4 q.a q.b q.c q.d) = q := by
  obtain ⟨h1, h2, h3, h4⟩ := g4_dvd q.a q.b q.c q.d
  exact Z4.ext' (Int.mul_ediv_cancel' h1) (Int.mul_ediv_cancel' h2) (Int.mul_ediv_cancel' h3) (Int.mul_ediv_cancel' h4)
theorem prim_prim {q : Z4} (h : g4 q.a q.b q.c q.d ≠ 0) : prim (prim q) = prim q := by
  have e := prim_back h
  have := prim_mul h (prim q)
  rw [e] at this
  exact this.symm

/-! Points. -/
structure P3 where
  (x y z : Rat)
theorem P3.ext' {p q : P3} (h1 : p.x = q.x) (h2 : p.y = q.y) (h3 : p.z = q.z) : p = q := by
  cases p; cases q; cases h1; cases h2; cases h3; rfl
instance : DecidableEq P3 := fun p q => if h : p.x = q.x ∧ p.y = q.y ∧ p.z = q.z then isTrue (P3.ext' h.1 h.2.1 h.2.2) else isFalse fun e => h (by rw [e]; exact ⟨rfl, rfl, rfl⟩)
/-- The fourth number, 1 in place of 0. -/
def w1 (d : Int) : Int := if d = 0 then 1 else d
theorem w1_ne (d : Int) : w1 d ≠ 0 := by unfold w1; split <;> omega
theorem w1_pos {d : Int} (h : d ≠ 0) : w1 d = d := if_neg h
/-- The point of four integers. -/
def pt (q : Z4) : P3 := ⟨Rat.divInt q.a (w1 q.d), Rat.divInt q.b (w1 q.d), Rat.divInt q.c (w1 q.d)⟩
/-- Four integers that stand for a point, over the product of the denominators. -/
def hom (p : P3) : Z4 := ⟨p.x.num * ((p.y.den : Int) * p.z.den), p.y.num * ((p.x.den : Int) * p.z.den), p.z.num * ((p.x.den : Int) * p.y.den), (p.x.den : Int) * p.y.den * p.z.den⟩
/-- The canonical four of a point. -/
def can4 (p : P3) : Z4 := prim (hom p)
theorem hom_pos (p : P3) : 0 < (hom p).d := by
  have h1 : 0 < (p.x.den : Int) := by have := p.x.den_pos; omega
  have h2 : 0 < (p.y.den : Int) := by have := p.y.den_pos; omega
  have h3 : 0 < (p.z.den : Int) := by have := p.z.den_pos; omega
  exact Int.mul_pos (Int.mul_pos h1 h2) h3
theorem divInt_cross {a b c d : Int} (hb : b ≠ 0) (hd : d ≠ 0) : Rat.divInt a b = Rat.divInt c d ↔ a * d = c * b := Rat.divInt_eq_divInt_iff hb hd
/-- The canonical four of the point of four integers, the last of them positive. -/
theorem can4_pos {q : Z4} (h : 0 < q.d) : can4 (pt q) = prim q := by
  have hw : w1 q.d = q.d := w1_pos (by omega)
  obtain ⟨k, hk⟩ := Int.eq_ofNat_of_zero_le (Int.le_of_lt h)
  obtain ⟨j, hj⟩ := Int.eq_ofNat_of_zero_le (Int.le_of_lt (hom_pos (pt q)))
  have hjp := hom_pos (pt q)
  refine prim_prop (j := k) (k := j) (by omega) (by omega) ?_
  have key : ∀ (a : Int) (r : Rat), r = Rat.divInt a q.d → r.num * q.d = a * r.den := by
    intro a r e
    have h1 : Rat.divInt r.num r.den = Rat.divInt a q.d := by rw [Rat.num_divInt_den]; exact e
    exact (divInt_cross (by have := r.den_pos; omega) (by omega)).1 h1
  have kx := key q.a (pt q).x (by show Rat.divInt q.a (w1 q.d) = _; rw [hw])
  have ky := key q.b (pt q).y (by show Rat.divInt q.b (w1 q.d) = _; rw [hw])
  have kz := key q.c (pt q).z (by show Rat.divInt q.c (w1 q.d) = _; rw [hw])
  have hd : (hom (pt q)).d = ((pt q).x.den : Int) * (pt q).y.den * (pt q).z.den := rfl
  rw [← hk, ← hj, hd]
  refine Z4.ext' ?_ ?_ ?_ ?_
  · show q.d * ((pt q).x.num * (((pt q).y.den : Int) * (pt q).z.den)) = ((pt q).x.den : Int) * (pt q).y.den * (pt q).z.den * q.a
    rw [← Int.mul_assoc, Int.mul_comm q.d, kx]
    simp only [Int.mul_assoc, Int.mul_comm, Int.mul_left_comm]
  · show q.d * ((pt q).y.num * (((pt q).x.den : Int) * (pt q).z.den)) = ((pt q).x.den : Int) * (pt q).y.den * (pt q).z.den * q.b
    rw [← Int.mul_assoc, Int.mul_comm q.d, ky]
    simp only [Int.mul_assoc, Int.mul_comm, Int.mul_left_comm]
  · show q.d * ((pt q).z.num * (((pt q).x.den : Int) * (pt q).y.den)) = ((pt q).x.den : Int) * (pt q).y.den * (pt q).z.den * q.c
    rw [← Int.mul_assoc, Int.mul_comm q.d, kz]
    simp only [Int.mul_assoc, Int.mul_comm, Int.mul_left_comm]
  · show q.d * (((pt q).x.den : Int) * (pt q).y.den * (pt q).z.den) = ((pt q).x.den : Int) * (pt q).y.den * (pt q).z.den * q.d
    exact Int.mul_comm _ _
/-- The four with a positive last one. -/
def turn (q : Z4) : Z4 := if w1 q.d < 0 then ⟨-q.a, -q.b, -q.c, -q.d⟩ else ⟨q.a, q.b, q.c, w1 q.d⟩
theorem turn_pos (q : Z4) : 0 < (turn q).d := by
  unfold turn
  have := w1_ne q.d
  split
  · rename_i h
    show 0 < -q.d
    unfold w1 at h
    split at h <;> omega
  · show 0 < w1 q.d
    omega
theorem pt_turn (q : Z4) : pt (turn q) = pt q := by
  have h1 := turn_pos q
  have h0 : w1 (turn q).d = (turn q).d := w1_pos (by omega)
  unfold turn at *
  split
  · rename_i h
    rw [if_pos h] at h0
    have h2 : w1 q.d = q.d := by unfold w1 at h ⊢; split <;> simp_all
    have h3 : w1 (-q.d) = -q.d := h0
    unfold pt
    simp only [h2, h3]
    refine P3.ext' ?_ ?_ ?_ <;> exact Rat.neg_divInt_neg _ _
  · have h3 : w1 (w1 q.d) = w1 q.d := w1_pos (w1_ne _)
    unfold pt
    simp only [h3]
theorem can4_pt (q : Z4) : can4 (pt q) = prim (turn q) := by rw [← pt_turn, can4_pos (turn_pos q)]
theorem pt_hom (p : P3) : pt (hom p) = p := by
  have hw : w1 (hom p).d = (hom p).d := w1_pos (by have := hom_pos p; omega)
  have h0 := hom_pos p
  unfold pt
  rw [hw]
  have key : ∀ (r : Rat) (n : Int), n * r.den = r.num * (hom p).d → Rat.divInt n (hom p).d = r := by
    intro r n e
    rw [← Rat.num_divInt_den r]
    exact (divInt_cross (by omega) (by have := r.den_pos; omega)).2 e
  refine P3.ext' (key p.x _ ?_) (key p.y _ ?_) (key p.z _ ?_)
  · show p.x.num * ((p.y.den : Int) * p.z.den) * (p.x.den : Int) = p.x.num * ((p.x.den : Int) * p.y.den * p.z.den)
    simp only [Int.mul_assoc, Int.mul_comm, Int.mul_left_comm]
  · show p.y.num * ((p.x.den : Int) * p.z.den) * (p.y.den : Int) = p.y.num * ((p.x.den : Int) * p.y.den * p.z.den)
    simp only [Int.mul_assoc, Int.mul_comm, Int.mul_left_comm]
  · show p.z.num * ((p.x.den : Int) * p.y.den) * (p.z.den : Int) = p.z.num * ((p.x.den : Int) * p.y.den * p.z.den)
    simp only [Int.mul_assoc, Int.mul_comm, Int.mul_left_comm]
theorem can4_gcd (p : P3) : g4 (hom p).a (hom p).b (hom p).c (hom p).d ≠ 0 := fun h => by
  have := (g4_zero.1 h).2.2.2
  have := hom_pos p
  omega
theorem can4_wpos (p : P3) : 0 < (can4 p).d := by
  have h1 := congrArg Z4.d (prim_back (can4_gcd p))
  have h2 := hom_pos p
  have h3 : (g4 (hom p).a (hom p).b (hom p).c (hom p).d : Int) * (can4 p).d = (hom p).d := h1
  rcases Int.lt_trichotomy (can4 p).d 0 with h | h | h
  · have := Int.mul_neg_of_pos_of_neg (show (0 : Int) < (g4 (hom p).a (hom p).b (hom p).c (hom p).d : Int) by have := can4_gcd p; omega) h
    omega
  · rw [h] at h3; omega
  · exact h
theorem pt_mul {k : Nat} (hk : k ≠ 0) {q : Z4} (h : 0 < q.d) : pt (q.mul k) = pt q := by
  have h1 : w1 q.d = q.d := w1_pos (by omega)
  have h2 : w1 (q.mul k).d = (k : Int) * q.d := w1_pos (by show (k : Int) * q.d ≠ 0; exact Int.mul_ne_zero (by omega) (by omega))
  unfold pt
  rw [h1, h2]
  have key : ∀ a : Int, Rat.divInt ((k : Int) * a) ((k : Int) * q.d) = Rat.divInt a q.d := fun a => Rat.divInt_mul_left (by omega)
  exact P3.ext' (key _) (key _) (key _)
/-- The canonical four stands for the point. -/
theorem pt_can4 (p : P3) : pt (can4 p) = p := by
  have h := pt_mul (can4_gcd p) (can4_wpos p)
  unfold can4 at *
  rw [prim_back (can4_gcd p), pt_hom] at h
  exact h.symm
theorem can4_inj {p q : P3} (h : can4 p = can4 q) : p = q := by rw [← pt_can4 p, h, pt_can4]

/-! Values of points, of vectors, of four integers. -/
abbrev FV (q : Z4) : Value := .agg #[.bool (sg q.a), .string (mg q.a), .bool (sg q.b), .string (mg q.b), .bool (sg q.c), .string (mg q.c), .bool (sg q.d), .string (mg q.d)]
abbrev PV (p : P3) : Value := FV (can4 p)
abbrev VV (p : P3) : Value := .agg #[.bool (sg p.x.num), .string (mg p.x.num), .string (dm p.x.den), .bool (sg p.y.num), .string (mg p.y.num), .string (dm p.y.den), .bool (sg p.z.num), .string (mg p.z.num), .string (dm p.z.den)]
@[reducible] def fc (q : Z4) : List Value := [.bool (sg q.a), .string (mg q.a), .bool (sg q.b), .string (mg q.b), .bool (sg q.c), .string (mg q.c), .bool (sg q.d), .string (mg q.d)]
@[reducible] def pc (p : P3) : List Value := fc (can4 p)
@[reducible] def vc (p : P3) : List Value := [.bool (sg p.x.num), .string (mg p.x.num), .string (dm p.x.den), .bool (sg p.y.num), .string (mg p.y.num), .string (dm p.y.den), .bool (sg p.z.num), .string (mg p.z.num), .string (dm p.z.den)]
abbrev Vk (p : P3) (k : Nat) : Prop := Rk p.x k ∧ Rk p.y k ∧ Rk p.z k
abbrev Fk (q : Z4) (k : Nat) : Prop := Zk q.a k ∧ Zk q.b k ∧ Zk q.c k ∧ Zk q.d k
abbrev Pk (p : P3) (k : Nat) : Prop := Fk (can4 p) k
def IsV (v : Value) (p : P3) (k : Nat) : Prop := ∃ a0 a1 a2 a3 a4 a5 a6 a7 a8, v = .agg #[.bool a0, .string a1, .string a2, .bool a3, .string a4, .string a5, .bool a6, .string a7, .string a8] ∧
  rq a0 a1 a2 = p.x ∧ a1.size ≤ k ∧ a2.size ≤ k ∧ rq a3 a4 a5 = p.y ∧ a4.size ≤ k ∧ a5.size ≤ k ∧ rq a6 a7 a8 = p.z ∧ a7.size ≤ k ∧ a8.size ≤ k
def IsF (v : Value) (q : Z4) (k : Nat) : Prop := ∃ a0 a1 a2 a3 a4 a5 a6 a7, v = .agg #[.bool a0, .string a1, .bool a2, .string a3, .bool a4, .string a5, .bool a6, .string a7] ∧
  iv a0 a1 = q.a ∧ a1.size ≤ k ∧ iv a2 a3 = q.b ∧ a3.size ≤ k ∧ iv a4 a5 = q.c ∧ a5.size ≤ k ∧ iv a6 a7 = q.d ∧ a7.size ≤ k
def IsP (v : Value) (p : P3) (k : Nat) : Prop := ∃ q, IsF v q k ∧ pt q = p
theorem Vk.up {p : P3} {j k : Nat} (h : Vk p j) (hk : j ≤ k) : Vk p k := ⟨h.1.up hk, h.2.1.up hk, h.2.2.up hk⟩
theorem Fk.up {q : Z4} {j k : Nat} (h : Fk q j) (hk : j ≤ k) : Fk q k := ⟨Nat.le_trans h.1 hk, Nat.le_trans h.2.1 hk, Nat.le_trans h.2.2.1 hk, Nat.le_trans h.2.2.2 hk⟩
theorem Pk.up {p : P3} {j k : Nat} (h : Pk p j) (hk : j ≤ k) : Pk p k := Fk.up h hk
theorem Vk.mk {x y z : Rat} {i j k : Nat} (hx : Rk x i) (hy : Rk y j) (hz : Rk z k) : Vk ⟨x, y, z⟩ (max (max i j) k) := ⟨hx.up (by omega), hy.up (by omega), hz.up (by omega)⟩
theorem Fk.mk {x y z u : Int} {i j k l : Nat} (hx : Zk x i) (hy : Zk y j) (hz : Zk z k) (hu : Zk u l) : Fk ⟨x, y, z, u⟩ (max (max (max i j) k) l) := ⟨Nat.le_trans hx (by omega), Nat.le_trans hy (by omega), Nat.le_trans hz (by omega), Nat.le_trans hu (by omega)⟩
theorem mg_abs_le {x y : Int} {k : Nat} (h : x.natAbs ≤ y.natAbs) (hy : Zk y k) : Zk x k := mg_size_le (Nat.lt_of_le_of_lt h (mg_lt hy))
theorem Fk.prim {q : Z4} {k : Nat} (h : Fk q k) : Fk (prim q) k := by
  obtain ⟨h1, h2, h3, h4⟩ := prim_abs q
  exact ⟨mg_abs_le h1 h.1, mg_abs_le h2 h.2.1, mg_abs_le h3 h.2.2.1, mg_abs_le h4 h.2.2.2⟩
theorem Zk.w1 {d : Int} {k : Nat} (h : Zk d k) (hk : 1 ≤ k) : Zk (w1 d) k := by
  unfold Go.Proofs.YtodcomijjmobdaaGreatDoor.w1
  split
  · exact Nat.le_trans (show (mg 1).size ≤ 1 by decide) hk
  · exact h
theorem Fk.turn {q : Z4} {k : Nat} (h : Fk q k) (hk : 1 ≤ k) : Fk (turn q) k := by
  unfold Go.Proofs.YtodcomijjmobdaaGreatDoor.turn
  split
  · exact ⟨mg_neg_size h.1, mg_neg_size h.2.1, mg_neg_size h.2.2.1, mg_neg_size h.2.2.2⟩
  · exact ⟨h.1, h.2.1, h.2.2.1, Zk.w1 h.2.2.2 hk⟩
theorem Pk.pt {q : Z4} {k : Nat} (h : Fk q k) (hk : 1 ≤ k) : Pk (pt q) k := by
  unfold Pk
  rw [can4_pt]
  exact (h.turn hk).prim
theorem Vk.ofP {p : P3} {k : Nat} (h : Pk p k) (hk : 1 ≤ k) : Vk p k := by
  have e := pt_can4 p
  have h1 : w1 (can4 p).d = (can4 p).d := w1_pos (by have := can4_wpos p; omega)
  rw [← e]
  unfold Go.Proofs.YtodcomijjmobdaaGreatDoor.pt
  rw [h1]
  exact ⟨Rk.divInt h.1 h.2.2.2 hk, Rk.divInt h.2.1 h.2.2.2 hk, Rk.divInt h.2.2.1 h.2.2.2 hk⟩
theorem Pk.ofV {p : P3} {k : Nat} (h : Vk p k) : Pk p (k + (k + k)) := by
  refine Fk.prim ⟨?_, ?_, ?_, ?_⟩
  · exact mg_mul_size h.1.1 (mg_mul_size (mg_den h.2.1) (mg_den h.2.2))
  · exact mg_mul_size h.2.1.1 (mg_mul_size (mg_den h.1) (mg_den h.2.2))
  · exact mg_mul_size h.2.2.1 (mg_mul_size (mg_den h.1) (mg_den h.2.1))
  · have := mg_mul_size (mg_mul_size (mg_den h.1) (mg_den h.2.1)) (mg_den h.2.2)
    exact Nat.le_trans this (by omega)
theorem IsV.can {p : P3} {k : Nat} (h : Vk p k) : IsV (VV p) p k := ⟨_, _, _, _, _, _, _, _, _, rfl, rq_QV _, h.1.1, h.1.dm, rq_QV _, h.2.1.1, h.2.1.dm, rq_QV _, h.2.2.1, h.2.2.dm⟩
theorem IsF.can {q : Z4} {k : Nat} (h : Fk q k) : IsF (FV q) q k := ⟨_, _, _, _, _, _, _, _, rfl, iv_Z _, h.1, iv_Z _, h.2.1, iv_Z _, h.2.2.1, iv_Z _, h.2.2.2⟩
theorem IsP.can {p : P3} {k : Nat} (h : Pk p k) : IsP (PV p) p k := ⟨_, IsF.can h, pt_can4 p⟩
theorem IsF.pt {v : Value} {q : Z4} {k : Nat} (h : IsF v q k) : IsP v (pt q) k := ⟨q, h, rfl⟩
theorem IsV.sz {v : Value} {p : P3} {k : Nat} (h : IsV v p k) (hk : 1 ≤ k) : Vk p k := by
  obtain ⟨a0, a1, a2, a3, a4, a5, a6, a7, a8, _, h1, h2, h3, h4, h5, h6, h7, h8, h9⟩ := h
  rw [Vk, ← h1, ← h4, ← h7]
  exact ⟨Rk.rq h2 h3 hk, Rk.rq h5 h6 hk, Rk.rq h8 h9 hk⟩
theorem IsF.sz {v : Value} {q : Z4} {k : Nat} (h : IsF v q k) : Fk q k := by
  obtain ⟨a0, a1, a2, a3, a4, a5, a6, a7, _, h1, h2, h3, h4, h5, h6, h7, h8⟩ := h
  rw [Fk, ← h1, ← h3, ← h5, ← h7]
  exact ⟨mg_iv_size h2, mg_iv_size h4, mg_iv_size h6, mg_iv_size h8⟩
theorem IsP.sz {v : Value} {p : P3} {k : Nat} (h : IsP v p k) (hk : 1 ≤ k) : Pk p k := by
  obtain ⟨q, h, rfl⟩ := h
  exact Pk.pt h.sz hk
theorem IsV.up {v : Value} {p : P3} {j k : Nat} (h : IsV v p j) (hk : j ≤ k) : IsV v p k := by
  obtain ⟨a0, a1, a2, a3, a4, a5, a6, a7, a8, e, h1, h2, h3, h4, h5, h6, h7, h8, h9⟩ := h
  exact ⟨a0, a1, a2, a3, a4, a5, a6, a7, a8, e, h1, Nat.le_trans h2 hk, Nat.le_trans h3 hk, h4, Nat.le_trans h5 hk, Nat.le_trans h6 hk, h7, Nat.le_trans h8 hk, Nat.le_trans h9 hk⟩
theorem IsF.up {v : Value} {q : Z4} {j k : Nat} (h : IsF v q j) (hk : j ≤ k) : IsF v q k := by
  obtain ⟨a0, a1, a2, a3, a4, a5, a6, a7, e, h1, h2, h3, h4, h5, h6, h7, h8⟩ := h
  exact ⟨a0, a1, a2, a3, a4, a5, a6, a7, e, h1, Nat.le_trans h2 hk, h3, Nat.le_trans h4 hk, h5, Nat.le_trans h6 hk, h7, Nat.le_trans h8 hk⟩
theorem IsP.up {v : Value} {p : P3} {j k : Nat} (h : IsP v p j) (hk : j ≤ k) : IsP v p k := by
  obtain ⟨q, h, e⟩ := h
  exact ⟨q, h.up hk, e⟩
theorem IsQ.in {n : Bool} {s t : ByteArray} {q : Rat} {k : Nat} (h : IsQ (Q3 n s t) q k) : rq n s t = q ∧ s.size ≤ k ∧ t.size ≤ k := by
  obtain ⟨n', s', t', e, h1, h2, h3⟩ := h
  simp only [Value.agg.injEq, Array.mk.injEq, List.cons.injEq, Value.bool.injEq, Value.string.injEq, and_true] at e
  obtain ⟨rfl, rfl, rfl⟩ := e
  exact ⟨h1, h2, h3⟩
theorem IsZ.in {n : Bool} {s : ByteArray} {z : Int} {k : Nat} (h : IsZ (I2 n s) z k) : iv n s = z ∧ s.size ≤ k := by
  obtain ⟨n', s', e, h1, h2⟩ := h
  simp only [Value.agg.injEq, Array.mk.injEq, List.cons.injEq, Value.bool.injEq, Value.string.injEq, and_true] at e
  obtain ⟨rfl, rfl⟩ := e
  exact ⟨h1, h2⟩
theorem IsV.mk {a0 a3 a6 : Bool} {a1 a2 a4 a5 a7 a8 : ByteArray} {x y z : Rat} {i j k : Nat} (hx : IsQ (Q3 a0 a1 a2) x i) (hy : IsQ (Q3 a3 a4 a5) y j) (hz : IsQ (Q3 a6 a7 a8) z k) :
    IsV (.agg #[.bool a0, .string a1, .string a2, .bool a3, .string a4, .string a5, .bool a6, .string a7, .string a8]) ⟨x, y, z⟩ (max (max i j) k) := by
  have h1 := hx.in
  have h2 := hy.in
  have h3 := hz.in
  exact ⟨_, _, _, _, _, _, _, _, _, rfl, h1.1, by omega, by omega, h2.1, by omega, by omega, h3.1, by omega, by omega⟩
theorem IsF.mk {a0 a2 a4 a6 : Bool} {a1 a3 a5 a7 : ByteArray} {x y z u : Int} {i j k l : Nat} (hx : IsZ (I2 a0 a1) x i) (hy : IsZ (I2 a2 a3) y j) (hz : IsZ (I2 a4 a5) z k) (hu : IsZ (I2 a6 a7) u l) :
    IsF (.agg #[.bool a0, .string a1, .bool a2, .string a3, .bool a4, .string a5, .bool a6, .string a7]) ⟨x, y, z, u⟩ (max (max (max i j) k) l) := by
  have h1 := hx.in
  have h2 := hy.in
  have h3 := hz.in
  have h4 := hu.in
  exact ⟨_, _, _, _, _, _, _, _, rfl, h1.1, by omega, h2.1, by omega, h3.1, by omega, h4.1, by omega⟩
instance : DecidableEq Z4 := fun p q => if h : p.a = q.a ∧ p.b = q.b ∧ p.c = q.c ∧ p.d = q.d then isTrue (Z4.ext' h.1 h.2.1 h.2.2.1 h.2.2.2) else isFalse fun e => h (by rw [e]; exact ⟨rfl, rfl, rfl, rfl⟩)
theorem eqL_F (p q : Z4) : eqL (fc p) (fc q) = decide (p = q) := by
  have h : eqL (fc p) (fc q) = (eqL (zc p.a) (zc q.a) && (eqL (zc p.b) (zc q.b) && (eqL (zc p.c) (zc q.c) && eqL (zc p.d) (zc q.d)))) := by simp [eqL, Bool.and_assoc]
  rw [h, eqL_Z, eqL_Z, eqL_Z, eqL_Z, Bool.eq_iff_iff]
  simp only [Bool.and_eq_true, decide_eq_true_eq]
  exact ⟨fun e => Z4.ext' e.1 e.2.1 e.2.2.1 e.2.2.2, fun e => by rw [e]; exact ⟨rfl, rfl, rfl, rfl⟩⟩
theorem eqL_P (p q : P3) : eqL (pc p) (pc q) = decide (p = q) := by
  rw [eqL_F]
  exact decide_eq_decide.2 ⟨can4_inj, fun e => by rw [e]⟩

/-! Order, translation, interpolation. -/
def cmpP (p q : P3) : Int := if cmpQ p.x q.x ≠ 0 then cmpQ p.x q.x else if cmpQ p.y q.y ≠ 0 then cmpQ p.y q.y else cmpQ p.z q.z
def addP (p v : P3) : P3 := ⟨p.x + v.x, p.y + v.y, p.z + v.z⟩
def lerp (a b : P3) (t : Rat) : P3 := ⟨a.x + t * (b.x - a.x), a.y + t * (b.y - a.y), a.z + t * (b.z - a.z)⟩
end Go.Proofs.YtodcomijjmobdaaGreatDoor
