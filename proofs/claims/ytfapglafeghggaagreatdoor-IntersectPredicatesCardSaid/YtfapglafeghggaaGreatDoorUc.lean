/- Intersections: what package intersect computes. -/
import Derived.Test.YtfapglafeghggaaGreatDoorUb
import Derived.Test.YtfapglafeghggaaGreatDoorVb
set_option linter.unusedVariables false
set_option linter.unusedSimpArgs false
namespace Go.Proofs.YtfapglafeghggaaGreatDoor
open Go.RowKit NM SX

/-! Three fours: the rows of three equations. -/
abbrev Z444 := Z4 × Z4 × Z4
def TV (t : Z444) : Value := .agg #[.bool (sg t.1.a), .string (mg t.1.a), .bool (sg t.1.b), .string (mg t.1.b), .bool (sg t.1.c), .string (mg t.1.c), .bool (sg t.1.d), .string (mg t.1.d), .bool (sg t.2.1.a), .string (mg t.2.1.a), .bool (sg t.2.1.b), .string (mg t.2.1.b), .bool (sg t.2.1.c), .string (mg t.2.1.c), .bool (sg t.2.1.d), .string (mg t.2.1.d), .bool (sg t.2.2.a), .string (mg t.2.2.a), .bool (sg t.2.2.b), .string (mg t.2.2.b), .bool (sg t.2.2.c), .string (mg t.2.2.c), .bool (sg t.2.2.d), .string (mg t.2.2.d)]
abbrev Tk (t : Z444) (k : Nat) : Prop := Fk t.1 k ∧ Fk t.2.1 k ∧ Fk t.2.2 k
theorem Tk.mk {l m n : Z4} {k : Nat} (hl : Fk l k) (hm : Fk m k) (hn : Fk n k) : Tk (l, m, n) k := ⟨hl, hm, hn⟩
theorem Tk.up {t : Z444} {j k : Nat} (h : Tk t j) (hk : j ≤ k) : Tk t k := ⟨h.1.up hk, h.2.1.up hk, h.2.2.up hk⟩
/-! The determinants. -/
def det012 (t : Z444) : Int := 0 + t.1.a * (t.2.1.b * t.2.2.c - t.2.1.c * t.2.2.b) + t.2.1.a * (t.2.2.b * t.1.c - t.2.2.c * t.1.b) + t.2.2.a * (t.1.b * t.2.1.c - t.1.c * t.2.1.b)
def det312 (t : Z444) : Int := 0 + t.1.d * (t.2.1.b * t.2.2.c - t.2.1.c * t.2.2.b) + t.2.1.d * (t.2.2.b * t.1.c - t.2.2.c * t.1.b) + t.2.2.d * (t.1.b * t.2.1.c - t.1.c * t.2.1.b)
def det320 (t : Z444) : Int := 0 + t.1.d * (t.2.1.c * t.2.2.a - t.2.1.a * t.2.2.c) + t.2.1.d * (t.2.2.c * t.1.a - t.2.2.a * t.1.c) + t.2.2.d * (t.1.c * t.2.1.a - t.1.a * t.2.1.c)
def det301 (t : Z444) : Int := 0 + t.1.d * (t.2.1.a * t.2.2.b - t.2.1.b * t.2.2.a) + t.2.1.d * (t.2.2.a * t.1.b - t.2.2.b * t.1.a) + t.2.2.d * (t.1.a * t.2.1.b - t.1.b * t.2.1.a)
theorem Zk.det9 {a b c d e f g h i : Int} {k : Nat} (ha : Zk a k) (hb : Zk b k) (hc : Zk c k) (hd : Zk d k) (he : Zk e k) (hf : Zk f k) (hg : Zk g k) (hh : Zk h k) (hi : Zk i k) : Zk (0 + a * (e * i - f * h) + d * (h * c - i * b) + g * (b * f - c * e)) (3 * k + 4) := by
  have m {x y z u v : Int} (hx : Zk x k) (hy : Zk y k) (hz : Zk z k) (hu : Zk u k) (hv : Zk v k) : Zk (x * (y * z - u * v)) (3 * k + 1) :=
    Zk.up (mg_mul_size hx (Is.sub (mg_mul_size hy hz) (mg_mul_size hu hv))) (by omega)
  exact (Is.add (Is.add (Is.add (Zk.up Zk.zero (Nat.zero_le (3 * k + 1))) (m ha he hi hf hh)) (m hd hh hc hi hb)) (m hg hb hf hc he)).up (by omega)
theorem Zk.det012 {t : Z444} {k : Nat} (h : Tk t k) : Zk (det012 t) (3 * k + 4) := Zk.det9 h.1.1 h.1.2.1 h.1.2.2.1 h.2.1.1 h.2.1.2.1 h.2.1.2.2.1 h.2.2.1 h.2.2.2.1 h.2.2.2.2.1
theorem Zk.det312 {t : Z444} {k : Nat} (h : Tk t k) : Zk (det312 t) (3 * k + 4) := Zk.det9 h.1.2.2.2 h.1.2.1 h.1.2.2.1 h.2.1.2.2.2 h.2.1.2.1 h.2.1.2.2.1 h.2.2.2.2.2 h.2.2.2.1 h.2.2.2.2.1
theorem Zk.det320 {t : Z444} {k : Nat} (h : Tk t k) : Zk (det320 t) (3 * k + 4) := Zk.det9 h.1.2.2.2 h.1.2.2.1 h.1.1 h.2.1.2.2.2 h.2.1.2.2.1 h.2.1.1 h.2.2.2.2.2 h.2.2.2.2.1 h.2.2.1
theorem Zk.det301 {t : Z444} {k : Nat} (h : Tk t k) : Zk (det301 t) (3 * k + 4) := Zk.det9 h.1.2.2.2 h.1.1 h.1.2.1 h.2.1.2.2.2 h.2.1.1 h.2.1.2.1 h.2.2.2.2.2 h.2.2.1 h.2.2.2.1
theorem det_cast (l m n : Z4) : ((det012 (l, m, n) : Int) : Rat) = detF l m n := by
  unfold det012 detF dot3 crossP nrmF
  have z : ((0 : Int) : Rat) = 0 := rfl
  simp only [Rat.intCast_add, Rat.intCast_sub, Rat.intCast_mul, z]
  grind
theorem det_zero {l m n : Z4} : det012 (l, m, n) = 0 ↔ detF l m n = 0 := by
  rw [← det_cast]
  constructor
  · intro h; rw [h]; rfl
  · intro h; exact_mod_cast h
theorem sum_cast (l m n : Z4) : ((det312 (l, m, n) : Int) : Rat) = (sumF l m n).x ∧ ((det320 (l, m, n) : Int) : Rat) = (sumF l m n).y ∧ ((det301 (l, m, n) : Int) : Rat) = (sumF l m n).z := by
  have z : ((0 : Int) : Rat) = 0 := rfl
  refine ⟨?_, ?_, ?_⟩
  · unfold det312 sumF sumP mulP crossP nrmF
    simp only [Rat.intCast_add, Rat.intCast_sub, Rat.intCast_mul, z]
    grind
  · unfold det320 sumF sumP mulP crossP nrmF
    simp only [Rat.intCast_add, Rat.intCast_sub, Rat.intCast_mul, z]
    grind
  · unfold det301 sumF sumP mulP crossP nrmF
    simp only [Rat.intCast_add, Rat.intCast_sub, Rat.intCast_mul, z]
    grind
theorem three_prog {l m n : Z4} (h : detF l m n ≠ 0) : pt ⟨det312 (l, m, n), det320 (l, m, n), det301 (l, m, n), det012 (l, m, n)⟩ = threeF l m n := by
  obtain ⟨h1, h2, h3⟩ := sum_cast l m n
  have key : ∀ x : Rat, x = detF l m n * (x / detF l m n) := by
    intro x
    rw [Rat.div_def]
    have e := Rat.mul_inv_cancel _ h
    generalize detF l m n = D at *
    generalize D⁻¹ = I at *
    grind
  exact pt_over (D := detF l m n) (fun e => h (det_zero.1 e)) (det_cast l m n) (h1.trans (key _)) (h2.trans (key _)) (h3.trans (key _))

/-! A line and a plane. -/
def exF (p q : Z4) : Int := -(p.d * q.d) + p.a * q.a + p.b * q.b + p.c * q.c
theorem Zk.exF {p q : Z4} {j k : Nat} (hp : Fk p j) (hq : Fk q k) : Zk (exF p q) (j + k + 3) := by
  have h : ∀ {x y : Int}, Zk x j → Zk y k → Zk (x * y) (j + k) := fun a b => mg_mul_size a b
  exact (Is.add (Is.add (Is.add (mg_neg_size (h hp.2.2.2 hq.2.2.2)) (h hp.1 hq.1)) (h hp.2.1 hq.2.1)) (h hp.2.2.1 hq.2.2.1)).up (by omega)
def crF (p : Z4) (a b : P3) : Z4 := ⟨exF p (can4 a) * (can4 b).a - exF p (can4 b) * (can4 a).a, exF p (can4 a) * (can4 b).b - exF p (can4 b) * (can4 a).b, exF p (can4 a) * (can4 b).c - exF p (can4 b) * (can4 a).c, exF p (can4 a) * (can4 b).d - exF p (can4 b) * (can4 a).d⟩
theorem ex_cast (p : Z4) (a : P3) : ((exF p (can4 a) : Int) : Rat) = ((can4 a).d : Rat) * valF p a := by
  obtain ⟨h1, h2, h3⟩ := can_parts a
  unfold exF valF
  simp only [Rat.intCast_add, Rat.intCast_neg, Rat.intCast_mul, h1, h2, h3]
  grind
theorem by_val (p : Z4) (a b : P3) : byF p a b = valF p b - valF p a := by
  unfold byF dot3 nrmF subP valF
  simp only []
  grind
theorem cr_cast (p : Z4) (a b : P3) : (((crF p a b).d : Int) : Rat) = -(((can4 a).d : Rat) * ((can4 b).d : Rat) * byF p a b) := by
  rw [by_val]
  show ((exF p (can4 a) * (can4 b).d - exF p (can4 b) * (can4 a).d : Int) : Rat) = _
  simp only [Rat.intCast_sub, Rat.intCast_mul, ex_cast]
  grind
theorem cr_zero {p : Z4} {a b : P3} : (crF p a b).d = 0 ↔ byF p a b = 0 := by
  have h := cr_cast p a b
  have ha := can_pos a
  have hb := can_pos b
  have hab := Rat.mul_pos ha hb
  constructor
  · intro e
    rw [e] at h
    have z : ((0 : Int) : Rat) = 0 := rfl
    rw [z] at h
    have h' : ((can4 a).d : Rat) * ((can4 b).d : Rat) * byF p a b = 0 := by grind
    rcases Rat.mul_eq_zero.1 h' with h1 | h1
    · rw [h1] at hab; exact absurd hab (by decide)
    · exact h1
  · intro e
    rw [e] at h
    have h' : (((crF p a b).d : Int) : Rat) = 0 := by rw [h]; grind
    exact_mod_cast h'
theorem line_prog {p : Z4} {a b : P3} (h : byF p a b ≠ 0) : pt (crF p a b) = lineF p a b := by
  obtain ⟨a1, a2, a3⟩ := can_parts a
  obtain ⟨b1, b2, b3⟩ := can_parts b
  have hv := by_val p a b
  have hd : dot3 (nrmF p) a = valF p a + p.d := by
    unfold dot3 nrmF valF
    simp only []
    grind
  have key : ∀ x y t : Rat, ((can4 a).d : Rat) * valF p a * (((can4 b).d : Rat) * y) - ((can4 b).d : Rat) * valF p b * (((can4 a).d : Rat) * x) = -(((can4 a).d : Rat) * ((can4 b).d : Rat) * byF p a b) * (x + (y - x) * ((p.d - dot3 (nrmF p) a) / byF p a b)) := by
    intro x y _
    rw [hd, Rat.div_def]
    have e := Rat.mul_inv_cancel _ h
    generalize byF p a b = D at *
    generalize D⁻¹ = I at *
    grind
  unfold lineF
  refine pt_over (D := -(((can4 a).d : Rat) * ((can4 b).d : Rat) * byF p a b)) (fun e => h (cr_zero.1 e)) (cr_cast p a b) ?_ ?_ ?_
  · show ((exF p (can4 a) * (can4 b).a - exF p (can4 b) * (can4 a).a : Int) : Rat) = _
    simp only [Rat.intCast_sub, Rat.intCast_mul, ex_cast, a1, b1]
    exact key _ _ 0
  · show ((exF p (can4 a) * (can4 b).b - exF p (can4 b) * (can4 a).b : Int) : Rat) = _
    simp only [Rat.intCast_sub, Rat.intCast_mul, ex_cast, a2, b2]
    exact key _ _ 0
  · show ((exF p (can4 a) * (can4 b).c - exF p (can4 b) * (can4 a).c : Int) : Rat) = _
    simp only [Rat.intCast_sub, Rat.intCast_mul, ex_cast, a3, b3]
    exact key _ _ 0

/-! Between. -/
theorem cmpP_lt_trans {a b c : P3} (h1 : cmpP a b < 0) (h2 : cmpP b c < 0) : cmpP a c < 0 := by
  have h := cmpP_trans (p := a) (q := b) (r := c) (by omega) (by omega)
  by_cases e : cmpP a c = 0
  · have := cmpP_zero.1 e
    subst this
    have := cmpP_swap a b
    omega
  · omega
theorem bet_order {a b x : P3} : (cmpP a x ≠ 0 ∧ cmpP a x = cmpP x b) ∧ straightP a b x ↔ betP a b x := by
  have h1 := cmpP_bd a x
  have h2 := cmpP_bd x b
  unfold betP
  constructor
  · rintro ⟨⟨h, e⟩, hs⟩
    refine ⟨hs, ?_, ?_⟩
    · rcases (show cmpP a x < 0 ∨ 0 < cmpP a x by omega) with k | k
      · have := cmpP_lt_trans k (by rw [← e]; exact k)
        omega
      · have s1 := cmpP_swap a x
        have s2 := cmpP_swap x b
        have s3 := cmpP_swap a b
        have := cmpP_lt_trans (a := b) (b := x) (c := a) (by omega) (by omega)
        omega
    · rw [← e]
      rcases (show cmpP a x = 1 ∨ cmpP a x = -1 by omega) with k | k <;> rw [k] <;> rfl
  · rintro ⟨hs, _, k⟩
    refine ⟨?_, hs⟩
    generalize cmpP a x = u at *
    generalize cmpP x b = v at *
    rcases (show u = -1 ∨ u = 0 ∨ u = 1 by omega) with rfl | rfl | rfl <;> rcases (show v = -1 ∨ v = 0 ∨ v = 1 by omega) with rfl | rfl | rfl <;> simp at k ⊢

/-! The common part. -/
theorem lo_low (a b c d : P3) : topP (lowP a b) (lowP c d) = loS a b c d := by
  unfold loS
  generalize lowP a b = x
  generalize lowP c d = y
  have hs := cmpP_swap x y
  have hz := @cmpP_zero x y
  unfold topP
  by_cases h : cmpP x y = 0
  · have := hz.1 h
    subst this
    simp only [ite_self]
  · split <;> split <;> first | rfl | omega
theorem hi_top (a b c d : P3) : lowP (topP a b) (topP c d) = hiS a b c d := by
  unfold hiS
  generalize topP a b = x
  generalize topP c d = y
  have hs := cmpP_swap x y
  unfold lowP
  split <;> split <;> first | rfl | omega
theorem low_same (a : P3) : lowP a a = a := by unfold lowP; split <;> rfl
theorem top_same (a : P3) : topP a a = a := by unfold topP; split <;> rfl
theorem lo_ge (a b c d : P3) : cmpP (lowP a b) (loS a b c d) ≤ 0 ∧ cmpP (lowP c d) (loS a b c d) ≤ 0 := by
  unfold loS
  generalize lowP a b = x
  generalize lowP c d = y
  have h1 := cmpP_self x
  have h2 := cmpP_self y
  have hs := cmpP_swap x y
  split <;> omega
theorem hi_le (a b c d : P3) : cmpP (hiS a b c d) (topP a b) ≤ 0 ∧ cmpP (hiS a b c d) (topP c d) ≤ 0 := by
  unfold hiS
  generalize topP a b = x
  generalize topP c d = y
  have h1 := cmpP_self x
  have h2 := cmpP_self y
  have hs := cmpP_swap x y
  split <;> omega
theorem share_ends {a b c d : P3} (h : cmpP (loS a b c d) (hiS a b c d) < 0) : cmpP a b ≠ 0 ∧ cmpP c d ≠ 0 := by
  obtain ⟨h1, h2⟩ := lo_ge a b c d
  obtain ⟨h3, h4⟩ := hi_le a b c d
  have h0 : cmpP (loS a b c d) (hiS a b c d) ≤ 0 := by omega
  have hsw := cmpP_swap (loS a b c d) (hiS a b c d)
  have no : ∀ p : P3, cmpP p (loS a b c d) ≤ 0 → cmpP (hiS a b c d) p ≤ 0 → False := by
    intro p k1 k2
    have := cmpP_trans k2 k1
    omega
  constructor
  · intro e
    have := cmpP_zero.1 e
    subst this
    rw [low_same] at h1
    rw [top_same] at h3
    exact no a h1 h3
  · intro e
    have := cmpP_zero.1 e
    subst this
    rw [low_same] at h2
    rw [top_same] at h4
    exact no c h2 h4
theorem share_iff {a b c d : P3} : (straightP a b c ∧ straightP a b d) ∧ cmpP (loS a b c d) (hiS a b c d) < 0 ↔ shareP a b c d := by
  constructor
  · rintro ⟨⟨h1, h2⟩, h⟩
    obtain ⟨k1, k2⟩ := share_ends h
    exact ⟨⟨k1, k2, h1, h2⟩, h⟩
  · rintro ⟨⟨_, _, h1, h2⟩, h⟩
    exact ⟨⟨h1, h2⟩, h⟩
theorem Pk.low {a b : P3} {j k : Nat} (ha : Pk a j) (hb : Pk b k) : Pk (lowP a b) (max j k) := by
  have ha' := Pk.up ha (Nat.le_max_left j k)
  have hb' := Pk.up hb (Nat.le_max_right j k)
  unfold lowP
  split <;> assumption
theorem Pk.top {a b : P3} {j k : Nat} (ha : Pk a j) (hb : Pk b k) : Pk (topP a b) (max j k) := by
  have ha' := Pk.up ha (Nat.le_max_left j k)
  have hb' := Pk.up hb (Nat.le_max_right j k)
  unfold topP
  split <;> assumption
end Go.Proofs.YtfapglafeghggaaGreatDoor
