/- Intersections: what package intersect computes. -/
import Derived.Test.YtfapglafeghggaaDoorUb
import Derived.Test.YtfapglafeghggaaDoorVb
set_option linter.unusedVariables false
set_option linter.unusedSimpArgs false
namespace Go.Proofs.YtfapglafeghggaaDoor
open Go.RowKit NM SX

/-! Three fours: the rows of three equations. -/
abbrev Z444 := Z4 × Z4 × Z4
def TV (t : Z444) : Value := .agg #[.bool (sg t.1.a), .string (mg t.1.a), .bool (sg t.1.b), .string (mg t.1.b), .bool (sg t.1.c), .string (mg t.1.c), .bool (sg t.1.d), .string (mg t.1.d), .bool (sg t.2.1.a), .string (mg t.2.1.a), .bool (sg t.2.1.b), .string (mg t.2.1.b), .bool (sg t.2.1.c), .string (mg t.2.1.c), .bool (sg t.2.1.d), .string (mg t.2.1.d), .bool (sg t.2.2.a), .string (mg t.2.2.a), .bool (sg t.2.2.b), .string (mg t.2.2.b), .bool (sg t.2.2.c), .string (mg t.2.2.c), .bool (sg t.2.2.d), .string (mg t.2.2.d)]
abbrev Tk (t : Z444) (k : Nat) : Prop := Fk t.1 k ∧ Fk t.2.1 k ∧ Fk t.2.2 k
theorem Tk.mk {l m n : Z4} {k : Nat} (hl : Fk l k) (hm : Fk m k) (hn : Fk n k) : Tk (l, m, n) k := ⟨hl, hm, hn⟩
theorem Tk.up {t : Z444} {j k : Nat} (h : Tk t j) (hk : j ≤ k) : Tk t k := ⟨h.1.up hk, h.2.1.up hk, h.2.2.up hk⟩
/-! The determinants. -/
def det012 (t : Z444) : Int := 0 + t.1.a * (t.2.1.b * t.2.2.c - t.2.1.c * t.2.2.b) + t.2.1.a * (t.2.2.b * t.1.c - t.2.2.c * t.1.b) + t.2.2.a * (t.1.b * t.2.1.c - t.1.c * t.2.1.b)
def det312 (t : Z444) : Int := 0 + t.1.d * (t.2.1.b * t.2.2.c - t.2.1.c * t.2.2.b) + t.2.1.d * (t.2.2.b * t.1.c - t.2.2.c * t.1.b) + t.2.2.d * (t.1.b * t.2.1.c - t.1.c * t.2.1.b)
def det320 (t : Z444) : Int := 0 + t.1.d * (t.2.1.c * t.2.2.a - t.2.1.a * t.2.2.c) + t.2.1.d * (t.2.2.c * t.1.a - t.2.2.a * t.1.c) + t.2.2.d * (t.1.c * t.2.1.a - t.1.a * t.2.1.c)
def det301 (t : Z444) : Int := 0 + t.1.d * (t.2.1.a * t.2.2.b - t.2.1.b * t.2.2.a) + t.2.1.d * (t.2.2.a * t.1.b - t.2.2.b * t.1.a) + t.2.2.d * (t.1.a * t.2.1.b - t.1.b * t.2.1.a)
theorem Zk.det9 {a b c d e f g h i : Int} {k : Nat} (ha : Zk a k) (hb : Zk b k) (hc : Zk c k) (hd : Zk d k) (he : Zk e k) (hf : Zk f k) (hg : Zk g k) (hh : Zk h k) (hi : Zk i k) : Zk (0 + a * (e * i - f * h) + d * (h * c - i * b) + g * (b * f - c * e)) (3 * k + 4) := by
  have m {x y z u v : Int} (hx : Zk x k) (hy : Zk y k) (hz : Zk z k) (hu : Zk u k) (hv : Zk v k) : Zk (x * (y * z - u * v)) (3 * k + 1) :=
    Zk.up (mg_mul_size hx (Is.sub (mg_mul_size hy hz) (mg_mul_size hu hv))) (by omega)
  exact (Is.add (Is.add (Is.add (Zk.up Zk.zero (Nat.zero_le (3 * k + 1))) (m ha he hi hf hh)) (m hd hh hc hi hb)) (m hg hb hf hc he)).up (by omega)
theorem Zk.det012 {t : Z444} {k : Nat} (h : Tk t k) : Zk (det012 t) (3 * k + 4) := Zk.det9 h.1.1 h.1.2.1 h.1.2.2.1 h.2.1.1 h.2.1.2.1 h.2.1.2.2.1 h.2.2.1 h.2.2.2.1 h.2.2.2.2.1
theorem Zk.det312 {t : Z444} {k : Nat} (h : Tk t k) : Zk (det312 t) (3 * k + 4) := Zk.det9 h.1.2.2.2 h.1.2.1 h.1.2.2.1 h.2.1.2.2.2 h.2.1.2.1 h.2.1.2.2.1 h.2.2.2.2.2 h.2.2.2.1 h.2.2.2.2.1
theorem Zk.det320 {t : Z444} {k : Nat} (h : Tk t k) : Zk (det320 t) (3 * k + 4) := Zk.det9 h.1.2.2.2 h.1.2.2.1 h.1.1 h.2.1.2.2.2 h.2.1.2.2.1 h.2.1.1 h.2.2.2.2.2 h.2.2.2.2.1 h.2.2.1
theorem Zk.det301 {t : Z444} {k : Nat} (h : Tk t k) : Zk (det301 t) (3 * k + 4) := Zk.det9 h.1.2.2.2 h.1.1 h.1.2.1 h.2.1.2.2.2 h.2.1.1 h.2.1.2.1 h.2.2.2.2.2 h.2.2.1 h.2.2.2.1
theorem det_cast (l m n : Z4) : ((det012 (l, m, n) : Int) : Rat) = detF l m n := by
  unfold det012 detF dot3 crossP nrmF
  have z : ((0 : Int) : Rat) = 0 := rfl
  simp only [Rat.intCast_add, Rat.intCast_sub, Rat.intCast_mul, z]
  grind
theorem det_zero {l m n : Z4} : det012 (l, m, n) = 0 ↔ detF l m n = 0 := by
  rw [← det_cast]
  constructor
  · intro h; rw [h]; rfl
  · intro h; exact_mod_cast h
theorem sum_cast (l m n : Z4) : ((det312 (l, m, n) : Int) : Rat) = (sumF l m n).x ∧ ((det320 (l, m, n) : Int) : Rat) = (sumF l m n).y ∧ ((det301 (l, m, n) : Int) : Rat) = (sumF l m n).z := by
  have z : ((0 : Int) : Rat) = 0 := rfl
  refine ⟨?_, ?_, ?_⟩
  · unfold det312 sumF sumP mulP crossP nrmF
    simp only [Rat.intCast_add, Rat.intCast_sub, Rat.intCast_mul, z]
    grind
  · unfold det320 sumF sumP mulP crossP nrmF
    simp only [Rat.intCast_add, Rat.intCast_sub, Rat.intCast_mul, z]
    grind
  · unfold det301 sumF sumP mulP crossP nrmF
    simp only [Rat.intCast_add, Rat.intCast_sub, Rat.intCast_mul, z]
    grind
theorem three_prog {l m n : Z4} (h : detF l m n ≠ 0) : pt ⟨det312 (l, m, n), det320 (l, m, n), det301 (l, m, n), det012 (l, m, n)⟩ = threeF l m n := by
  obtain ⟨h1, h2, h3⟩ := sum_cast l m n
  have key : ∀ x : Rat, x = detF l m n * (x / detF l m n) := by
    intro x
    rw [Rat.div_def]
    have e := Rat.mul_inv_cancel _ h
    generalize detF l m n = D at *
    generalize D⁻¹ = I at *
    grind
  exact pt_over (D := detF l m n) (fun e => h (det_zero.1 e)) (det_cast l m n) (h1.trans (key _)) (h2.trans (key _)) (h3.trans (key _))

/-! A line and a plane. -/
def exF (p q : Z4) : Int := -(p.d * q.d) + p.a * q.a + p.b * q.b + p.c * q.c
theorem Zk.exF {p q : Z4} {j k : Nat} (hp : Fk p j) (hq : Fk q k) : Zk (exF p q) (j + k + 3) := by
  have h : ∀ {x y : Int}, Zk x j → Zk y k → Zk (x * y) (j + k) := fun a b => mg_mul_size a b
  exact (Is.add (Is.add (Is.add (mg_neg_size (h hp.2.2.2 hq.2.2.2)) (h hp.1 hq.1)) (h hp.2.1 hq.2.1)) (h hp.2.2.1 hq.2.2.1)).up (by omega)
def crF (p : Z4) (a b : P3) : Z4 := ⟨exF p (can4 a) * (can4 b).a - exF p (can4 b) * (can4 a).a, exF p (can4 a) * (can4 b).b - exF p (can4 b) * (can4 a).b, exF p (can4 a) * (can4 b).c - exF p (can4 b) * (can4 a).c, exF p (can4 a) * (can4 b).d - exF p (can4 b) * (can4 a).d⟩
theorem ex_cast (p : Z4) (a : P3) : ((exF p (can4 a) : Int) : Rat) = ((can4 a).d : Rat) * valF p a := by
  obtain ⟨h1, h2, h3⟩ := can_parts a
  unfold exF valF
  simp only [Rat.intCast_add, Rat.intCast_neg, Rat.intCast_mul, h1, h2, h3]
  grind
theorem by_val (p : Z4) (a b : P3) : byF p a b = valF p b - valF p a := by
  unfold byF dot3 nrmF subP valF
  simp only []
  grind
theorem cr_cast (p : Z4) (a b : P3) : (((crF p a b).d : Int) : Rat) = -(((can4 a).d : Rat) * ((can4 b).d : Rat) * byF p a b) := by
  rw [by_val]
  show ((exF p (can4 a) * (can4 b).d - exF p (can4 b) * (can4 a).d : Int) : Rat) = _
  simp only [Rat.intCast_sub, Rat.intCast_mul, ex_cast]
  grind
theorem cr_zero {p : Z4} {a b : P3} : (crF p a b).d = 0 ↔ byF p a b = 0 := by
  have h := cr_cast p a b
  have ha := can_pos a
  have hb := can_pos b
  have hab := Rat.mul_pos ha hb
  constructor
  · intro e
    rw [e] at h
    have z : ((0 : Int) : Rat) = 0 := rfl
    rw [z] at h
    have h' : ((can4 a).d : Rat) * ((can4 b).d : Rat) * byF p a b = 0 := by grind
    rcases Rat.mul_eq_zero.1 h' with h1 | h1
    · rw [h1] at hab; exact absurd hab (by decide)
    · exact h1
  · intro e
    rw [e] at h
    have h' : (((crF p a b).d : Int) : Rat) = 0 := by rw [h]; grind
    exact_mod_cast h'
theorem line_prog {p : Z4} {a b : P3} (h : byF p a b ≠ 0) : pt (crF p a b) = lineF p a b := by
  obtain ⟨a1, a2, a3⟩ := can_parts a
  obtain ⟨b1, b2, b3⟩ := can_parts b
  have hv := by_val p a b
  have hd : dot3 (nrmF p) a = valF p a + p.d := by
    unfold dot3 nrmF valF
    simp only []
    grind
  have key : ∀ x y t : Rat, ((can4 a).d : Rat) * valF p a * (((can4 b).d : Rat) * y) - ((can4 b).d : Rat) * valF p b * (((can4 a).d : Rat) * x) = -(((can4 a).d : Rat) * ((can4 b).d : Rat) * byF p a b) * (x + (y - x) * ((p.d - dot3 (nrmF p) a) / byF p a b)) := by
    intro x y _
    rw [hd, Rat.div_def]
    have e := Rat.mul_inv_cancel _ h
    generalize byF p a b = D at *
    generalize D⁻¹ = I at *
    grind
  unfold lineF
  refine pt_over (D := -(((can4 a).d : Rat) * ((can4 b).d : Rat) * byF p a b)) (fun e => h (cr_zero.1 e)) (cr_cast p a b) ?_ ?_ ?_
  · show ((exF p (can4 a) * (can4 b).a - exF p (can4 b) * (can4 a).a : Int) : Rat) = _
    simp only [Rat.intCast_sub, Rat.intCast_mul, ex_cast, a1, b1]
    exact key _ _ 0
  · show ((exF p (can4 a) * (can4 b).b - exF p (can4 b) * (can4 a).b : Int) : Rat) = _
    simp only [Rat.intCast_sub, Rat.intCast_mul, ex_cast, a2, b2]
    exact key _ _ 0
  · show ((exF p (can4 a) * (can4 b).c - exF p (can4 b) * (can4 a).c : Int) : Rat) = _
    simp only [Rat.intCast_sub, Rat.intCast_mul, ex_cast, a3, b3]
    exact key _ _ 0

/-! Between. -/
/-! The common part. -/
theorem Pk.top {a b : P3} {j k : Nat} (ha : Pk a j) (hb : Pk b k) : Pk (topP a b) (max j k) := by
  have ha' := Pk.up ha (Nat.le_max_left j k)
  have hb' := Pk.up hb (Nat.le_max_right j k)
  unfold topP
  split <;> assumption
end Go.Proofs.YtfapglafeghggaaDoor
