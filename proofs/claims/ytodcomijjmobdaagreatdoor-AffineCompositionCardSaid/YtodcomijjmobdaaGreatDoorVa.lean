/- Planes: the mathematics of four coefficients without a common divisor. -/
import Derived.Test.YtodcomijjmobdaaGreatDoorPu
set_option linter.unusedVariables false
set_option linter.unusedSimpArgs false
namespace Go.Proofs.YtodcomijjmobdaaGreatDoor
open Go.RowKit NM SX

theorem div_pos' {a b : Rat} (ha : 0 < a) (hb : 0 < b) : 0 < a / b := by
  rw [Rat.div_def]
  exact Rat.mul_pos ha (Rat.inv_pos.2 hb)
/-- Four rational coefficients. -/
structure Q4 where
  (a b c d : Rat)
def homQ (v : Q4) : Z4 := ⟨v.a.num * ((v.b.den : Int) * v.c.den * v.d.den), v.b.num * ((v.a.den : Int) * v.c.den * v.d.den), v.c.num * ((v.a.den : Int) * v.b.den * v.d.den), v.d.num * ((v.a.den : Int) * v.b.den * v.c.den)⟩
/-- The plane of four rational coefficients, in canonical form. -/
def canQ (v : Q4) : Z4 := prim (homQ v)
def toQ (q : Z4) : Q4 := ⟨q.a, q.b, q.c, q.d⟩
def Q4.mul (k : Rat) (v : Q4) : Q4 := ⟨k * v.a, k * v.b, k * v.c, k * v.d⟩
theorem Q4.ext' {p q : Q4} (h1 : p.a = q.a) (h2 : p.b = q.b) (h3 : p.c = q.c) (h4 : p.d = q.d) : p = q := by
  cases p; cases q; cases h1; cases h2; cases h3; cases h4; rfl
theorem num_den (r : Rat) : (r.num : Rat) = r * (r.den : Int) := by
  have h := Rat.num_divInt_den r
  rw [Rat.divInt_eq_div] at h
  have h0 : (((r.den : Nat) : Int) : Rat) ≠ 0 := by
    have := r.den_nz
    exact_mod_cast this
  generalize (((r.den : Nat) : Int) : Rat) = D at *
  generalize hn : (r.num : Rat) = n at *
  rw [← h]
  grind
theorem den_pos' (r : Rat) : (0 : Rat) < ((r.den : Int) : Rat) := by
  have := r.den_pos
  exact_mod_cast this
/-- The product of the denominators. -/
def denQ (v : Q4) : Rat := ((v.a.den : Int) : Rat) * ((v.b.den : Int) : Rat) * ((v.c.den : Int) : Rat) * ((v.d.den : Int) : Rat)
theorem denQ_pos (v : Q4) : 0 < denQ v := Rat.mul_pos (Rat.mul_pos (Rat.mul_pos (den_pos' _) (den_pos' _)) (den_pos' _)) (den_pos' _)
theorem toQ_hom (v : Q4) : toQ (homQ v) = v.mul (denQ v) := by
  unfold toQ homQ Q4.mul denQ
  simp only [Rat.intCast_mul]
  refine Q4.ext' ?_ ?_ ?_ ?_ <;> (simp only [num_den]; grind)
theorem prim_ratio {p q : Z4} {k : Rat} (hk : 0 < k) (h : toQ p = (toQ q).mul k) : prim p = prim q := by
  have hn : 0 < k.num := rat_pos.2 hk
  obtain ⟨n, hn'⟩ := Int.eq_ofNat_of_zero_le (Int.le_of_lt hn)
  have hd := den_pos' k
  have e := num_den k
  have key : ∀ x y : Int, (x : Rat) = k * (y : Rat) → (k.den : Int) * x = (n : Int) * y := by
    intro x y hxy
    have : (((k.den : Int) * x : Int) : Rat) = (((n : Int) * y : Int) : Rat) := by
      rw [Rat.intCast_mul, Rat.intCast_mul, hxy, ← hn', e]
      grind
    exact_mod_cast this
  have ha := congrArg Q4.a h
  have hb := congrArg Q4.b h
  have hc := congrArg Q4.c h
  have hdd := congrArg Q4.d h
  refine prim_prop (j := k.den) (k := n) k.den_nz (by omega) ?_
  exact Z4.ext' (key _ _ ha) (key _ _ hb) (key _ _ hc) (key _ _ hdd)
theorem canQ_of {q : Z4} {v : Q4} {k : Rat} (hk : 0 < k) (h : toQ q = v.mul k) : prim q = canQ v := by
  refine prim_ratio (k := k / denQ v) (div_pos' hk (denQ_pos v)) ?_
  have h0 := denQ_pos v
  rw [toQ_hom, h]
  unfold Q4.mul
  refine Q4.ext' ?_ ?_ ?_ ?_ <;> (show k * _ = k / denQ v * (denQ v * _); grind)
/-- A plane that is none. -/
def flatF (q : Z4) : Prop := q.a = 0 ∧ q.b = 0 ∧ q.c = 0
instance (q : Z4) : Decidable (flatF q) := inferInstanceAs (Decidable (_ ∧ _ ∧ _))
theorem g4_flat {q : Z4} (h : ¬ flatF q) : g4 q.a q.b q.c q.d ≠ 0 := fun e => h ⟨(g4_zero.1 e).1, (g4_zero.1 e).2.1, (g4_zero.1 e).2.2.1⟩
theorem prim_ex {q : Z4} (h : ¬ flatF q) : ∃ k : Rat, 0 < k ∧ toQ (prim q) = (toQ q).mul k := by
  have hg := g4_flat h
  have hb := prim_back hg
  have hp : (0 : Rat) < ((g4 q.a q.b q.c q.d : Nat) : Int) := by
    have : 0 < ((g4 q.a q.b q.c q.d : Nat) : Int) := by omega
    exact_mod_cast this
  refine ⟨1 / (((g4 q.a q.b q.c q.d : Nat) : Int) : Rat), div_pos' (by decide) hp, ?_⟩
  have e : toQ q = (toQ (prim q)).mul (((g4 q.a q.b q.c q.d : Nat) : Int) : Rat) := by
    conv => lhs; rw [← hb]
    unfold toQ Q4.mul Z4.mul
    simp only [Rat.intCast_mul]
  rw [e]
  generalize (((g4 q.a q.b q.c q.d : Nat) : Int) : Rat) = G at *
  unfold Q4.mul
  refine Q4.ext' ?_ ?_ ?_ ?_ <;> (show _ = 1 / G * (G * _); grind)
theorem flat_ratio {p q : Z4} {k : Rat} (hk : k ≠ 0) (h : toQ p = (toQ q).mul k) : flatF p ↔ flatF q := by
  have key : ∀ x y : Int, (x : Rat) = k * (y : Rat) → (x = 0 ↔ y = 0) := by
    intro x y hxy
    constructor
    · rintro rfl
      have h1 : (0 : Rat) = k * (y : Rat) := hxy
      have : (y : Rat) = 0 := by grind
      exact_mod_cast this
    · rintro rfl
      have h1 : (x : Rat) = k * ((0 : Int) : Rat) := hxy
      have h2 : ((0 : Int) : Rat) = 0 := rfl
      have : (x : Rat) = 0 := by grind
      exact_mod_cast this
  have ha := key _ _ (congrArg Q4.a h)
  have hb := key _ _ (congrArg Q4.b h)
  have hc := key _ _ (congrArg Q4.c h)
  exact ⟨fun e => ⟨ha.1 e.1, hb.1 e.2.1, hc.1 e.2.2⟩, fun e => ⟨ha.2 e.1, hb.2 e.2.1, hc.2 e.2.2⟩⟩
theorem prim_flat {q : Z4} (h : ¬ flatF q) : ¬ flatF (prim q) := by
  obtain ⟨k, hk, e⟩ := prim_ex h
  rw [flat_ratio (by grind) e]
  exact h
def flatQ (v : Q4) : Prop := v.a = 0 ∧ v.b = 0 ∧ v.c = 0
instance (v : Q4) : Decidable (flatQ v) := inferInstanceAs (Decidable (_ ∧ _ ∧ _))
theorem flat_hom {q : Z4} {v : Q4} {k : Rat} (hk : 0 < k) (h : toQ q = v.mul k) : flatF q ↔ flatQ v := by
  have key : ∀ (x : Int) (y : Rat), (x : Rat) = k * y → (x = 0 ↔ y = 0) := by
    intro x y hxy
    constructor
    · rintro rfl
      have h1 : (0 : Rat) = k * y := hxy
      grind
    · rintro rfl
      have : (x : Rat) = 0 := by grind
      exact_mod_cast this
  have ha := key _ _ (congrArg Q4.a h)
  have hb := key _ _ (congrArg Q4.b h)
  have hc := key _ _ (congrArg Q4.c h)
  exact ⟨fun e => ⟨ha.1 e.1, hb.1 e.2.1, hc.1 e.2.2⟩, fun e => ⟨ha.2 e.1, hb.2 e.2.1, hc.2 e.2.2⟩⟩
theorem canQ_ex {v : Q4} (h : ¬ flatQ v) : ∃ k : Rat, 0 < k ∧ toQ (canQ v) = v.mul k := by
  have hf : ¬ flatF (homQ v) := fun e => h ((flat_hom (denQ_pos v) (toQ_hom v)).1 e)
  obtain ⟨k, hk, e⟩ := prim_ex hf
  refine ⟨k * denQ v, Rat.mul_pos hk (denQ_pos v), ?_⟩
  show toQ (prim (homQ v)) = _
  rw [e, toQ_hom]
  unfold Q4.mul
  refine Q4.ext' ?_ ?_ ?_ ?_ <;> (show k * (denQ v * _) = _; grind)
theorem canQ_flat {v : Q4} (h : ¬ flatQ v) : ¬ flatF (canQ v) := by
  obtain ⟨k, hk, e⟩ := canQ_ex h
  rw [flat_hom hk e]
  exact h
/-! The plane turned round. -/
def negF (q : Z4) : Z4 := ⟨-q.a, -q.b, -q.c, -q.d⟩
theorem prim_neg (q : Z4) : prim (negF q) = negF (prim q) := by
  obtain ⟨h1, h2, h3, h4⟩ := g4_dvd q.a q.b q.c q.d
  have e := g4_neg q.a q.b q.c q.d
  unfold prim negF
  simp only [e]
  exact Z4.ext' (Int.neg_ediv_of_dvd h1) (Int.neg_ediv_of_dvd h2) (Int.neg_ediv_of_dvd h3) (Int.neg_ediv_of_dvd h4)
/-! The side of a point. -/
def valF (q : Z4) (p : P3) : Rat := q.a * p.x + q.b * p.y + q.c * p.z - q.d
def sideF (q : Z4) (p : P3) : Int := sgQ (valF q p)
theorem pt_parts {t : Z4} (h : 0 < t.d) : (t.a : Rat) = t.d * (pt t).x ∧ (t.b : Rat) = t.d * (pt t).y ∧ (t.c : Rat) = t.d * (pt t).z := by
  have h0 : (t.d : Rat) ≠ 0 := by
    have : t.d ≠ 0 := by omega
    exact_mod_cast this
  have e : w1 t.d = t.d := w1_pos (by omega)
  have key : ∀ x : Int, (x : Rat) = t.d * Rat.divInt x t.d := by
    intro x
    rw [Rat.divInt_eq_div]
    grind
  unfold pt
  rw [e]
  exact ⟨key _, key _, key _⟩
theorem sgQ_int (z : Int) : sgQ (z : Rat) = cmpZ z 0 := rfl
/-- The sign of the sum that is computed over homogeneous coordinates. -/
theorem side_of {q t : Z4} {s : Int} (h : 0 < t.d) (hs : s = q.a * t.a + q.b * t.b + q.c * t.c - q.d * t.d) : cmpZ s 0 = sideF q (pt t) := by
  obtain ⟨h1, h2, h3⟩ := pt_parts h
  have h0 : (0 : Rat) < (t.d : Rat) := by exact_mod_cast h
  unfold sideF
  have hm := sgQ_mul_pos h0 (y := valF q (pt t))
  rw [← sgQ_int, ← hm]
  congr 1
  rw [hs, Rat.intCast_sub, Rat.intCast_add, Rat.intCast_add, Rat.intCast_mul, Rat.intCast_mul, Rat.intCast_mul, Rat.intCast_mul, h1, h2, h3]
  unfold valF
  grind
/-- The side of a point of a plane by rational coefficients. -/
theorem side_canQ {v : Q4} (h : ¬ flatQ v) (x : P3) : sideF (canQ v) x = sgQ (v.a * x.x + v.b * x.y + v.c * x.z - v.d) := by
  obtain ⟨k, hk, e⟩ := canQ_ex h
  have ha : ((canQ v).a : Rat) = k * v.a := congrArg Q4.a e
  have hb : ((canQ v).b : Rat) = k * v.b := congrArg Q4.b e
  have hc : ((canQ v).c : Rat) = k * v.c := congrArg Q4.c e
  have hd : ((canQ v).d : Rat) = k * v.d := congrArg Q4.d e
  unfold sideF
  rw [← sgQ_mul_pos hk (y := v.a * x.x + v.b * x.y + v.c * x.z - v.d)]
  congr 1
  unfold valF
  rw [ha, hb, hc, hd]
  grind

/-! The axis. -/
/-! The projection, the offset. -/
/-! Products of vectors; sizes. -/
def crossP (a b : P3) : P3 := ⟨a.y * b.z - a.z * b.y, a.z * b.x - a.x * b.z, a.x * b.y - a.y * b.x⟩
theorem Fk.neg {q : Z4} {k : Nat} (h : Fk q k) : Fk (negF q) k := ⟨mg_neg_size h.1, mg_neg_size h.2.1, mg_neg_size h.2.2.1, mg_neg_size h.2.2.2⟩
theorem Rk.int {x : Int} {k : Nat} (h : Zk x k) : Rk (x : Rat) (max k 1) := ⟨Nat.le_trans h (Nat.le_max_left _ _), Nat.le_trans (show (can 1).size ≤ 1 by decide) (Nat.le_max_right _ _)⟩
theorem Rk.minor {a b c d : Rat} {j k : Nat} (ha : Rk a j) (hb : Rk b k) (hc : Rk c j) (hd : Rk d k) : Rk (a * b - c * d) (2 * (max j 1 + k) + 1) := (Rk.sub (Is.mul ha hb) (Is.mul hc hd)).mono (by omega)
theorem Vk.cross {a b : P3} {j k : Nat} (ha : Vk a j) (hb : Vk b k) : Vk (crossP a b) (2 * (max j 1 + max k 1) + 1) :=
  ⟨(Rk.minor ha.2.1 hb.2.2 ha.2.2 hb.2.1).mono (by omega), (Rk.minor ha.2.2 hb.1 ha.1 hb.2.2).mono (by omega), (Rk.minor ha.1 hb.2.1 ha.2.1 hb.1).mono (by omega)⟩
/-- What the canonical form's function returns. -/
def normV (q : Z4) : Value := if flatF q then .tuple #[.agg #[.bool false, .string ⟨#[]⟩, .bool false, .string ⟨#[]⟩, .bool false, .string ⟨#[]⟩, .bool false, .string ⟨#[]⟩], .bool false] else .tuple #[FV (prim q), .bool true]
def planeV (v : Q4) : Value := if flatQ v then .tuple #[.agg #[.bool false, .string ⟨#[]⟩, .bool false, .string ⟨#[]⟩, .bool false, .string ⟨#[]⟩, .bool false, .string ⟨#[]⟩], .bool false] else .tuple #[FV (canQ v), .bool true]
theorem norm_hom {q : Z4} {v : Q4} {k : Rat} (hk : 0 < k) (h : toQ q = v.mul k) : normV q = planeV v := by
  unfold normV planeV
  have hf := flat_hom hk h
  by_cases hq : flatF q
  · rw [if_pos hq, if_pos (hf.1 hq)]
  · rw [if_neg hq, if_neg (fun e => hq (hf.2 e)), canQ_of hk h]
theorem quo_cancel {x y : Int} (h : x ≠ 0) : divq (x * y) x = y := by
  rw [divq_pos h, Int.mul_ediv_cancel_left _ h]
theorem mkQ_prog (n : P3) (d : Rat) : (Z4.mk (n.x.num * divq (1 * (n.x.den : Int) * n.y.den * n.z.den * d.den) n.x.den) (n.y.num * divq (1 * (n.x.den : Int) * n.y.den * n.z.den * d.den) n.y.den)
    (n.z.num * divq (1 * (n.x.den : Int) * n.y.den * n.z.den * d.den) n.z.den) (d.num * divq (1 * (n.x.den : Int) * n.y.den * n.z.den * d.den) d.den)) = homQ ⟨n.x, n.y, n.z, d⟩ := by
  have h : ∀ r : Rat, ((r.den : Nat) : Int) ≠ 0 := fun r => by have := r.den_nz; omega
  have e1 : (1 * (n.x.den : Int) * n.y.den * n.z.den * d.den) = n.x.den * ((n.y.den : Int) * n.z.den * d.den) := by simp only [Int.one_mul, Int.mul_assoc]
  have e2 : (1 * (n.x.den : Int) * n.y.den * n.z.den * d.den) = n.y.den * ((n.x.den : Int) * n.z.den * d.den) := by simp only [Int.one_mul, Int.mul_one, Int.mul_assoc, Int.mul_comm, Int.mul_left_comm]
  have e3 : (1 * (n.x.den : Int) * n.y.den * n.z.den * d.den) = n.z.den * ((n.x.den : Int) * n.y.den * d.den) := by simp only [Int.one_mul, Int.mul_one, Int.mul_assoc, Int.mul_comm, Int.mul_left_comm]
  have e4 : (1 * (n.x.den : Int) * n.y.den * n.z.den * d.den) = d.den * ((n.x.den : Int) * n.y.den * n.z.den) := by simp only [Int.one_mul, Int.mul_one, Int.mul_assoc, Int.mul_comm, Int.mul_left_comm]
  refine Z4.ext' ?_ ?_ ?_ ?_
  · show n.x.num * divq _ _ = _
    rw [e1, quo_cancel (h _)]; rfl
  · show n.y.num * divq _ _ = _
    rw [e2, quo_cancel (h _)]; rfl
  · show n.z.num * divq _ _ = _
    rw [e3, quo_cancel (h _)]; rfl
  · show d.num * divq _ _ = _
    rw [e4, quo_cancel (h _)]; rfl
theorem divInt_unit (z : Int) : Rat.divInt z 1 = (z : Rat) := Rat.mkRat_self (z : Rat)
theorem Fk.canQ {x y z d : Rat} {k : Nat} (hx : Rk x k) (hy : Rk y k) (hz : Rk z k) (hd : Rk d k) : Fk (canQ ⟨x, y, z, d⟩) (4 * k) := by
  refine Fk.prim ⟨?_, ?_, ?_, ?_⟩
  · exact Nat.le_trans (mg_mul_size hx.1 (mg_mul_size (mg_mul_size (mg_den hy) (mg_den hz)) (mg_den hd))) (by omega)
  · exact Nat.le_trans (mg_mul_size hy.1 (mg_mul_size (mg_mul_size (mg_den hx) (mg_den hz)) (mg_den hd))) (by omega)
  · exact Nat.le_trans (mg_mul_size hz.1 (mg_mul_size (mg_mul_size (mg_den hx) (mg_den hy)) (mg_den hd))) (by omega)
  · exact Nat.le_trans (mg_mul_size hd.1 (mg_mul_size (mg_mul_size (mg_den hx) (mg_den hy)) (mg_den hz))) (by omega)
end Go.Proofs.YtodcomijjmobdaaGreatDoor
