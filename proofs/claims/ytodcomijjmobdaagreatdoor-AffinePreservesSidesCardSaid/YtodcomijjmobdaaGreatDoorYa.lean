/- Affine maps: the mathematics of the laws of layer 7. -/
import Derived.Test.YtodcomijjmobdaaGreatDoorUa
set_option linter.unusedVariables false
set_option linter.unusedSimpArgs false
namespace Go.Proofs.YtodcomijjmobdaaGreatDoor
open Go.RowKit NM SX

/-- Three rows of a map. -/
structure M3 where
  (x y z : Q4)
theorem M3.ext' {m n : M3} (h1 : m.x = n.x) (h2 : m.y = n.y) (h3 : m.z = n.z) : m = n := by
  cases m; cases n; cases h1; cases h2; cases h3; rfl
def rowM (r : Q4) (b : M3) : Q4 := ⟨0 + r.a * b.x.a + r.b * b.y.a + r.c * b.z.a, 0 + r.a * b.x.b + r.b * b.y.b + r.c * b.z.b, 0 + r.a * b.x.c + r.b * b.y.c + r.c * b.z.c, r.d + r.a * b.x.d + r.b * b.y.d + r.c * b.z.d⟩
/-- The composition: first b, then a. -/
def compM (a b : M3) : M3 := ⟨rowM a.x b, rowM a.y b, rowM a.z b⟩
def vecR (r : Q4) (p : P3) : Rat := r.d + r.a * p.x + r.b * p.y + r.c * p.z
def vecM (m : M3) (p : P3) : P3 := ⟨vecR m.x p, vecR m.y p, vecR m.z p⟩
def detM (m : M3) : Rat := 0 + m.x.a * (m.y.b * m.z.c - m.y.c * m.z.b) + m.x.b * (m.y.c * m.z.a - m.y.a * m.z.c) + m.x.c * (m.y.a * m.z.b - m.y.b * m.z.a)
def idM : M3 := ⟨⟨1, 0, 0, 0⟩, ⟨0, 1, 0, 0⟩, ⟨0, 0, 1, 0⟩⟩
def shiftM (v : P3) : M3 := ⟨⟨1, 0, 0, v.x⟩, ⟨0, 1, 0, v.y⟩, ⟨0, 0, 1, v.z⟩⟩
/-- The linear part of the inverse. -/
def linI (m : M3) : M3 := ⟨⟨(m.y.b * m.z.c - m.y.c * m.z.b) / detM m, (m.z.b * m.x.c - m.z.c * m.x.b) / detM m, (m.x.b * m.y.c - m.x.c * m.y.b) / detM m, 0⟩,
  ⟨(m.y.c * m.z.a - m.y.a * m.z.c) / detM m, (m.z.c * m.x.a - m.z.a * m.x.c) / detM m, (m.x.c * m.y.a - m.x.a * m.y.c) / detM m, 0⟩,
  ⟨(m.y.a * m.z.b - m.y.b * m.z.a) / detM m, (m.z.a * m.x.b - m.z.b * m.x.a) / detM m, (m.x.a * m.y.b - m.x.b * m.y.a) / detM m, 0⟩⟩
def lastM (m : M3) : P3 := ⟨m.x.d, m.y.d, m.z.d⟩
def invM (m : M3) : M3 := ⟨⟨(linI m).x.a, (linI m).x.b, (linI m).x.c, -(vecM (linI m) (lastM m)).x⟩, ⟨(linI m).y.a, (linI m).y.b, (linI m).y.c, -(vecM (linI m) (lastM m)).y⟩, ⟨(linI m).z.a, (linI m).z.b, (linI m).z.c, -(vecM (linI m) (lastM m)).z⟩⟩
/-- A plane's left side minus the right one, behind a map. -/
def planeR (b : M3) (v : Q4) : Q4 := ⟨0 + v.a * b.x.a + v.b * b.y.a + v.c * b.z.a, 0 + v.a * b.x.b + v.b * b.y.b + v.c * b.z.b, 0 + v.a * b.x.c + v.b * b.y.c + v.c * b.z.c, v.d - v.a * b.x.d - v.b * b.y.d - v.c * b.z.d⟩
def planeM (m : M3) (q : Z4) : Z4 := canQ (planeR (invM m) (toQ q))

/-! Compositions. -/
theorem vec_comp (a b : M3) (p : P3) : vecM (compM a b) p = vecM a (vecM b p) := by
  unfold vecM compM vecR rowM
  refine P3.ext' ?_ ?_ ?_ <;> (simp only []; grind)
theorem row_comp (r : Q4) (b c : M3) : rowM (rowM r b) c = rowM r (compM b c) := by
  unfold compM rowM
  refine Q4.ext' ?_ ?_ ?_ ?_ <;> (simp only []; grind)
theorem comp_assoc (a b c : M3) : compM (compM a b) c = compM a (compM b c) := M3.ext' (row_comp _ _ _) (row_comp _ _ _) (row_comp _ _ _)
theorem row_id (r : Q4) : rowM r idM = r := by
  unfold rowM idM
  refine Q4.ext' ?_ ?_ ?_ ?_ <;> (simp only []; grind)
theorem comp_id (m : M3) : compM m idM = m := M3.ext' (row_id _) (row_id _) (row_id _)
theorem id_comp (m : M3) : compM idM m = m := by
  unfold compM rowM idM
  refine M3.ext' ?_ ?_ ?_ <;> (refine Q4.ext' ?_ ?_ ?_ ?_ <;> (simp only []; grind))
theorem vec_id (p : P3) : vecM idM p = p := by
  unfold vecM vecR idM
  refine P3.ext' ?_ ?_ ?_ <;> (simp only []; grind)
theorem det_id : detM idM = 1 := by
  unfold detM idM
  grind
theorem det_comp (a b : M3) : detM (compM a b) = detM a * detM b := by
  unfold detM compM rowM
  simp only []
  generalize a.x.a = a1
  generalize a.x.b = a2
  generalize a.x.c = a3
  generalize a.y.a = a4
  generalize a.y.b = a5
  generalize a.y.c = a6
  generalize a.z.a = a7
  generalize a.z.b = a8
  generalize a.z.c = a9
  generalize b.x.a = b1
  generalize b.x.b = b2
  generalize b.x.c = b3
  generalize b.y.a = b4
  generalize b.y.b = b5
  generalize b.y.c = b6
  generalize b.z.a = b7
  generalize b.z.b = b8
  generalize b.z.c = b9
  grind
/-! The inverse. -/
theorem inv_left {m : M3} (h : detM m ≠ 0) : compM (invM m) m = idM := by
  have e := Rat.mul_inv_cancel _ h
  unfold compM rowM invM linI vecM vecR lastM idM
  simp only [Rat.div_def]
  revert e
  generalize (detM m)⁻¹ = I
  unfold detM
  intro e
  refine M3.ext' ?_ ?_ ?_ <;> (refine Q4.ext' ?_ ?_ ?_ ?_ <;> (simp only []; grind))
theorem inv_right {m : M3} (h : detM m ≠ 0) : compM m (invM m) = idM := by
  have e := Rat.mul_inv_cancel _ h
  unfold compM rowM invM linI vecM vecR lastM idM
  simp only [Rat.div_def]
  revert e
  generalize (detM m)⁻¹ = I
  unfold detM
  intro e
  refine M3.ext' ?_ ?_ ?_ <;> (refine Q4.ext' ?_ ?_ ?_ ?_ <;> (simp only []; grind))
theorem det_inv {m : M3} (h : detM m ≠ 0) : detM m * detM (invM m) = 1 := by rw [← det_comp, inv_right h, det_id]
theorem det_inv_ne {m : M3} (h : detM m ≠ 0) : detM (invM m) ≠ 0 := by
  intro e
  have := det_inv h
  rw [e] at this
  grind
theorem inv_inv {m : M3} (h : detM m ≠ 0) : invM (invM m) = m := by
  have h2 := det_inv_ne h
  calc invM (invM m) = compM (invM (invM m)) (compM (invM m) m) := by rw [inv_left h, comp_id]
    _ = compM (compM (invM (invM m)) (invM m)) m := (comp_assoc _ _ _).symm
    _ = m := by rw [inv_left h2, id_comp]
theorem inv_vec {m : M3} (h : detM m ≠ 0) (p : P3) : vecM (invM m) (vecM m p) = p := by rw [← vec_comp, inv_left h, vec_id]
theorem vec_inv {m : M3} (h : detM m ≠ 0) (p : P3) : vecM m (vecM (invM m) p) = p := by rw [← vec_comp, inv_right h, vec_id]

/-! Planes. -/
theorem planeR_comp (a b : M3) (v : Q4) : planeR a (planeR b v) = planeR (compM b a) v := by
  unfold planeR compM rowM
  refine Q4.ext' ?_ ?_ ?_ ?_ <;> (simp only []; grind)
theorem planeR_id (v : Q4) : planeR idM v = v := by
  unfold planeR idM
  refine Q4.ext' ?_ ?_ ?_ ?_ <;> (simp only []; grind)
theorem planeR_mul (b : M3) (v : Q4) (k : Rat) : planeR b (v.mul k) = (planeR b v).mul k := by
  unfold planeR Q4.mul
  refine Q4.ext' ?_ ?_ ?_ ?_ <;> (simp only []; grind)
theorem flat_planeR {b : M3} {v : Q4} (h : flatQ v) : flatQ (planeR b v) := by
  obtain ⟨h1, h2, h3⟩ := h
  unfold planeR
  refine ⟨?_, ?_, ?_⟩ <;> (simp only [h1, h2, h3]; grind)
theorem flat_toQ (q : Z4) : flatQ (toQ q) ↔ flatF q := by
  have key : ∀ x : Int, (x : Rat) = 0 ↔ x = 0 := by
    intro x
    constructor
    · intro h; exact_mod_cast h
    · rintro rfl; rfl
  unfold flatQ flatF toQ
  rw [key, key, key]
theorem planeM_flat {m : M3} {q : Z4} (h : detM m ≠ 0) (hq : ¬ flatF q) : ¬ flatQ (planeR (invM m) (toQ q)) := by
  intro e
  have := flat_planeR (b := m) e
  rw [planeR_comp, inv_left h, planeR_id] at this
  exact hq ((flat_toQ q).1 this)
theorem planeM_val (b : M3) (q : Z4) (p : P3) : (planeR b (toQ q)).a * p.x + (planeR b (toQ q)).b * p.y + (planeR b (toQ q)).c * p.z - (planeR b (toQ q)).d = valF q (vecM b p) := by
  unfold planeR toQ valF vecM vecR
  simp only []
  grind
theorem planeM_side {m : M3} {q : Z4} (h : detM m ≠ 0) (hq : ¬ flatF q) (p : P3) : sideF (planeM m q) p = sideF q (vecM (invM m) p) := by
  unfold planeM
  rw [side_canQ (planeM_flat h hq), planeM_val]
  rfl
theorem planeM_keep {m : M3} {q : Z4} (h : detM m ≠ 0) (hq : ¬ flatF q) (p : P3) : sideF (planeM m q) (vecM m p) = sideF q p := by rw [planeM_side h hq, inv_vec h]
theorem canQ_mulA {v : Q4} {k : Rat} (hk : 0 < k) : canQ (v.mul k) = canQ v := by
  refine canQ_of (k := denQ (v.mul k) * k) (Rat.mul_pos (denQ_pos _) hk) ?_
  rw [toQ_hom]
  unfold Q4.mul
  refine Q4.ext' ?_ ?_ ?_ ?_ <;> (show denQ _ * (k * _) = _; grind)
theorem canQ_toQA (q : Z4) : canQ (toQ q) = prim q := by
  refine (canQ_of (k := 1) (by decide) ?_).symm
  unfold Q4.mul toQ
  refine Q4.ext' ?_ ?_ ?_ ?_ <;> (show _ = (1 : Rat) * _; grind)
theorem planeM_back {m : M3} {q : Z4} (h : detM m ≠ 0) (hq : ¬ flatF q) : planeM (invM m) (planeM m q) = prim q := by
  obtain ⟨k, hk, e⟩ := canQ_ex (planeM_flat h hq)
  unfold planeM
  rw [e, planeR_mul, planeR_comp, inv_inv h, inv_left h, planeR_id, canQ_mulA hk, canQ_toQA]

/-! Reflections. -/
def sqF (q : Z4) : Rat := 0 + (q.a : Rat) * q.a + (q.b : Rat) * q.b + (q.c : Rat) * q.c
def mirM (q : Z4) : M3 := ⟨⟨1 - 2 * (q.a : Rat) / sqF q * q.a, 0 - 2 * (q.a : Rat) / sqF q * q.b, 0 - 2 * (q.a : Rat) / sqF q * q.c, 2 * (q.a : Rat) / sqF q * q.d⟩,
  ⟨0 - 2 * (q.b : Rat) / sqF q * q.a, 1 - 2 * (q.b : Rat) / sqF q * q.b, 0 - 2 * (q.b : Rat) / sqF q * q.c, 2 * (q.b : Rat) / sqF q * q.d⟩,
  ⟨0 - 2 * (q.c : Rat) / sqF q * q.a, 0 - 2 * (q.c : Rat) / sqF q * q.b, 1 - 2 * (q.c : Rat) / sqF q * q.c, 2 * (q.c : Rat) / sqF q * q.d⟩⟩
theorem sq_ne {q : Z4} (h : ¬ flatF q) : sqF q ≠ 0 := by
  intro e
  apply h
  rw [← flat_toQ]
  unfold sqF at e
  have n : ∀ x : Rat, 0 ≤ x * x := fun x => by
    rcases (Rat.le_total : (0 : Rat) ≤ x ∨ x ≤ 0) with h | h
    · exact Rat.mul_nonneg h h
    · have := Rat.mul_nonneg (a := -x) (b := -x) (by grind) (by grind)
      grind
  have ha := n q.a
  have hb := n q.b
  have hc := n q.c
  have z : ∀ x : Rat, x * x = 0 → x = 0 := fun x hx => by
    rcases Rat.mul_eq_zero.1 hx with h | h <;> exact h
  refine ⟨z _ ?_, z _ ?_, z _ ?_⟩
  · show (q.a : Rat) * q.a = 0
    grind
  · show (q.b : Rat) * q.b = 0
    grind
  · show (q.c : Rat) * q.c = 0
    grind
theorem mir_vec (q : Z4) (p : P3) : vecM (mirM q) p = ⟨p.x - 2 * (q.a : Rat) / sqF q * valF q p, p.y - 2 * (q.b : Rat) / sqF q * valF q p, p.z - 2 * (q.c : Rat) / sqF q * valF q p⟩ := by
  unfold vecM vecR mirM valF
  simp only [Rat.div_def]
  generalize (sqF q)⁻¹ = I
  refine P3.ext' ?_ ?_ ?_ <;> (simp only []; grind)
theorem mir_val {q : Z4} (h : ¬ flatF q) (p : P3) : valF q (vecM (mirM q) p) = -valF q p := by
  have e := Rat.mul_inv_cancel _ (sq_ne h)
  rw [mir_vec]
  generalize hv : valF q p = V
  unfold valF at hv ⊢
  simp only [Rat.div_def]
  revert e
  generalize (sqF q)⁻¹ = I
  unfold sqF
  intro e
  grind
theorem mir_side {q : Z4} (h : ¬ flatF q) (p : P3) : sideF q (vecM (mirM q) p) = -sideF q p := by
  unfold sideF
  rw [mir_val h, sgQ_opp]
theorem mir_comp {q : Z4} (h : ¬ flatF q) : compM (mirM q) (mirM q) = idM := by
  have e := Rat.mul_inv_cancel _ (sq_ne h)
  unfold compM rowM mirM idM
  simp only [Rat.div_def]
  revert e
  generalize (sqF q)⁻¹ = I
  unfold sqF
  intro e
  refine M3.ext' ?_ ?_ ?_ <;> (refine Q4.ext' ?_ ?_ ?_ ?_ <;> (simp only []; grind))
theorem mir_mir {q : Z4} (h : ¬ flatF q) (p : P3) : vecM (mirM q) (vecM (mirM q) p) = p := by rw [← vec_comp, mir_comp h, vec_id]
theorem mir_det {q : Z4} (h : ¬ flatF q) : detM (mirM q) = -1 := by
  have e := Rat.mul_inv_cancel _ (sq_ne h)
  unfold detM mirM
  simp only [Rat.div_def]
  revert e
  generalize (sqF q)⁻¹ = I
  unfold sqF
  intro e
  grind
theorem mir_fix {q : Z4} {p : P3} (h : sideF q p = 0) : vecM (mirM q) p = p := by
  have hv : valF q p = 0 := sgQ_eq_zero.1 h
  rw [mir_vec, hv]
  refine P3.ext' ?_ ?_ ?_ <;> (simp only []; grind)
theorem mir_half {q : Z4} (h : ¬ flatF q) (p : P3) : sideF q (lerp p (vecM (mirM q) p) (1 / 2)) = 0 := by
  have hv := mir_val h p
  unfold sideF
  rw [sgQ_eq_zero]
  generalize vecM (mirM q) p = r at *
  unfold valF at hv ⊢
  unfold lerp
  simp only []
  grind
end Go.Proofs.YtodcomijjmobdaaGreatDoor
