/- Planes: the mathematics of the laws. -/
import Derived.Test.YtpmfaommooneiaaGreatDoorVa
set_option linter.unusedVariables false
set_option linter.unusedSimpArgs false
namespace Go.Proofs.YtpmfaommooneiaaGreatDoor
open Go.RowKit NM SX

/-! Canonical form. -/
/-! Three points. -/
theorem thr_turn (a b c : P3) : thrQ b c a = thrQ a b c := by
  unfold thrQ crossP dotP
  refine Q4.ext' ?_ ?_ ?_ ?_ <;> (simp only []; grind)
theorem thr_back (a b c : P3) : thrQ c b a = negQ (thrQ a b c) := by
  unfold thrQ crossP dotP negQ
  refine Q4.ext' ?_ ?_ ?_ ?_ <;> (simp only []; grind)
theorem flat_negQ (v : Q4) : flatQ (negQ v) ↔ flatQ v := by
  unfold flatQ negQ
  constructor
  · rintro ⟨h1, h2, h3⟩; exact ⟨by grind, by grind, by grind⟩
  · rintro ⟨h1, h2, h3⟩; exact ⟨by grind, by grind, by grind⟩
theorem thr_on {a b c : P3} (h : ¬ flatQ (thrQ a b c)) : sideF (canQ (thrQ a b c)) a = 0 ∧ sideF (canQ (thrQ a b c)) b = 0 ∧ sideF (canQ (thrQ a b c)) c = 0 := by
  refine ⟨?_, ?_, ?_⟩
  all_goals
    rw [side_canQ h, sgQ_eq_zero]
    unfold thrQ crossP dotP
    simp only []
    grind

/-! Projection. -/
theorem lift_lift {q : Z4} (p : P3) : liftF q (liftF q p) = liftF q p := by
  unfold liftF
  split
  · rfl
  · split
    · rfl
    · rfl
theorem side_lift {q : Z4} (h : ¬ flatF q) (p : P3) : sideF q (liftF q p) = 0 := by
  unfold sideF
  rw [val_lift h]
  rfl
theorem lift_x {q : Z4} (h : axisF q ≠ 0) (p : P3) : (liftF q p).x = p.x := by
  unfold liftF
  rw [if_neg h]
  split <;> rfl
theorem lift_y {q : Z4} (h : axisF q ≠ 1) (p : P3) : (liftF q p).y = p.y := by
  unfold liftF
  split
  · rfl
  · first | rfl | (rw [if_neg h])
theorem lift_z {q : Z4} (h : axisF q ≠ 2) (p : P3) : (liftF q p).z = p.z := by
  have hl := axisF_lt q
  unfold liftF
  split
  · rfl
  · split
    · rfl
    · omega

/-! Offsets. -/
theorem shift_flat {q : Z4} (h : ¬ flatF q) (t : Rat) : ¬ flatQ (shiftQ q t) := flat_shift h
theorem abs_pos {q : Z4} (h : ¬ flatF q) : (0 : Rat) < (((coefF q (axisF q)).natAbs : Nat) : Int) := by
  have := coef_ne h
  have h1 : 0 < (((coefF q (axisF q)).natAbs : Nat) : Int) := by omega
  exact_mod_cast h1
theorem natAbs_rat (x : Int) : (((x.natAbs : Nat) : Int) : Rat) = if 0 ≤ x then (x : Rat) else -(x : Rat) := by
  split
  · rename_i h
    rw [Int.natAbs_of_nonneg h]
  · rename_i h
    have : ((x.natAbs : Nat) : Int) = -x := by omega
    rw [this, Rat.intCast_neg]
theorem abs_ratio {x y : Int} {k : Rat} (hk : 0 < k) (h : (x : Rat) = k * (y : Rat)) : (((x.natAbs : Nat) : Int) : Rat) = k * (((y.natAbs : Nat) : Int) : Rat) := by
  rw [natAbs_rat, natAbs_rat]
  have hx : 0 ≤ x ↔ 0 ≤ y := by
    have e1 : (0 : Rat) ≤ (x : Rat) ↔ (0 : Rat) ≤ (y : Rat) := by
      rw [h]
      constructor
      · intro h1
        rcases (Rat.le_total : (0 : Rat) ≤ (y : Rat) ∨ (y : Rat) ≤ 0) with h2 | h2
        · exact h2
        · have h3 : 0 ≤ k * (-(y : Rat)) := Rat.mul_nonneg (by grind) (by grind)
          have h4 : k * (y : Rat) = 0 := by grind
          have h5 : (y : Rat) = 0 := by grind
          grind
      · intro h1
        exact Rat.mul_nonneg (by grind) h1
    constructor
    · intro h0
      have h2 : (0 : Rat) ≤ (x : Rat) := by exact_mod_cast h0
      have h1 := e1.1 h2
      exact_mod_cast h1
    · intro h0
      have h2 : (0 : Rat) ≤ (y : Rat) := by exact_mod_cast h0
      have h1 := e1.2 h2
      exact_mod_cast h1
  by_cases h0 : 0 ≤ x
  · rw [if_pos h0, if_pos (hx.1 h0), h]
  · rw [if_neg h0, if_neg (fun e => h0 (hx.2 e)), h]
    grind
/-- The offset plane by a factor. -/
theorem shift_ex {q : Z4} (h : ¬ flatF q) (t : Rat) : ∃ k : Rat, 0 < k ∧ toQ (shiftF q t) = (shiftQ q t).mul k := canQ_ex (shift_flat h t)
theorem shift_axis {q : Z4} (h : ¬ flatF q) (t : Rat) : axisF (shiftF q t) = axisF q := by
  obtain ⟨k, hk, e⟩ := shift_ex h t
  have ha : ((shiftF q t).a : Rat) = k * (q.a : Rat) := congrArg Q4.a e
  have hb : ((shiftF q t).b : Rat) = k * (q.b : Rat) := congrArg Q4.b e
  have hc : ((shiftF q t).c : Rat) = k * (q.c : Rat) := congrArg Q4.c e
  have e2 := axis_ratio (p := ⟨(shiftF q t).a, (shiftF q t).b, (shiftF q t).c, 0⟩) (q := ⟨q.a, q.b, q.c, 0⟩) (k := k) (by grind) (by
    unfold toQ Q4.mul
    refine Q4.ext' ha hb hc ?_
    show ((0 : Int) : Rat) = k * ((0 : Int) : Rat)
    have : ((0 : Int) : Rat) = 0 := rfl
    grind)
  exact e2
theorem shift_coef {q : Z4} (h : ¬ flatF q) (t : Rat) {k : Rat} (e : toQ (shiftF q t) = (shiftQ q t).mul k) (i : Nat) : (coefF (shiftF q t) i : Rat) = k * (coefF q i : Rat) := by
  unfold coefF
  split
  · exact congrArg Q4.a e
  · split
    · exact congrArg Q4.b e
    · exact congrArg Q4.c e
theorem shift_none {q : Z4} (h : ¬ flatF q) (t : Rat) : ¬ flatF (shiftF q t) := canQ_flat (shift_flat h t)
theorem shift_back {q : Z4} (h : ¬ flatF q) (hp : prim q = q) (t : Rat) : shiftF (shiftF q t) (-t) = q := by
  obtain ⟨k, hk, e⟩ := shift_ex h t
  have hax := shift_axis h t
  have hco := abs_ratio hk (shift_coef h t e (axisF q))
  have ha : ((shiftF q t).a : Rat) = k * (q.a : Rat) := congrArg Q4.a e
  have hb : ((shiftF q t).b : Rat) = k * (q.b : Rat) := congrArg Q4.b e
  have hc : ((shiftF q t).c : Rat) = k * (q.c : Rat) := congrArg Q4.c e
  have hd : ((shiftF q t).d : Rat) = k * ((q.d : Rat) + t * (((coefF q (axisF q)).natAbs : Nat) : Int)) := congrArg Q4.d e
  have e2 : shiftQ (shiftF q t) (-t) = (toQ q).mul k := by
    unfold shiftQ
    rw [hax, hco]
    unfold toQ Q4.mul
    refine Q4.ext' ha hb hc ?_
    show ((shiftF q t).d : Rat) + -t * (k * (((coefF q (axisF q)).natAbs : Nat) : Int)) = k * (q.d : Rat)
    rw [hd]
    grind
  show canQ (shiftQ (shiftF q t) (-t)) = q
  rw [e2, canQ_mul hk, canQ_toQ, hp]
theorem neg_coef (q : Z4) (i : Nat) : coefF (negF q) i = -coefF q i := by
  unfold coefF negF
  split
  · rfl
  · split <;> rfl
theorem shift_neg {q : Z4} (t : Rat) : shiftF (negF q) (-t) = negF (shiftF q t) := by
  unfold shiftF
  rw [← canQ_neg]
  congr 1
  unfold shiftQ
  rw [axis_neg, neg_coef, Int.natAbs_neg]
  unfold negQ negF
  refine Q4.ext' ?_ ?_ ?_ ?_
  · exact Rat.intCast_neg _
  · exact Rat.intCast_neg _
  · exact Rat.intCast_neg _
  · show ((-q.d : Int) : Rat) + -t * _ = -((q.d : Rat) + t * _)
    rw [Rat.intCast_neg]
    grind
/-- A point that is translated along the axis. -/
def alongP (i : Nat) (p : P3) (t : Rat) : P3 := if i = 0 then ⟨p.x + t, p.y, p.z⟩ else if i = 1 then ⟨p.x, p.y + t, p.z⟩ else ⟨p.x, p.y, p.z + t⟩
theorem val_along (q : Z4) (i : Nat) (p : P3) (t : Rat) (v : Rat) (hv : (q.a : Rat) * p.x + q.b * p.y + q.c * p.z = v) : (q.a : Rat) * (alongP i p t).x + q.b * (alongP i p t).y + q.c * (alongP i p t).z = v + t * coefF q i := by
  unfold alongP coefF
  rw [← hv]
  split
  · simp only []; grind
  · split <;> (simp only []; grind)
theorem side_far {q : Z4} (h : ¬ flatF q) (t : Rat) {p : P3} (hp : valF q p = 0) : sideF (shiftF q t) p = -sgQ t := by
  have hpos := abs_pos h
  show sideF (canQ (shiftQ q t)) p = _
  rw [side_canQ (shift_flat h t), ← sgQ_opp, ← sgQ_mul_pos hpos (y := -t)]
  congr 1
  unfold valF at hp
  unfold shiftQ
  show (q.a : Rat) * p.x + q.b * p.y + q.c * p.z - ((q.d : Rat) + t * (((coefF q (axisF q)).natAbs : Nat) : Int)) = _
  grind
theorem side_moved {q : Z4} (h : ¬ flatF q) (t : Rat) {p : P3} (hp : valF q p = 0) : sideF (shiftF q t) (alongP (axisF q) p (if 0 < coefF q (axisF q) then t else -t)) = 0 := by
  show sideF (canQ (shiftQ q t)) _ = _
  rw [side_canQ (shift_flat h t), sgQ_eq_zero]
  unfold valF at hp
  have hv := val_along q (axisF q) p (if 0 < coefF q (axisF q) then t else -t) (q.d : Rat) (by grind)
  unfold shiftQ
  show (q.a : Rat) * _ + q.b * _ + q.c * _ - ((q.d : Rat) + t * (((coefF q (axisF q)).natAbs : Nat) : Int)) = 0
  rw [hv, natAbs_rat]
  have hne := coef_ne h
  split
  · rename_i h0
    rw [if_pos (by omega)]
    grind
  · rename_i h0
    rw [if_neg (by omega)]
    grind

/-! Order. -/
theorem cmpZ_swap (x y : Int) : cmpZ y x = -cmpZ x y := by
  unfold cmpZ
  split <;> (try split) <;> (try split) <;> (try split) <;> omega
theorem cmpZ_zero_iff {x y : Int} : cmpZ x y = 0 ↔ x = y := by
  unfold cmpZ
  split
  · constructor
    · intro h; omega
    · intro h; omega
  · split
    · constructor
      · intro _; omega
      · intro _; rfl
    · constructor
      · intro h; omega
      · intro h; omega
theorem cmpF_swap (p q : Z4) : cmpF q p = -cmpF p q := by
  unfold cmpF
  rw [cmpZ_swap p.a q.a, cmpZ_swap p.b q.b, cmpZ_swap p.c q.c, cmpZ_swap p.d q.d]
  split <;> split <;> (try split) <;> (try split) <;> (try split) <;> (try split) <;> omega
theorem cmpF_zero {p q : Z4} : cmpF p q = 0 ↔ p = q := by
  unfold cmpF
  constructor
  · intro h
    split at h
    · rename_i h1; exact absurd h h1
    · rename_i h1
      split at h
      · rename_i h2; exact absurd h h2
      · rename_i h2
        split at h
        · rename_i h3; exact absurd h h3
        · rename_i h3
          exact Z4.ext' (cmpZ_zero_iff.1 (by omega)) (cmpZ_zero_iff.1 (by omega)) (cmpZ_zero_iff.1 (by omega)) (cmpZ_zero_iff.1 h)
  · rintro rfl
    have e : ∀ x : Int, cmpZ x x = 0 := fun x => cmpZ_zero_iff.2 rfl
    simp [e]
theorem cmpZ_neg_iff {x y : Int} : cmpZ x y < 0 ↔ x < y := by
  unfold cmpZ
  split
  · constructor
    · intro _; assumption
    · intro _; omega
  · split
    · constructor
      · intro h; omega
      · intro h; omega
    · constructor
      · intro h; omega
      · intro h; omega
theorem cmpF_lt {p q : Z4} : cmpF p q < 0 ↔ p.a < q.a ∨ (p.a = q.a ∧ (p.b < q.b ∨ (p.b = q.b ∧ (p.c < q.c ∨ (p.c = q.c ∧ p.d < q.d))))) := by
  have za : cmpZ p.a q.a = 0 ↔ p.a = q.a := cmpZ_zero_iff
  have zb : cmpZ p.b q.b = 0 ↔ p.b = q.b := cmpZ_zero_iff
  have zc : cmpZ p.c q.c = 0 ↔ p.c = q.c := cmpZ_zero_iff
  have la : cmpZ p.a q.a < 0 ↔ p.a < q.a := cmpZ_neg_iff
  have lb : cmpZ p.b q.b < 0 ↔ p.b < q.b := cmpZ_neg_iff
  have lc : cmpZ p.c q.c < 0 ↔ p.c < q.c := cmpZ_neg_iff
  have ld : cmpZ p.d q.d < 0 ↔ p.d < q.d := cmpZ_neg_iff
  unfold cmpF
  split
  · omega
  · split
    · omega
    · split
      · omega
      · omega
theorem cmpF_trans {p q r : Z4} (h1 : cmpF p q < 0) (h2 : cmpF q r < 0) : cmpF p r < 0 := by
  rw [cmpF_lt] at *
  omega

/-! Factors. -/
theorem Rk.lifted {a b c d : Int} {y z : Rat} {k j : Nat} (ha : Zk a k) (hb : Zk b k) (hc : Zk c k) (hd : Zk d k) (hy : Rk y j) (hz : Rk z j) : Rk (((d : Rat) - b * y - c * z) / a) (4 * max k 1 + 2 * j + 3) :=
  (Is.quo (Rk.sub (Rk.sub (Rk.int hd) (Is.mul (Rk.int hb) hy)) (Is.mul (Rk.int hc) hz)) (Rk.int ha)).mono (by omega)
theorem Pk.lift {q : Z4} {p : P3} {k j : Nat} (hq : Fk q k) (hp : Pk p j) : Pk (liftF q p) (3 * (4 * max k 1 + 2 * max j 1 + 3)) := by
  refine Pk.ofV3 ?_
  obtain ⟨hx, hy, hz⟩ := Vk.ofP1 hp
  obtain ⟨qa, qb, qc, qd⟩ := hq
  have le : max j 1 ≤ 4 * max k 1 + 2 * max j 1 + 3 := by omega
  unfold liftF
  split
  · exact ⟨Rk.lifted qa qb qc qd hy hz, hy.mono le, hz.mono le⟩
  split
  · exact ⟨hx.mono le, Rk.lifted qb qa qc qd hx hz, hz.mono le⟩
  · exact ⟨hx.mono le, hy.mono le, Rk.lifted qc qa qb qd hx hy⟩
theorem Fk.shift {q : Z4} {h : Rat} {k j : Nat} (hq : Fk q k) (hh : Rk h j) : Fk (shiftF q h) (4 * (2 * max k 1 + max j 1 + 1)) := by
  obtain ⟨qa, qb, qc, qd⟩ := hq
  have le : max k 1 ≤ 2 * max k 1 + max j 1 + 1 := by omega
  have hc : ∀ i, Zk ((coefF q i).natAbs : Int) k := by
    intro i
    unfold coefF
    have hz : ∀ z : Int, Zk z k → Zk (z.natAbs : Int) k := fun z h => h
    split
    · exact hz _ qa
    split
    · exact hz _ qb
    · exact hz _ qc
  unfold shiftF shiftQ
  exact Fk.canQ ((Rk.int qa).mono le) ((Rk.int qb).mono le) ((Rk.int qc).mono le) ((Rk.add (Rk.int qd) (Is.mul hh (Rk.int (hc _)))).mono (by omega))
end Go.Proofs.YtpmfaommooneiaaGreatDoor
