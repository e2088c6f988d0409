/- Intersections: the mathematics of the laws of layer 6. -/
import Derived.Test.YtfapglafeghggaaGreatDoorVm
set_option linter.unusedVariables false
set_option linter.unusedSimpArgs false
namespace Go.Proofs.YtfapglafeghggaaGreatDoor
open Go.RowKit NM SX

/-! Vectors. -/
def subP (b a : P3) : P3 := ⟨b.x - a.x, b.y - a.y, b.z - a.z⟩
def dot3 (a b : P3) : Rat := a.x * b.x + a.y * b.y + a.z * b.z
def mulP (a : P3) (t : Rat) : P3 := ⟨a.x * t, a.y * t, a.z * t⟩
def sumP (a b : P3) : P3 := ⟨a.x + b.x, a.y + b.y, a.z + b.z⟩
def nrmF (q : Z4) : P3 := ⟨q.a, q.b, q.c⟩
def noneP (v : P3) : Prop := v.x = 0 ∧ v.y = 0 ∧ v.z = 0
instance (v : P3) : Decidable (noneP v) := inferInstanceAs (Decidable (_ ∧ _ ∧ _))

/-! Three planes. -/
def detF (l m n : Z4) : Rat := dot3 (nrmF l) (crossP (nrmF m) (nrmF n))
def sumF (l m n : Z4) : P3 := sumP (sumP (mulP (crossP (nrmF m) (nrmF n)) l.d) (mulP (crossP (nrmF n) (nrmF l)) m.d)) (mulP (crossP (nrmF l) (nrmF m)) n.d)
def threeF (l m n : Z4) : P3 := ⟨(sumF l m n).x / detF l m n, (sumF l m n).y / detF l m n, (sumF l m n).z / detF l m n⟩
/-! A line and a plane. -/
def byF (p : Z4) (a b : P3) : Rat := dot3 (nrmF p) (subP b a)
def lineF (p : Z4) (a b : P3) : P3 := sumP a (mulP (subP b a) ((p.d - dot3 (nrmF p) a) / byF p a b))
/-! Orientation. -/
def straightP (a b c : P3) : Prop := noneP (crossP (subP b a) (subP c a))
instance (a b c : P3) : Decidable (straightP a b c) := inferInstanceAs (Decidable (noneP _))
theorem straight_thr (a b c : P3) : straightP a b c ↔ flatQ (thrQ a b c) := Iff.rfl
def detP (a b c d : P3) : Rat := dot3 (crossP (subP b a) (subP c a)) (subP d a)
def orientP (a b c d : P3) : Int := sgQ (detP a b c d)
theorem orient_flat {a b c : P3} (h : straightP a b c) (d : P3) : orientP a b c d = 0 := by
  unfold orientP
  rw [sgQ_eq_zero]
  unfold detP dot3
  rw [h.1, h.2.1, h.2.2]
  grind
theorem orient_side {a b c : P3} (h : ¬ straightP a b c) (d : P3) : sideF (canQ (thrQ a b c)) d = orientP a b c d := by
  rw [side_canQ (fun e => h ((straight_thr a b c).2 e))]
  unfold orientP
  congr 1
  unfold detP dot3 thrQ dotP crossP subP
  simp only []
  grind
theorem straight_bac (a b c : P3) : straightP b a c ↔ straightP a b c := by
  have e : thrQ b a c = negQ (thrQ a b c) := by rw [← thr_back a b c, ← thr_turn b a c, ← thr_turn a c b]
  rw [straight_thr, straight_thr, e, flat_negQ]
theorem straight_aba (a b : P3) : straightP a b a := by
  refine ⟨?_, ?_, ?_⟩ <;> (unfold crossP subP; simp only []; grind)
theorem straight_abb (a b : P3) : straightP a b b := by
  refine ⟨?_, ?_, ?_⟩ <;> (unfold crossP subP; simp only []; grind)
/-! Between; the common part. -/
def betP (a b x : P3) : Prop := straightP a b x ∧ cmpP a b ≠ 0 ∧ cmpP a x * cmpP x b = 1
instance (a b x : P3) : Decidable (betP a b x) := inferInstanceAs (Decidable (_ ∧ _ ∧ _))
theorem lerp_straight (a b : P3) (t : Rat) : straightP a b (lerp a b t) := by
  refine ⟨?_, ?_, ?_⟩ <;> (unfold crossP subP lerp; simp only []; grind)
theorem cmpP_scale {p q r s : P3} {k : Rat} (hk : 0 < k) (hx : r.x - s.x = k * (p.x - q.x)) (hy : r.y - s.y = k * (p.y - q.y)) (hz : r.z - s.z = k * (p.z - q.z)) : cmpP r s = cmpP p q := by
  unfold cmpP cmpQ
  rw [hx, hy, hz, sgQ_mul_pos hk, sgQ_mul_pos hk, sgQ_mul_pos hk]
theorem cmp_lerp (a b : P3) {t : Rat} (h : 0 < t) : cmpP a (lerp a b t) = cmpP a b := by
  refine cmpP_scale h ?_ ?_ ?_ <;> (unfold lerp; simp only []; grind)
theorem cmp_lerp' (a b : P3) {t : Rat} (h : t < 1) : cmpP (lerp a b t) b = cmpP a b := by
  refine cmpP_scale (k := 1 - t) (by grind) ?_ ?_ ?_ <;> (unfold lerp; simp only []; grind)
def lowP (a b : P3) : P3 := if 0 < cmpP a b then b else a
def topP (a b : P3) : P3 := if 0 < cmpP a b then a else b
/-- What the two segments share: the greater of the lower ends, the lesser of the upper ones. -/
def loS (a b c d : P3) : P3 := if 0 < cmpP (lowP c d) (lowP a b) then lowP c d else lowP a b
def hiS (a b c d : P3) : P3 := if cmpP (topP c d) (topP a b) < 0 then topP c d else topP a b
def shareP (a b c d : P3) : Prop := (cmpP a b ≠ 0 ∧ cmpP c d ≠ 0 ∧ straightP a b c ∧ straightP a b d) ∧ cmpP (loS a b c d) (hiS a b c d) < 0
instance (a b c d : P3) : Decidable (shareP a b c d) := inferInstanceAs (Decidable ((_ ∧ _ ∧ _ ∧ _) ∧ _))
theorem low_top_lt {a b : P3} (h : cmpP a b ≠ 0) : cmpP (lowP a b) (topP a b) < 0 := by
  have hs := cmpP_swap a b
  unfold lowP topP
  split <;> omega
theorem low_swap {a b : P3} : lowP b a = lowP a b := by
  have hs := cmpP_swap a b
  have hz := @cmpP_zero a b
  unfold lowP
  by_cases h : cmpP a b = 0
  · have := hz.1 h
    subst this
    rfl
  · split <;> split <;> first | rfl | omega
theorem top_swap {a b : P3} : topP b a = topP a b := by
  have hs := cmpP_swap a b
  have hz := @cmpP_zero a b
  unfold topP
  by_cases h : cmpP a b = 0
  · have := hz.1 h
    subst this
    rfl
  · split <;> split <;> first | rfl | omega
theorem share_whole {a b : P3} (h : cmpP a b ≠ 0) : shareP a b b a ∧ loS a b b a = lowP a b ∧ hiS a b b a = topP a b := by
  have hl : loS a b b a = lowP a b := by
    unfold loS
    rw [low_swap, cmpP_self]
    rfl
  have hh : hiS a b b a = topP a b := by
    unfold hiS
    rw [top_swap, cmpP_self]
    rfl
  refine ⟨⟨⟨h, ?_, straight_abb a b, straight_aba a b⟩, ?_⟩, hl, hh⟩
  · rw [cmpP_swap a b]; omega
  · rw [hl, hh]; exact low_top_lt h
theorem straight_axb (a b : P3) (t : Rat) : straightP a (lerp a b t) b := by
  refine ⟨?_, ?_, ?_⟩ <;> (unfold crossP subP lerp; simp only []; grind)
theorem share_part {a b : P3} {t : Rat} (h0 : 0 < t) (h1 : t < 1) (h : cmpP a b ≠ 0) : shareP a (lerp a b t) a b ∧ loS a (lerp a b t) a b = lowP a (lerp a b t) ∧ hiS a (lerp a b t) a b = topP a (lerp a b t) := by
  have c1 := cmp_lerp a b h0
  have c2 := cmp_lerp' a b h1
  have hs := straight_axb a b t
  have ha := straight_aba a (lerp a b t)
  generalize lerp a b t = x at *
  have s1 := cmpP_swap a b
  have s2 := cmpP_swap a x
  have s3 := cmpP_swap x b
  have sa := cmpP_self a
  have sx := cmpP_self x
  have hl : loS a x a b = lowP a x := by
    unfold loS lowP
    split <;> split <;> (try rw [if_pos (by omega)]) <;> (try rw [if_neg (by omega)]) <;> first | rfl | omega
  have hh : hiS a x a b = topP a x := by
    unfold hiS topP
    split <;> split <;> (try rw [if_pos (by omega)]) <;> (try rw [if_neg (by omega)]) <;> first | rfl | omega
  refine ⟨⟨⟨by omega, h, ha, hs⟩, ?_⟩, hl, hh⟩
  rw [hl, hh]
  exact low_top_lt (by omega)
theorem share_none {a b : P3} {t : Rat} (h0 : 0 < t) (h1 : t < 1) : ¬ shareP a (lerp a b t) (lerp a b t) b := by
  have c1 := cmp_lerp a b h0
  have c2 := cmp_lerp' a b h1
  generalize lerp a b t = x at *
  have s2 := cmpP_swap a x
  have s3 := cmpP_swap x b
  have sx := cmpP_self x
  rintro ⟨_, k⟩
  by_cases hp : 0 < cmpP a b
  · have l1 : lowP a x = x := if_pos (by omega)
    have l2 : lowP x b = b := if_pos (by omega)
    have t1 : topP a x = a := if_pos (by omega)
    have t2 : topP x b = x := if_pos (by omega)
    unfold loS hiS at k
    rw [l1, l2, t1, t2, if_neg (by omega), if_pos (by omega)] at k
    omega
  · have l1 : lowP a x = a := if_neg (by omega)
    have l2 : lowP x b = x := if_neg (by omega)
    have t1 : topP a x = x := if_neg (by omega)
    have t2 : topP x b = b := if_neg (by omega)
    unfold loS hiS at k
    rw [l1, l2, t1, t2, if_pos (by omega), if_neg (by omega)] at k
    omega
theorem bet_yes {a b : P3} {t : Rat} (h0 : 0 < t) (h1 : t < 1) (h : cmpP a b ≠ 0) : betP a b (lerp a b t) := by
  have hb := cmpP_bd a b
  refine ⟨lerp_straight a b t, h, ?_⟩
  rw [cmp_lerp a b h0, cmp_lerp' a b h1]
  rcases (show cmpP a b = 1 ∨ cmpP a b = -1 by omega) with e | e <;> rw [e] <;> rfl
theorem bet_yes' {a b : P3} {t : Rat} (h0 : 0 < t) (h1 : t < 1) (h : cmpP a b ≠ 0) : betP b a (lerp a b t) := by
  have hb := cmpP_bd a b
  refine ⟨(straight_bac a b _).2 (lerp_straight a b t), ?_, ?_⟩
  · rw [cmpP_swap a b]; omega
  · rw [cmpP_swap (lerp a b t) b, cmpP_swap a (lerp a b t), cmp_lerp a b h0, cmp_lerp' a b h1]
    rcases (show cmpP a b = 1 ∨ cmpP a b = -1 by omega) with e | e <;> rw [e] <;> rfl
theorem bet_no {a b : P3} {t : Rat} (h1 : t < 1) (h : cmpP a b ≠ 0) : ¬ betP a (lerp a b t) b := by
  rintro ⟨_, _, k⟩
  have hb := cmpP_bd a b
  rw [cmpP_swap (lerp a b t) b, cmp_lerp' a b h1] at k
  rcases (show cmpP a b = 1 ∨ cmpP a b = -1 by omega) with e | e <;> rw [e] at k <;> omega
theorem lerp_same (a : P3) (t : Rat) : lerp a a t = a := by
  refine P3.ext' ?_ ?_ ?_ <;> (unfold lerp; simp only []; grind)
end Go.Proofs.YtfapglafeghggaaGreatDoor
