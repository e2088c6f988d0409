/- Intersections: the mathematics of the laws of layer 6. -/
import Derived.Test.YtfapglafeghggaaDoorVm
set_option linter.unusedVariables false
set_option linter.unusedSimpArgs false
namespace Go.Proofs.YtfapglafeghggaaDoor
open Go.RowKit NM SX

/-! Vectors. -/
def subP (b a : P3) : P3 := ⟨b.x - a.x, b.y - a.y, b.z - a.z⟩
def dot3 (a b : P3) : Rat := a.x * b.x + a.y * b.y + a.z * b.z
def mulP (a : P3) (t : Rat) : P3 := ⟨a.x * t, a.y * t, a.z * t⟩
def sumP (a b : P3) : P3 := ⟨a.x + b.x, a.y + b.y, a.z + b.z⟩
def nrmF (q : Z4) : P3 := ⟨q.a, q.b, q.c⟩
def noneP (v : P3) : Prop := v.x = 0 ∧ v.y = 0 ∧ v.z = 0
instance (v : P3) : Decidable (noneP v) := inferInstanceAs (Decidable (_ ∧ _ ∧ _))

/-! Three planes. -/
def detF (l m n : Z4) : Rat := dot3 (nrmF l) (crossP (nrmF m) (nrmF n))
def sumF (l m n : Z4) : P3 := sumP (sumP (mulP (crossP (nrmF m) (nrmF n)) l.d) (mulP (crossP (nrmF n) (nrmF l)) m.d)) (mulP (crossP (nrmF l) (nrmF m)) n.d)
def threeF (l m n : Z4) : P3 := ⟨(sumF l m n).x / detF l m n, (sumF l m n).y / detF l m n, (sumF l m n).z / detF l m n⟩
theorem det_turn (l m n : Z4) : detF n l m = detF l m n := by
  unfold detF dot3 crossP nrmF
  simp only []
  grind
theorem sum_turn (l m n : Z4) : sumF n l m = sumF l m n := by
  unfold sumF sumP mulP crossP nrmF
  refine P3.ext' ?_ ?_ ?_ <;> (simp only []; grind)
theorem three_turn (l m n : Z4) : threeF n l m = threeF l m n := by
  unfold threeF
  rw [det_turn, sum_turn]
theorem frac_on {a b c d u v w D : Rat} (hD : D ≠ 0) (h : a * u + b * v + c * w = d * D) : a * (u / D) + b * (v / D) + c * (w / D) - d = 0 := by
  rw [Rat.div_def, Rat.div_def, Rat.div_def]
  have e := Rat.mul_inv_cancel D hD
  generalize D⁻¹ = I at *
  grind
theorem three_key (l m n : Z4) : (l.a : Rat) * (sumF l m n).x + l.b * (sumF l m n).y + l.c * (sumF l m n).z = l.d * detF l m n := by
  unfold sumF sumP mulP detF dot3 crossP nrmF
  simp only []
  grind
theorem three_on1 {l m n : Z4} (h : detF l m n ≠ 0) : sideF l (threeF l m n) = 0 := by
  unfold sideF
  rw [sgQ_eq_zero]
  exact frac_on h (three_key l m n)
theorem three_on {l m n : Z4} (h : detF l m n ≠ 0) : sideF l (threeF l m n) = 0 ∧ sideF m (threeF l m n) = 0 ∧ sideF n (threeF l m n) = 0 := by
  refine ⟨three_on1 h, ?_, ?_⟩
  · rw [show threeF l m n = threeF m n l by rw [← three_turn m n l]]
    exact three_on1 (by rw [← det_turn m n l]; exact h)
  · rw [← three_turn l m n]
    exact three_on1 (by rw [det_turn]; exact h)

/-! A line and a plane. -/
def byF (p : Z4) (a b : P3) : Rat := dot3 (nrmF p) (subP b a)
def lineF (p : Z4) (a b : P3) : P3 := sumP a (mulP (subP b a) ((p.d - dot3 (nrmF p) a) / byF p a b))
theorem line_on {p : Z4} {a b : P3} (h : byF p a b ≠ 0) : sideF p (lineF p a b) = 0 := by
  unfold sideF
  rw [sgQ_eq_zero]
  unfold valF lineF sumP mulP
  have hb : byF p a b = p.a * (b.x - a.x) + p.b * (b.y - a.y) + p.c * (b.z - a.z) := rfl
  have hd : dot3 (nrmF p) a = p.a * a.x + p.b * a.y + p.c * a.z := rfl
  have ex : (subP b a).x = b.x - a.x := rfl
  have ey : (subP b a).y = b.y - a.y := rfl
  have ez : (subP b a).z = b.z - a.z := rfl
  simp only [ex, ey, ez]
  rw [Rat.div_def]
  have e := Rat.mul_inv_cancel _ h
  generalize byF p a b = D at *
  generalize D⁻¹ = I at *
  rw [hd]
  grind
theorem line_par {p : Z4} {a b : P3} (h : byF p a b = 0) : sideF p a = sideF p b := by
  unfold sideF
  congr 1
  have hb : byF p a b = p.a * (b.x - a.x) + p.b * (b.y - a.y) + p.c * (b.z - a.z) := rfl
  rw [hb] at h
  unfold valF
  grind
theorem by_back (p : Z4) (a b : P3) : byF (negF p) b a = byF p a b := by
  unfold byF dot3 nrmF subP negF
  simp only [Rat.intCast_neg]
  grind
theorem line_back {p : Z4} {a b : P3} (h : byF p a b ≠ 0) : lineF (negF p) b a = lineF p a b := by
  unfold lineF
  rw [by_back]
  have hb : byF p a b = p.a * (b.x - a.x) + p.b * (b.y - a.y) + p.c * (b.z - a.z) := rfl
  have hd : dot3 (nrmF p) a = p.a * a.x + p.b * a.y + p.c * a.z := rfl
  have hd2 : dot3 (nrmF (negF p)) b = -(p.a * b.x + p.b * b.y + p.c * b.z) := by
    unfold dot3 nrmF negF
    simp only [Rat.intCast_neg]
    grind
  have hn : (((negF p).d : Int) : Rat) = -(p.d : Rat) := Rat.intCast_neg _
  rw [hd, hd2, hn, Rat.div_def, Rat.div_def]
  have e := Rat.mul_inv_cancel _ h
  generalize byF p a b = D at *
  generalize D⁻¹ = I at *
  unfold sumP mulP subP
  refine P3.ext' ?_ ?_ ?_ <;> (simp only []; grind)

/-! Orientation. -/
def straightP (a b c : P3) : Prop := noneP (crossP (subP b a) (subP c a))
instance (a b c : P3) : Decidable (straightP a b c) := inferInstanceAs (Decidable (noneP _))
theorem straight_thr (a b c : P3) : straightP a b c ↔ flatQ (thrQ a b c) := Iff.rfl
def detP (a b c d : P3) : Rat := dot3 (crossP (subP b a) (subP c a)) (subP d a)
def orientP (a b c d : P3) : Int := sgQ (detP a b c d)
theorem orient_flat {a b c : P3} (h : straightP a b c) (d : P3) : orientP a b c d = 0 := by
  unfold orientP
  rw [sgQ_eq_zero]
  unfold detP dot3
  rw [h.1, h.2.1, h.2.2]
  grind
theorem orient_side {a b c : P3} (h : ¬ straightP a b c) (d : P3) : sideF (canQ (thrQ a b c)) d = orientP a b c d := by
  rw [side_canQ (fun e => h ((straight_thr a b c).2 e))]
  unfold orientP
  congr 1
  unfold detP dot3 thrQ dotP crossP subP
  simp only []
  grind
theorem orient_ba (a b c d : P3) : orientP b a c d = -orientP a b c d := by
  unfold orientP
  rw [← sgQ_opp]
  congr 1
  unfold detP dot3 crossP subP
  simp only []
  grind
theorem orient_bca (a b c d : P3) : orientP b c a d = orientP a b c d := by
  unfold orientP
  congr 1
  unfold detP dot3 crossP subP
  simp only []
  grind
theorem orient_dc (a b c d : P3) : orientP a b d c = -orientP a b c d := by
  unfold orientP
  rw [← sgQ_opp]
  congr 1
  unfold detP dot3 crossP subP
  simp only []
  grind
theorem orient_da (a b c d : P3) : orientP d b c a = -orientP a b c d := by
  unfold orientP
  rw [← sgQ_opp]
  congr 1
  unfold detP dot3 crossP subP
  simp only []
  grind
theorem orient_aa (a b c : P3) : orientP a b c a = 0 := by
  unfold orientP
  rw [sgQ_eq_zero]
  unfold detP dot3 crossP subP
  simp only []
  grind
theorem orient_aab (a b c : P3) : orientP a a b c = 0 := by
  unfold orientP
  rw [sgQ_eq_zero]
  unfold detP dot3 crossP subP
  simp only []
  grind
theorem orient_bd (a b c d : P3) : -1 ≤ orientP a b c d ∧ orientP a b c d ≤ 1 := sgQ_bd _
theorem straight_cab (a b c : P3) : straightP c a b ↔ straightP a b c := by
  rw [straight_thr, straight_thr, thr_turn b c a, thr_turn a b c]
theorem straight_bac (a b c : P3) : straightP b a c ↔ straightP a b c := by
  have e : thrQ b a c = negQ (thrQ a b c) := by rw [← thr_back a b c, ← thr_turn b a c, ← thr_turn a c b]
  rw [straight_thr, straight_thr, e, flat_negQ]
theorem straight_aba (a b : P3) : straightP a b a := by
  refine ⟨?_, ?_, ?_⟩ <;> (unfold crossP subP; simp only []; grind)
theorem line_straight (p : Z4) (a b : P3) : straightP a b (lineF p a b) := by
  unfold lineF
  generalize (p.d - dot3 (nrmF p) a) / byF p a b = t
  refine ⟨?_, ?_, ?_⟩ <;> (unfold crossP subP sumP mulP; simp only []; grind)

/-! Between; the common part. -/
def betP (a b x : P3) : Prop := straightP a b x ∧ cmpP a b ≠ 0 ∧ cmpP a x * cmpP x b = 1
instance (a b x : P3) : Decidable (betP a b x) := inferInstanceAs (Decidable (_ ∧ _ ∧ _))
def lowP (a b : P3) : P3 := if 0 < cmpP a b then b else a
def topP (a b : P3) : P3 := if 0 < cmpP a b then a else b
/-- What the two segments share: the greater of the lower ends, the lesser of the upper ones. -/
def loS (a b c d : P3) : P3 := if 0 < cmpP (lowP c d) (lowP a b) then lowP c d else lowP a b
def hiS (a b c d : P3) : P3 := if cmpP (topP c d) (topP a b) < 0 then topP c d else topP a b
def shareP (a b c d : P3) : Prop := (cmpP a b ≠ 0 ∧ cmpP c d ≠ 0 ∧ straightP a b c ∧ straightP a b d) ∧ cmpP (loS a b c d) (hiS a b c d) < 0
instance (a b c d : P3) : Decidable (shareP a b c d) := inferInstanceAs (Decidable ((_ ∧ _ ∧ _ ∧ _) ∧ _))
end Go.Proofs.YtfapglafeghggaaDoor
