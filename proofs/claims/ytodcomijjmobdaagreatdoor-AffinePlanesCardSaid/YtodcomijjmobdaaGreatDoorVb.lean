/- Package plane: the mathematics of what it computes. -/
import Derived.Test.YtodcomijjmobdaaGreatDoorVa
import Derived.Test.YtodcomijjmobdaaGreatDoorVm
set_option linter.unusedVariables false
set_option linter.unusedSimpArgs false
namespace Go.Proofs.YtodcomijjmobdaaGreatDoor
open Go.RowKit NM SX

/-! Three integers. -/
def g3 (a b c : Int) : Nat := Nat.gcd (Nat.gcd a.natAbs b.natAbs) c.natAbs
theorem gcd3_last (a b c : Int) : Nat.gcd (Nat.gcd (Nat.gcd 0 a.natAbs) b.natAbs) c.natAbs = g3 a b c := by
  rw [Nat.gcd_zero_left]; rfl
theorem g3_g4 (a b c d : Int) : Nat.gcd (Nat.gcd 0 (g3 a b c)) d.natAbs = g4 a b c d := by
  rw [Nat.gcd_zero_left]; rfl
theorem g3_zero {a b c : Int} : g3 a b c = 0 ↔ a = 0 ∧ b = 0 ∧ c = 0 := by
  unfold g3
  simp only [Nat.gcd_eq_zero_iff, Int.natAbs_eq_zero]
  constructor
  · rintro ⟨⟨h1, h2⟩, h3⟩; exact ⟨h1, h2, h3⟩
  · rintro ⟨h1, h2, h3⟩; exact ⟨⟨h1, h2⟩, h3⟩
theorem g3_four (a b c : Int) : g4 a b c 0 = g3 a b c := by
  unfold g4 g3
  exact Nat.gcd_zero_right _
theorem g3_size {q : Z4} {k : Nat} (h : Fk q k) : Zk ((g3 q.a q.b q.c : Nat) : Int) k := by
  rw [← g3_four]
  exact g4_size (q := ⟨q.a, q.b, q.c, 0⟩) ⟨h.1, h.2.1, h.2.2.1, Nat.zero_le _⟩
theorem rdp3 {w : World} {g : Nat} {a0 a1 a2 : Bool} {s0 s1 s2 : ByteArray} (h0 : w.cell? ⟨g, 0, none⟩ = some (.bool a0)) (h1 : w.cell? ⟨g, 1, none⟩ = some (.string s0)) (h2 : w.cell? ⟨g, 2, none⟩ = some (.bool a1)) (h3 : w.cell? ⟨g, 3, none⟩ = some (.string s1))
    (h4 : w.cell? ⟨g, 4, none⟩ = some (.bool a2)) (h5 : w.cell? ⟨g, 5, none⟩ = some (.string s2)) : RdZ w (some ⟨g, 0, none⟩) [(a0, s0), (a1, s1), (a2, s2)] := by
  have hg : g < w.heap.size := by
    unfold World.cell? at h0
    split at h0
    · rename_i hb; exact (Array.getElem?_eq_some_iff.1 hb).1
    · simp at h0
  intro k hk
  match k, hk with
  | 0, _ => exact ⟨g, rfl, h0, h1, hg⟩
  | 1, _ => exact ⟨g, rfl, h2, h3, hg⟩
  | 2, _ => exact ⟨g, rfl, h4, h5, hg⟩
theorem rdp2 {w : World} {g : Nat} {a0 a1 : Bool} {s0 s1 : ByteArray} (h0 : w.cell? ⟨g, 0, none⟩ = some (.bool a0)) (h1 : w.cell? ⟨g, 1, none⟩ = some (.string s0)) (h2 : w.cell? ⟨g, 2, none⟩ = some (.bool a1)) (h3 : w.cell? ⟨g, 3, none⟩ = some (.string s1)) :
    RdZ w (some ⟨g, 0, none⟩) [(a0, s0), (a1, s1)] := by
  have hg : g < w.heap.size := by
    unfold World.cell? at h0
    split at h0
    · rename_i hb; exact (Array.getElem?_eq_some_iff.1 hb).1
    · simp at h0
  intro k hk
  match k, hk with
  | 0, _ => exact ⟨g, rfl, h0, h1, hg⟩
  | 1, _ => exact ⟨g, rfl, h2, h3, hg⟩

/-! Products of fours by their first three. -/
def crossF (p q : Z4) : Z4 := ⟨p.b * q.c - p.c * q.b, p.c * q.a - p.a * q.c, p.a * q.b - p.b * q.a, 0⟩
def dotF (p q : Z4) : Int := 0 + p.a * q.a + p.b * q.b + p.c * q.c
theorem Zk.dotF {p q : Z4} {j k : Nat} (h1 : Fk p j) (h2 : Fk q k) : Zk (dotF p q) (j + k + 3) :=
  Zk.up (Is.add (Is.add (Is.add Zk.zero (mg_mul_size h1.1 h2.1)) (mg_mul_size h1.2.1 h2.2.1)) (mg_mul_size h1.2.2.1 h2.2.2.1)) (by omega)
theorem Zk.excess {p q : Z4} {j k : Nat} (h1 : Fk p j) (h2 : Fk q k) : Zk (Go.Proofs.YtodcomijjmobdaaGreatDoor.dotF p q - p.d * q.d) (j + k + 4) :=
  Zk.up (Is.sub (Zk.dotF h1 h2) (mg_mul_size h1.2.2.2 h2.2.2.2)) (by omega)
theorem Fk.cross {p q : Z4} {j k : Nat} (h1 : Fk p j) (h2 : Fk q k) : Fk (crossF p q) (j + k + 1) :=
  ⟨Zk.up (Is.sub (mg_mul_size h1.2.1 h2.2.2.1) (mg_mul_size h1.2.2.1 h2.2.1)) (by omega), Zk.up (Is.sub (mg_mul_size h1.2.2.1 h2.1) (mg_mul_size h1.1 h2.2.2.1)) (by omega), Zk.up (Is.sub (mg_mul_size h1.1 h2.2.1) (mg_mul_size h1.2.1 h2.1)) (by omega), Nat.zero_le _⟩
theorem can_parts (p : P3) : ((can4 p).a : Rat) = (can4 p).d * p.x ∧ ((can4 p).b : Rat) = (can4 p).d * p.y ∧ ((can4 p).c : Rat) = (can4 p).d * p.z := by
  have h := pt_parts (can4_wpos p)
  rwa [pt_can4] at h
theorem can_pos (p : P3) : (0 : Rat) < ((can4 p).d : Rat) := by
  have := can4_wpos p
  exact_mod_cast this

/-! A plane by rational numbers. -/
theorem from_prog (p : P3) (r : Rat) : toQ ⟨(can4 p).a * (r.den : Int), (can4 p).b * (r.den : Int), (can4 p).c * (r.den : Int), (can4 p).d * r.num⟩ = (Q4.mk p.x p.y p.z r).mul (((can4 p).d : Rat) * ((r.den : Int) : Rat)) := by
  obtain ⟨h1, h2, h3⟩ := can_parts p
  have h4 := num_den r
  unfold toQ Q4.mul
  simp only [Rat.intCast_mul, h1, h2, h3, h4]
  refine Q4.ext' ?_ ?_ ?_ ?_ <;> (simp only []; grind)
theorem from_pos (p : P3) (r : Rat) : (0 : Rat) < ((can4 p).d : Rat) * ((r.den : Int) : Rat) := Rat.mul_pos (can_pos p) (den_pos' r)

/-! Three points. -/
/-! The side. -/
theorem side_prog (q : Z4) (p : P3) : cmpZ (dotF q (can4 p) - q.d * (can4 p).d) 0 = sideF q p := by
  rw [side_of (q := q) (can4_wpos p) (by unfold dotF; omega), pt_can4]

/-! The axis. -/
/-! The projection. -/
theorem pt_over {q : Z4} {D X Y Z' : Rat} (hd : q.d ≠ 0) (h0 : (q.d : Rat) = D) (hx : (q.a : Rat) = D * X) (hy : (q.b : Rat) = D * Y) (hz : (q.c : Rat) = D * Z') : pt q = ⟨X, Y, Z'⟩ := by
  have hD : D ≠ 0 := by
    rw [← h0]
    exact_mod_cast hd
  unfold pt
  rw [w1_pos hd]
  refine P3.ext' ?_ ?_ ?_ <;> (simp only [Rat.divInt_eq_div, h0, hx, hy, hz]; grind)
theorem cast_ne {x : Int} (h : x ≠ 0) : (x : Rat) ≠ 0 := by exact_mod_cast h
/-! The offset. -/
end Go.Proofs.YtodcomijjmobdaaGreatDoor
