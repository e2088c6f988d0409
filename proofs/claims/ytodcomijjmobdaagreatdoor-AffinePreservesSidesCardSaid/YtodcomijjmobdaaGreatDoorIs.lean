/- What a value stands for, and the contracts of integers and rational numbers in these words. -/
import Derived.Test.YtodcomijjmobdaaGreatDoorPq
import Derived.Test.YtodcomijjmobdaaGreatDoorQd
import Derived.Test.YtodcomijjmobdaaGreatDoorQr
set_option linter.unusedVariables false
set_option linter.unusedSimpArgs false
namespace Go.Proofs.YtodcomijjmobdaaGreatDoor
open Go.RowKit NM SX
/-- The value is the integer (the rational number), in any form, of at most k bytes. -/
def IsZ (v : Value) (z : Int) (k : Nat) : Prop := ∃ n s, v = I2 n s ∧ iv n s = z ∧ s.size ≤ k
def IsQ (v : Value) (q : Rat) (k : Nat) : Prop := ∃ n s t, v = Q3 n s t ∧ rq n s t = q ∧ s.size ≤ k ∧ t.size ≤ k
abbrev Zk (z : Int) (k : Nat) : Prop := (mg z).size ≤ k
theorem IsZ.can {z : Int} {k : Nat} (h : Zk z k) : IsZ (Z z) z k := ⟨_, _, rfl, iv_Z z, h⟩
theorem IsQ.can {q : Rat} {k : Nat} (h : Rk q k) : IsQ (QV q) q k := ⟨_, _, _, rfl, rq_QV q, h.1, h.dm⟩
theorem IsZ.sz {v : Value} {z : Int} {k : Nat} (h : IsZ v z k) : Zk z k := by
  obtain ⟨n, s, _, rfl, h1⟩ := h
  exact mg_iv_size h1
theorem IsQ.sz {v : Value} {q : Rat} {k : Nat} (h : IsQ v q k) (hk : 1 ≤ k) : Rk q k := by
  obtain ⟨n, s, t, _, rfl, h1, h2⟩ := h
  exact Rk.rq h1 h2 hk
theorem IsZ.up {v : Value} {z : Int} {j k : Nat} (h : IsZ v z j) (hk : j ≤ k) : IsZ v z k := by
  obtain ⟨n, s, a, b, c⟩ := h
  exact ⟨n, s, a, b, Nat.le_trans c hk⟩
theorem IsQ.up {v : Value} {q : Rat} {j k : Nat} (h : IsQ v q j) (hk : j ≤ k) : IsQ v q k := by
  obtain ⟨n, s, t, a, b, c, d⟩ := h
  exact ⟨n, s, t, a, b, Nat.le_trans c hk, Nat.le_trans d hk⟩
theorem IsZ.zero : IsZ (I2 false ⟨#[]⟩) 0 0 := ⟨_, _, rfl, rfl, Nat.le_refl _⟩
theorem IsQ.zero : IsQ (Q3 false ⟨#[]⟩ ⟨#[]⟩) 0 0 := ⟨_, _, _, rfl, rfl, Nat.le_refl _, Nat.le_refl _⟩
theorem Is.add {x y : Int} {j k : Nat} (h1 : Zk x j) (h2 : Zk y k) : Zk (x + y) (max j k + 1) := mg_add_size (Nat.le_trans h1 (Nat.le_max_left _ _)) (Nat.le_trans h2 (Nat.le_max_right _ _))
theorem Is.sub {x y : Int} {j k : Nat} (h1 : Zk x j) (h2 : Zk y k) : Zk (x - y) (max j k + 1) := mg_sub_size (Nat.le_trans h1 (Nat.le_max_left _ _)) (Nat.le_trans h2 (Nat.le_max_right _ _))
theorem Is.divInt {x y : Int} {j k : Nat} (h1 : Zk x j) (h2 : Zk y k) : Rk (Rat.divInt x y) (max (max j k) 1) := Rk.divInt (by omega) (by omega) (by omega)
theorem Is.mul {x y : Rat} {j k : Nat} (h1 : Rk x j) (h2 : Rk y k) : Rk (x * y) (max j 1 + k) := Rk.mul (h1.mono (Nat.le_max_left _ _)) h2 (Nat.le_max_right _ _)
theorem Rk.up {q : Rat} {j k : Nat} (h : Rk q j) (hk : j ≤ k) : Rk q k := h.mono hk
theorem Zk.up {z : Int} {j k : Nat} (h : Zk z j) (hk : j ≤ k) : Zk z k := Nat.le_trans h hk
theorem Rk.inv {x : Rat} {k : Nat} (h : Rk x k) : Rk x⁻¹ (k + 1) := by
  have e : x⁻¹ = Rat.divInt (x.den : Int) x.num := by rw [← Rat.inv_divInt, Rat.num_divInt_den]
  rw [e]
  exact Rk.divInt (Nat.le_trans h.2 (by omega)) (Nat.le_trans h.1 (by omega)) (by omega)
theorem Is.quo {x y : Rat} {j k : Nat} (h1 : Rk x j) (h2 : Rk y k) : Rk (x / y) (j + k + 1) := by
  rw [Rat.div_def, Rat.mul_comm]
  exact (Rk.mul h2.inv h1 (by omega)).mono (by omega)
def divq (x y : Int) : Int := if y = 0 then 0 else x / y
def divr (x y : Int) : Int := if y = 0 then 0 else x % y
theorem divZ_eq (x y : Int) : divZ x y = .tuple #[Z (divq x y), Z (divr x y), .bool (decide (y ≠ 0))] := by
  unfold divZ divq divr
  split
  · rename_i h; rw [h]; rfl
  · rename_i h; rw [decide_eq_true h]
theorem divq_pos {x y : Int} (h : y ≠ 0) : divq x y = x / y := if_neg h
theorem Is.divq {x y : Int} {j k : Nat} (h1 : Zk x j) (_h2 : Zk y k) : Zk (divq x y) (max j k + 1) := by
  refine mg_size_le ?_
  have h3 := mg_lt h1
  have h4 : 256 ^ j ≤ 256 ^ max j k := Nat.pow_le_pow_right (by decide) (Nat.le_max_left _ _)
  have h5 : (Go.Proofs.YtodcomijjmobdaaGreatDoor.divq x y).natAbs ≤ x.natAbs + 1 := by
    unfold Go.Proofs.YtodcomijjmobdaaGreatDoor.divq
    split
    · exact Nat.zero_le _
    · rename_i h
      have := Int.natAbs_ediv_le_natAbs x y
      omega
  rw [Nat.pow_succ]
  omega
theorem Is.divr {x y : Int} {j k : Nat} (_h1 : Zk x j) (h2 : Zk y k) : Zk (divr x y) (max j k + 1) := by
  refine mg_size_le ?_
  have h3 := mg_lt h2
  have h4 : 256 ^ k ≤ 256 ^ max j k := Nat.pow_le_pow_right (by decide) (Nat.le_max_right _ _)
  have h5 : (Go.Proofs.YtodcomijjmobdaaGreatDoor.divr x y).natAbs ≤ y.natAbs := by
    unfold Go.Proofs.YtodcomijjmobdaaGreatDoor.divr
    split
    · exact Nat.zero_le _
    · rename_i h
      have e2 := Int.emod_nonneg x h
      have e3 := Int.emod_lt x h
      omega
  rw [Nat.pow_succ]
  omega
theorem Zk.zero : Zk 0 0 := Nat.le_refl _
theorem Rk.zero : Rk 0 1 := ⟨by decide, by decide⟩
theorem eqv_yes {n x r : Bool} {p : Prop} [Decidable p] (h : x = decide p) (hp : p) (hr : (n != true) = r) : Value.bool r = Value.bool (n != x) := by rw [h, decide_eq_true hp, hr]
/-- The cells of a canonical value. -/
@[reducible] def zc (z : Int) : List Value := [.bool (sg z), .string (mg z)]
@[reducible] def qc (q : Rat) : List Value := [.bool (sg q.num), .string (mg q.num), .string (dm q.den)]
theorem iMul {u0 : Value} {x0 : Int} {k0 : Nat} (hu0 : IsZ u0 x0 k0) (hk0 : k0 ≤ 1073741823) {u1 : Value} {x1 : Int} {k1 : Nat} (hu1 : IsZ u1 x1 k1) (hk1 : k1 ≤ 1073741823) (w : World) :
    Calls Tryz.prog 59 #[u0, u1] w fun e w' => e = .returned (Z (x0 * x1)) ∧ Below w.heap.size w w' := by
  obtain ⟨n0, s0, rfl, rfl, h01⟩ := hu0
  obtain ⟨n1, s1, rfl, rfl, h11⟩ := hu1
  exact Mul2_any n0 n1 s0 s1 w (by omega) (by omega)
theorem iAdd {u0 : Value} {x0 : Int} {k0 : Nat} (hu0 : IsZ u0 x0 k0) (hk0 : k0 ≤ 1073741823) {u1 : Value} {x1 : Int} {k1 : Nat} (hu1 : IsZ u1 x1 k1) (hk1 : k1 ≤ 1073741823) (w : World) :
    Calls Tryz.prog 87 #[u0, u1] w fun e w' => e = .returned (Z (x0 + x1)) ∧ Below w.heap.size w w' := by
  obtain ⟨n0, s0, rfl, rfl, h01⟩ := hu0
  obtain ⟨n1, s1, rfl, rfl, h11⟩ := hu1
  exact Add2_any n0 n1 s0 s1 w (by omega) (by omega)
theorem iSub {u0 : Value} {x0 : Int} {k0 : Nat} (hu0 : IsZ u0 x0 k0) (hk0 : k0 ≤ 1073741823) {u1 : Value} {x1 : Int} {k1 : Nat} (hu1 : IsZ u1 x1 k1) (hk1 : k1 ≤ 1073741823) (w : World) :
    Calls Tryz.prog 85 #[u0, u1] w fun e w' => e = .returned (Z (x0 - x1)) ∧ Below w.heap.size w w' := by
  obtain ⟨n0, s0, rfl, rfl, h01⟩ := hu0
  obtain ⟨n1, s1, rfl, rfl, h11⟩ := hu1
  exact Sub2_any n0 n1 s0 s1 w (by omega) (by omega)
theorem iNeg {u0 : Value} {x0 : Int} {k0 : Nat} (hu0 : IsZ u0 x0 k0) (hk0 : k0 ≤ 1073741823) (w : World) :
    Calls Tryz.prog 77 #[u0] w fun e w' => e = .returned (Z (-x0)) ∧ Below w.heap.size w w' := by
  obtain ⟨n0, s0, rfl, rfl, h01⟩ := hu0
  exact Neg2_any n0 s0 w (by simp [maxLen]; omega)
theorem iSign {u0 : Value} {x0 : Int} {k0 : Nat} (hu0 : IsZ u0 x0 k0) (hk0 : k0 ≤ 1073741823) (w : World) :
    Calls Tryz.prog 78 #[u0] w fun e w' => e = .returned (.int .i64 (cmpZ x0 0)) ∧ Below w.heap.size w w' := by
  obtain ⟨n0, s0, rfl, rfl, h01⟩ := hu0
  exact Sign2_any n0 s0 w (by simp [maxLen]; omega)
theorem iDiv {u0 : Value} {x0 : Int} {k0 : Nat} (hu0 : IsZ u0 x0 k0) (hk0 : k0 ≤ 268435455) {u1 : Value} {x1 : Int} {k1 : Nat} (hu1 : IsZ u1 x1 k1) (hk1 : k1 ≤ 268435455) (w : World) :
    Calls Tryz.prog 113 #[u0, u1] w fun e w' => e = .returned (.tuple #[Z (divq x0 x1), Z (divr x0 x1), .bool (decide (x1 ≠ 0))]) ∧ Below w.heap.size w w' := by
  obtain ⟨n0, s0, rfl, rfl, h01⟩ := hu0
  obtain ⟨n1, s1, rfl, rfl, h11⟩ := hu1
  have h := Div2_any n0 n1 s0 s1 w (by omega) (by omega)
  rw [divZ_eq] at h
  exact h
theorem jMul {u0 : Value} {x0 : Int} {k0 : Nat} (hu0 : IsZ u0 x0 k0) (hk0 : k0 ≤ 1073741823) {u1 : Value} {x1 : Int} {k1 : Nat} (hu1 : IsZ u1 x1 k1) (hk1 : k1 ≤ 1073741823) (w : World) :
    Calls Tryz.prog 115 #[u0, u1] w fun e w' => e = .returned (Z (x0 * x1)) ∧ Below w.heap.size w w' := by
  obtain ⟨n0, s0, rfl, rfl, h01⟩ := hu0
  obtain ⟨n1, s1, rfl, rfl, h11⟩ := hu1
  exact refMul2_any n0 n1 s0 s1 w (by omega) (by omega)
theorem jNeg {u0 : Value} {x0 : Int} {k0 : Nat} (hu0 : IsZ u0 x0 k0) (hk0 : k0 ≤ 1073741823) (w : World) :
    Calls Tryz.prog 45 #[u0] w fun e w' => e = .returned (Z (-x0)) ∧ Below w.heap.size w w' := by
  obtain ⟨n0, s0, rfl, rfl, h01⟩ := hu0
  exact refNeg2_any n0 s0 w (by simp [maxLen]; omega)
theorem jSign {u0 : Value} {x0 : Int} {k0 : Nat} (hu0 : IsZ u0 x0 k0) (hk0 : k0 ≤ 1073741823) (w : World) :
    Calls Tryz.prog 42 #[u0] w fun e w' => e = .returned (.int .i64 (cmpZ x0 0)) ∧ Below w.heap.size w w' := by
  obtain ⟨n0, s0, rfl, rfl, h01⟩ := hu0
  exact refSign2_any n0 s0 w (by simp [maxLen]; omega)
theorem jNorm {u0 : Value} {x0 : Int} {k0 : Nat} (hu0 : IsZ u0 x0 k0) (hk0 : k0 ≤ 1073741823) (w : World) :
    Calls Tryz.prog 41 #[u0] w fun e w' => e = .returned (Z x0) ∧ Below w.heap.size w w' := by
  obtain ⟨n0, s0, rfl, rfl, h01⟩ := hu0
  exact refNorm2_any n0 s0 w (by simp [maxLen]; omega)
theorem jDiv {u0 : Value} {x0 : Int} {k0 : Nat} (hu0 : IsZ u0 x0 k0) (hk0 : k0 ≤ 268435455) {u1 : Value} {x1 : Int} {k1 : Nat} (hu1 : IsZ u1 x1 k1) (hk1 : k1 ≤ 268435455) (w : World) :
    Calls Tryz.prog 46 #[u0, u1] w fun e w' => e = .returned (.tuple #[Z (divq x0 x1), Z (divr x0 x1), .bool (decide (x1 ≠ 0))]) ∧ Below w.heap.size w w' := by
  obtain ⟨n0, s0, rfl, rfl, h01⟩ := hu0
  obtain ⟨n1, s1, rfl, rfl, h11⟩ := hu1
  have h := refDiv2_any n0 n1 s0 s1 w (by omega) (by omega)
  rw [divZ_eq] at h
  exact h
theorem qMul {u0 : Value} {x0 : Rat} {k0 : Nat} (hu0 : IsQ u0 x0 k0) (hk0 : k0 ≤ 50000) {u1 : Value} {x1 : Rat} {k1 : Nat} (hu1 : IsQ u1 x1 k1) (hk1 : k1 ≤ 50000) (w : World) (hT : TabC w) :
    Calls Tryz.prog 36 #[u0, u1] w fun e w' => e = .returned (QV (x0 * x1)) ∧ Below w.heap.size w w' := by
  obtain ⟨n0, s0, t0, rfl, rfl, h01, h02⟩ := hu0
  obtain ⟨n1, s1, t1, rfl, rfl, h11, h12⟩ := hu1
  exact MulQ_any n0 s0 t0 n1 s1 t1 w (by omega) (by omega) (by omega) (by omega) hT
theorem qDiv {u0 : Value} {x0 : Rat} {k0 : Nat} (hu0 : IsQ u0 x0 k0) (hk0 : k0 ≤ 50000) {u1 : Value} {x1 : Rat} {k1 : Nat} (hu1 : IsQ u1 x1 k1) (hk1 : k1 ≤ 50000) (w : World) (hT : TabC w) :
    Calls Tryz.prog 37 #[u0, u1] w fun e w' => e = .returned (.tuple #[QV (x0 / x1), .bool (decide (x1 ≠ 0))]) ∧ Below w.heap.size w w' := by
  obtain ⟨n0, s0, t0, rfl, rfl, h01, h02⟩ := hu0
  obtain ⟨n1, s1, t1, rfl, rfl, h11, h12⟩ := hu1
  have h := DivQ_any n0 s0 t0 n1 s1 t1 w (by omega) (by omega) (by omega) (by omega) hT
  rw [quoQ_eq] at h
  exact h
theorem qMake {u0 : Value} {x0 : Int} {k0 : Nat} (hu0 : IsZ u0 x0 k0) (hk0 : k0 ≤ 50000) {u1 : Value} {x1 : Int} {k1 : Nat} (hu1 : IsZ u1 x1 k1) (hk1 : k1 ≤ 50000) (w : World) (hT : TabC w) :
    Calls Tryz.prog 63 #[u0, u1] w fun e w' => e = .returned (.tuple #[QV (Rat.divInt x0 x1), .bool (decide (x1 ≠ 0))]) ∧ Below w.heap.size w w' := by
  obtain ⟨n0, s0, rfl, rfl, h01⟩ := hu0
  obtain ⟨n1, s1, rfl, rfl, h11⟩ := hu1
  have h := Make_any n0 n1 s0 s1 w (by omega) (by omega) hT
  rw [makeV_eq] at h
  exact h
theorem qParts {u0 : Value} {x0 : Rat} {k0 : Nat} (hu0 : IsQ u0 x0 k0) (hk0 : k0 ≤ 50000) (w : World) (hT : TabC w) :
    Calls Tryz.prog 98 #[u0] w fun e w' => e = .returned (.tuple #[Z x0.num, Z (x0.den : Int)]) ∧ Below w.heap.size w w' := by
  obtain ⟨n0, s0, t0, rfl, rfl, h01, h02⟩ := hu0
  exact NumDenom_any n0 s0 t0 w (by omega) (by omega) hT
theorem rNorm {u0 : Value} {x0 : Rat} {k0 : Nat} (hu0 : IsQ u0 x0 k0) (hk0 : k0 ≤ 50000) (w : World) :
    Calls Tryz.prog 71 #[u0] w fun e w' => e = .returned (QV x0) ∧ Below w.heap.size w w' := by
  obtain ⟨n0, s0, t0, rfl, rfl, h01, h02⟩ := hu0
  exact rNorm_any n0 s0 t0 w (by omega) (by omega)
theorem rNeg {u0 : Value} {x0 : Rat} {k0 : Nat} (hu0 : IsQ u0 x0 k0) (hk0 : k0 ≤ 50000) (w : World) :
    Calls Tryz.prog 54 #[u0] w fun e w' => e = .returned (QV (-x0)) ∧ Below w.heap.size w w' := by
  obtain ⟨n0, s0, t0, rfl, rfl, h01, h02⟩ := hu0
  exact rNeg_any n0 s0 t0 w (by omega) (by omega)
theorem rAdd {u0 : Value} {x0 : Rat} {k0 : Nat} (hu0 : IsQ u0 x0 k0) (hk0 : k0 ≤ 50000) {u1 : Value} {x1 : Rat} {k1 : Nat} (hu1 : IsQ u1 x1 k1) (hk1 : k1 ≤ 50000) (w : World) :
    Calls Tryz.prog 66 #[u0, u1] w fun e w' => e = .returned (QV (x0 + x1)) ∧ Below w.heap.size w w' := by
  obtain ⟨n0, s0, t0, rfl, rfl, h01, h02⟩ := hu0
  obtain ⟨n1, s1, t1, rfl, rfl, h11, h12⟩ := hu1
  exact rAdd_any n0 s0 t0 n1 s1 t1 w (by omega) (by omega) (by omega) (by omega)
theorem rSub {u0 : Value} {x0 : Rat} {k0 : Nat} (hu0 : IsQ u0 x0 k0) (hk0 : k0 ≤ 50000) {u1 : Value} {x1 : Rat} {k1 : Nat} (hu1 : IsQ u1 x1 k1) (hk1 : k1 ≤ 50000) (w : World) :
    Calls Tryz.prog 81 #[u0, u1] w fun e w' => e = .returned (QV (x0 - x1)) ∧ Below w.heap.size w w' := by
  obtain ⟨n0, s0, t0, rfl, rfl, h01, h02⟩ := hu0
  obtain ⟨n1, s1, t1, rfl, rfl, h11, h12⟩ := hu1
  exact rSub_any n0 s0 t0 n1 s1 t1 w (by omega) (by omega) (by omega) (by omega)
theorem rMul {u0 : Value} {x0 : Rat} {k0 : Nat} (hu0 : IsQ u0 x0 k0) (hk0 : k0 ≤ 50000) {u1 : Value} {x1 : Rat} {k1 : Nat} (hu1 : IsQ u1 x1 k1) (hk1 : k1 ≤ 50000) (w : World) :
    Calls Tryz.prog 67 #[u0, u1] w fun e w' => e = .returned (QV (x0 * x1)) ∧ Below w.heap.size w w' := by
  obtain ⟨n0, s0, t0, rfl, rfl, h01, h02⟩ := hu0
  obtain ⟨n1, s1, t1, rfl, rfl, h11, h12⟩ := hu1
  exact rMul_any n0 s0 t0 n1 s1 t1 w (by omega) (by omega) (by omega) (by omega)
theorem rDiv {u0 : Value} {x0 : Rat} {k0 : Nat} (hu0 : IsQ u0 x0 k0) (hk0 : k0 ≤ 50000) {u1 : Value} {x1 : Rat} {k1 : Nat} (hu1 : IsQ u1 x1 k1) (hk1 : k1 ≤ 50000) (w : World) :
    Calls Tryz.prog 51 #[u0, u1] w fun e w' => e = .returned (.tuple #[QV (x0 / x1), .bool (decide (x1 ≠ 0))]) ∧ Below w.heap.size w w' := by
  obtain ⟨n0, s0, t0, rfl, rfl, h01, h02⟩ := hu0
  obtain ⟨n1, s1, t1, rfl, rfl, h11, h12⟩ := hu1
  have h := rDiv_any n0 s0 t0 n1 s1 t1 w (by omega) (by omega) (by omega) (by omega)
  rw [quoQ_eq] at h
  exact h
theorem rSign {u0 : Value} {x0 : Rat} {k0 : Nat} (hu0 : IsQ u0 x0 k0) (hk0 : k0 ≤ 50000) (w : World) :
    Calls Tryz.prog 50 #[u0] w fun e w' => e = .returned (.int .i64 (sgQ x0)) ∧ Below w.heap.size w w' := by
  obtain ⟨n0, s0, t0, rfl, rfl, h01, h02⟩ := hu0
  exact rSign_any n0 s0 t0 w (by omega)
theorem rMake {u0 : Value} {x0 : Int} {k0 : Nat} (hu0 : IsZ u0 x0 k0) (hk0 : k0 ≤ 50000) {u1 : Value} {x1 : Int} {k1 : Nat} (hu1 : IsZ u1 x1 k1) (hk1 : k1 ≤ 50000) (w : World) :
    Calls Tryz.prog 80 #[u0, u1] w fun e w' => e = .returned (.tuple #[QV (Rat.divInt x0 x1), .bool (decide (x1 ≠ 0))]) ∧ Below w.heap.size w w' := by
  obtain ⟨n0, s0, rfl, rfl, h01⟩ := hu0
  obtain ⟨n1, s1, rfl, rfl, h11⟩ := hu1
  have h := rMake_any n0 n1 s0 s1 w (by omega) (by omega)
  rw [makeV_eq] at h
  exact h
theorem rParts {u0 : Value} {x0 : Rat} {k0 : Nat} (hu0 : IsQ u0 x0 k0) (hk0 : k0 ≤ 50000) (w : World) :
    Calls Tryz.prog 121 #[u0] w fun e w' => e = .returned (.tuple #[Z x0.num, Z (x0.den : Int)]) ∧ Below w.heap.size w w' := by
  obtain ⟨n0, s0, t0, rfl, rfl, h01, h02⟩ := hu0
  exact rParts_any n0 s0 t0 w (by omega) (by omega)
end Go.Proofs.YtodcomijjmobdaaGreatDoor
