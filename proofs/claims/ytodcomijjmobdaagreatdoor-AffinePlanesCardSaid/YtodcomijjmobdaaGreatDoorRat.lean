/- Rational numbers: the number that a sign and two magnitudes stand for, the canonical triple; signs, order, sizes. -/
import Derived.Test.YtodcomijjmobdaaGreatDoorI1
set_option linter.unusedVariables false
set_option linter.unusedSimpArgs false
namespace Go.Proofs.YtodcomijjmobdaaGreatDoor
open Go.RowKit NM

theorem rat_mk_parts {n : Int} {d : Nat} (h : d ≠ 0) : (mkRat n d).den = d / Nat.gcd n.natAbs d ∧ (mkRat n d).num = n / (Nat.gcd n.natAbs d : Int) := by
  rw [← Rat.normalize_eq_mkRat h, Rat.normalize_eq h]
  exact ⟨rfl, rfl⟩
theorem rat_mk_num_abs {n : Int} {d : Nat} (h : d ≠ 0) : (mkRat n d).num.natAbs = n.natAbs / Nat.gcd n.natAbs d := by
  rw [(rat_mk_parts h).2, Int.natAbs_ediv_of_dvd (Int.ofNat_dvd_left.2 (Nat.gcd_dvd_left _ _))]
  rfl
theorem rat_mk_num_neg {n : Int} {d : Nat} (h : d ≠ 0) : (mkRat n d).num < 0 ↔ n < 0 := by
  rw [(rat_mk_parts h).2]
  have hg : 0 < (Nat.gcd n.natAbs d : Int) := by
    have := Nat.gcd_pos_of_pos_right n.natAbs (Nat.pos_of_ne_zero h)
    omega
  constructor
  · intro h1
    by_cases h2 : n < 0
    · exact h2
    · have := Int.ediv_nonneg (Int.not_lt.1 h2) (Int.le_of_lt hg)
      omega
  · intro h1
    exact Int.ediv_neg_of_neg_of_pos h1 hg
theorem divInt_pos_eq (n : Int) {d : Int} (h : 0 < d) : Rat.divInt n d = mkRat n d.natAbs := by
  obtain ⟨k, rfl⟩ := Int.eq_ofNat_of_zero_le (Int.le_of_lt h)
  rfl
theorem divInt_neg_eq (n : Int) {d : Int} (h : d < 0) : Rat.divInt n d = mkRat (-n) d.natAbs := by
  rw [← Rat.neg_divInt_neg, divInt_pos_eq _ (by omega), Int.natAbs_neg]
/-- The parts of a fraction in lowest terms. -/
theorem divInt_den (n : Int) {d : Int} (h : d ≠ 0) : (Rat.divInt n d).den = d.natAbs / Nat.gcd n.natAbs d.natAbs := by
  have hd : d.natAbs ≠ 0 := by omega
  rcases Int.lt_or_gt_of_ne h with h1 | h1
  · rw [divInt_neg_eq n h1, (rat_mk_parts hd).1, Int.natAbs_neg]
  · rw [divInt_pos_eq n h1, (rat_mk_parts hd).1]
theorem divInt_abs (n : Int) {d : Int} (h : d ≠ 0) : (Rat.divInt n d).num.natAbs = n.natAbs / Nat.gcd n.natAbs d.natAbs := by
  have hd : d.natAbs ≠ 0 := by omega
  rcases Int.lt_or_gt_of_ne h with h1 | h1
  · rw [divInt_neg_eq n h1, rat_mk_num_abs hd, Int.natAbs_neg]
  · rw [divInt_pos_eq n h1, rat_mk_num_abs hd]
theorem divInt_lt (n : Int) {d : Int} (h : d ≠ 0) : decide ((Rat.divInt n d).num < 0) = ((decide (n < 0) != decide (d < 0)) && !decide (n = 0)) := by
  have hd : d.natAbs ≠ 0 := by omega
  rcases Int.lt_or_gt_of_ne h with h1 | h1
  · rw [divInt_neg_eq n h1, decide_eq_decide.2 (rat_mk_num_neg hd), decide_eq_true h1]
    by_cases h2 : n < 0
    · rw [decide_eq_true h2, decide_eq_false (by omega), decide_eq_false (by omega)]; rfl
    · rw [decide_eq_false h2]
      by_cases h3 : n = 0
      · rw [decide_eq_true h3, decide_eq_false (by omega)]; rfl
      · rw [decide_eq_false h3, decide_eq_true (by omega)]; rfl
  · rw [divInt_pos_eq n h1, decide_eq_decide.2 (rat_mk_num_neg hd), show decide (d < 0) = false from decide_eq_false (by omega)]
    by_cases h2 : n < 0
    · rw [decide_eq_true h2, decide_eq_false (by omega)]; rfl
    · rw [decide_eq_false h2]; rfl
theorem divInt_add (a b c d : Int) (hb : 0 < b) (hd : 0 < d) : Rat.divInt (a * d + c * b) (b * d) = Rat.divInt a b + Rat.divInt c d := by
  rw [Rat.divInt_add_divInt _ _ (by omega) (by omega)]
theorem divInt_div (a b c d : Int) : Rat.divInt (a * d) (b * c) = Rat.divInt a b / Rat.divInt c d := by
  rw [Rat.div_def, Rat.inv_divInt, Rat.divInt_mul_divInt]
theorem rat_pos {q : Rat} : 0 < q.num ↔ 0 < q := by
  rw [Rat.lt_iff]
  show _ ↔ 0 * (q.den : Int) < q.num * 1
  omega
theorem rat_neg {q : Rat} : q.num < 0 ↔ q < 0 := by
  rw [Rat.lt_iff]
  show _ ↔ q.num * 1 < 0 * (q.den : Int)
  omega
theorem neg_pos {q : Rat} (h : q < 0) : 0 < -q := by
  rw [← rat_pos, Rat.neg_num]
  have := rat_neg.2 h
  omega
/-- The sign of a rational number, and the comparison of two. -/
def sgQ (q : Rat) : Int := cmpZ q.num 0
def cmpQ (x y : Rat) : Int := sgQ (x - y)
theorem sgQ_pos {q : Rat} (h : 0 < q) : sgQ q = 1 := cmpZ_gt (rat_pos.2 h)
theorem sgQ_neg {q : Rat} (h : q < 0) : sgQ q = -1 := cmpZ_lt (rat_neg.2 h)
theorem sgQ_cases (q : Rat) : (0 < q ∧ sgQ q = 1) ∨ (q = 0 ∧ sgQ q = 0) ∨ (q < 0 ∧ sgQ q = -1) := by
  by_cases h1 : 0 < q.num
  · exact .inl ⟨rat_pos.1 h1, sgQ_pos (rat_pos.1 h1)⟩
  · by_cases h2 : q.num < 0
    · exact .inr (.inr ⟨rat_neg.1 h2, sgQ_neg (rat_neg.1 h2)⟩)
    · have h3 : q = 0 := Rat.num_eq_zero.1 (by omega)
      exact .inr (.inl ⟨h3, by rw [h3]; rfl⟩)
theorem sgQ_bd (q : Rat) : -1 ≤ sgQ q ∧ sgQ q ≤ 1 := by
  rcases sgQ_cases q with ⟨_, h⟩ | ⟨_, h⟩ | ⟨_, h⟩ <;> rw [h] <;> decide
theorem sgQ_eq_zero {q : Rat} : sgQ q = 0 ↔ q = 0 := by
  constructor
  · intro h
    rcases sgQ_cases q with ⟨_, h1⟩ | ⟨h1, _⟩ | ⟨_, h1⟩
    · omega
    · exact h1
    · omega
  · intro h; rw [h]; rfl
theorem sgQ_opp (q : Rat) : sgQ (-q) = -sgQ q := by
  rcases sgQ_cases q with ⟨h1, h2⟩ | ⟨h1, h2⟩ | ⟨h1, h2⟩
  · rw [h2]
    refine cmpZ_lt ?_
    rw [Rat.neg_num]
    have := rat_pos.2 h1
    omega
  · rw [h1]; rfl
  · rw [h2, sgQ_pos (neg_pos h1)]; rfl
theorem sgQ_mul_pos {x y : Rat} (hx : 0 < x) : sgQ (x * y) = sgQ y := by
  rcases sgQ_cases y with ⟨h1, h2⟩ | ⟨h1, h2⟩ | ⟨h1, h2⟩
  · rw [h2, sgQ_pos (Rat.mul_pos hx h1)]
  · rw [h1, Rat.mul_zero]
  · have h3 : sgQ (x * -y) = 1 := sgQ_pos (Rat.mul_pos hx (neg_pos h1))
    rw [Rat.mul_neg, sgQ_opp] at h3
    rw [h2]; omega
/-- The denominator that a magnitude stands for, and the magnitude of a denominator. -/
def dn (t : ByteArray) : Nat := if nat t = 0 then 1 else nat t
def dm (d : Nat) : ByteArray := if d = 1 then ⟨#[]⟩ else can d
/-- The rational number of a sign and two magnitudes. -/
def rq (n : Bool) (s t : ByteArray) : Rat := mkRat (iv n s) (dn t)
abbrev Q3 (n : Bool) (s t : ByteArray) : Value := .agg #[.bool n, .string s, .string t]
abbrev QV (q : Rat) : Value := .agg #[.bool (sg q.num), .string (mg q.num), .string (dm q.den)]
theorem dn_pos (t : ByteArray) : dn t ≠ 0 := by unfold dn; split <;> omega
theorem dn_zero {t : ByteArray} (h : nat t = 0) : dn t = 1 := if_pos h
theorem dn_ne {t : ByteArray} (h : nat t ≠ 0) : dn t = nat t := if_neg h
theorem dn_dm {d : Nat} (h : d ≠ 0) : dn (dm d) = d := by
  unfold dm
  by_cases h1 : d = 1
  · rw [if_pos h1, h1]; rfl
  · rw [if_neg h1, dn_ne (by rw [nat_can]; exact h), nat_can]
theorem rq_QV (q : Rat) : rq (sg q.num) (mg q.num) (dm q.den) = q := by
  unfold rq
  rw [iv_Z, dn_dm q.den_nz, Rat.mkRat_self]
theorem rq_divInt (n : Bool) (s t : ByteArray) : rq n s t = Rat.divInt (iv n s) (dn t : Int) := rfl
theorem dm_size (d : Nat) : (dm d).size ≤ (can d).size := by
  unfold dm
  split
  · exact Nat.zero_le _
  · exact Nat.le_refl _

/-! Sizes. -/
/-- Numerator and denominator have at most k bytes. -/
def Rk (q : Rat) (k : Nat) : Prop := (mg q.num).size ≤ k ∧ (can q.den).size ≤ k
theorem Rk.dm {q : Rat} {k : Nat} (h : Rk q k) : (dm q.den).size ≤ k := Nat.le_trans (dm_size _) h.2
theorem Rk.mono {q : Rat} {j k : Nat} (h : Rk q j) (hk : j ≤ k) : Rk q k := ⟨Nat.le_trans h.1 hk, Nat.le_trans h.2 hk⟩
theorem Rk.divInt {n d : Int} {k : Nat} (hn : (mg n).size ≤ k) (hd : (mg d).size ≤ k) (hk : 1 ≤ k) : Rk (Rat.divInt n d) k := by
  by_cases h : d = 0
  · rw [h, Rat.divInt_zero]
    exact ⟨Nat.zero_le _, Nat.le_trans (can_size_le (k := 1) (by decide)) hk⟩
  · refine ⟨mg_size_le ?_, can_size_le ?_⟩
    · rw [divInt_abs n h]
      exact Nat.lt_of_le_of_lt (Nat.div_le_self _ _) (mg_lt hn)
    · rw [divInt_den n h]
      exact Nat.lt_of_le_of_lt (Nat.div_le_self _ _) (mg_lt hd)
theorem mg_den {q : Rat} {k : Nat} (h : Rk q k) : (mg (q.den : Int)).size ≤ k := h.2
theorem Rk.add {x y : Rat} {j k : Nat} (hx : Rk x j) (hy : Rk y k) : Rk (x + y) (j + k + 1) := by
  have e : x + y = Rat.divInt (x.num * y.den + y.num * x.den) (x.den * y.den) := by
    rw [divInt_add _ _ _ _ (by have := x.den_nz; omega) (by have := y.den_nz; omega), Rat.num_divInt_den, Rat.num_divInt_den]
  rw [e]
  have h1 := mg_mul_size hx.1 (mg_den hy)
  have h2 := mg_mul_size hy.1 (mg_den hx)
  refine Rk.divInt (mg_add_size h1 (by omega)) ?_ (by omega)
  have := mg_mul_size (mg_den hx) (mg_den hy)
  omega
theorem Rk.neg {x : Rat} {k : Nat} (hx : Rk x k) : Rk (-x) k := ⟨by rw [Rat.neg_num]; exact mg_neg_size hx.1, hx.2⟩
theorem Rk.sub {x y : Rat} {j k : Nat} (hx : Rk x j) (hy : Rk y k) : Rk (x - y) (j + k + 1) := by
  rw [Rat.sub_eq_add_neg]
  exact hx.add hy.neg
theorem Rk.mul {x y : Rat} {j k : Nat} (hx : Rk x j) (hy : Rk y k) (hj : 1 ≤ j) : Rk (x * y) (j + k) := by
  have e : x * y = Rat.divInt (x.num * y.num) (x.den * y.den) := by
    rw [← Rat.divInt_mul_divInt, Rat.num_divInt_den, Rat.num_divInt_den]
  rw [e]
  exact Rk.divInt (mg_mul_size hx.1 hy.1) (mg_mul_size (mg_den hx) (mg_den hy)) (by omega)
theorem dn_size {t : ByteArray} {k : Nat} (h : t.size ≤ k) (hk : 1 ≤ k) : (can (dn t)).size ≤ k := by
  unfold dn
  split
  · exact Nat.le_trans (can_size_le (k := 1) (by decide)) hk
  · exact can_size_le (Nat.lt_of_lt_of_le (nat_lt t) (Nat.pow_le_pow_right (by omega) h))
theorem Rk.rq {n : Bool} {s t : ByteArray} {k : Nat} (hs : s.size ≤ k) (ht : t.size ≤ k) (hk : 1 ≤ k) : Rk (rq n s t) k := by
  rw [rq_divInt]
  exact Rk.divInt (mg_iv_size hs) (dn_size ht hk) hk
end Go.Proofs.YtodcomijjmobdaaGreatDoor
