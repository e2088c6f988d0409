/- Rational numbers: words for the symbolic runs. -/
import Derived.Test.YtodcomijjmobdaaGreatDoorRat
import Derived.Test.YtodcomijjmobdaaGreatDoorSx
import Derived.Test.YtodcomijjmobdaaGreatDoorI1
import Derived.Test.YtodcomijjmobdaaGreatDoorRefDivZ
import Derived.Test.YtodcomijjmobdaaGreatDoorGcdZ
import Derived.Test.YtodcomijjmobdaaGreatDoorDivZ
import Derived.Test.YtodcomijjmobdaaGreatDoorN4
set_option linter.unusedVariables false
set_option linter.unusedSimpArgs false
namespace Go.Proofs.YtodcomijjmobdaaGreatDoor
open Go.RowKit NM SX

/-- The magnitude of a denominator, 1 in place of 0. -/
def dnb (t : ByteArray) : ByteArray := if nat t = 0 then ⟨#[1]⟩ else t
theorem nat_one1 : nat ⟨#[1]⟩ = 1 := rfl
theorem dnb_zero {t : ByteArray} (h : nat t = 0) : dnb t = ⟨#[1]⟩ := if_pos h
theorem dnb_pos {t : ByteArray} (h : nat t ≠ 0) : dnb t = t := if_neg h
theorem nat_dnb (t : ByteArray) : nat (dnb t) = dn t := by
  by_cases h : nat t = 0
  · rw [dnb_zero h, dn_zero h, nat_one1]
  · rw [dnb_pos h, dn_ne h]
theorem iv_dnb (t : ByteArray) : iv false (dnb t) = ((dn t : Nat) : Int) := by rw [iv_false, nat_dnb]
theorem dnb_size {t : ByteArray} {k : Nat} (h : t.size ≤ k) (hk : 1 ≤ k) : (dnb t).size ≤ k := by
  unfold dnb
  split
  · exact hk
  · exact h
theorem dnb_dm {d : Nat} (h : d ≠ 0) : dnb (dm d) = can d := by
  unfold dm
  by_cases h1 : d = 1
  · rw [if_pos h1, h1]; rfl
  · rw [if_neg h1, dnb_pos (by rw [nat_can]; exact h)]
theorem eqL_Z (x y : Int) : eqL [.bool (sg x), .string (mg x)] [.bool (sg y), .string (mg y)] = decide (x = y) := by
  rw [← eq_Z]
  simp [eqL, eqCell]
theorem dm_inj {c d : Nat} (hc : c ≠ 0) (hd : d ≠ 0) (h : dm c = dm d) : c = d := by rw [← dn_dm hc, h, dn_dm hd]
theorem eqL_Q (x y : Rat) : eqL [.bool (sg x.num), .string (mg x.num), .string (dm x.den)] [.bool (sg y.num), .string (mg y.num), .string (dm y.den)] = decide (x = y) := by
  have h : eqL [.bool (sg x.num), .string (mg x.num), .string (dm x.den)] [.bool (sg y.num), .string (mg y.num), .string (dm y.den)] = (((sg x.num == sg y.num) && ((mg x.num).toList == (mg y.num).toList)) && ((dm x.den).toList == (dm y.den).toList)) := by
    simp [eqL, eqCell, Bool.and_assoc]
  rw [h, eq_Z, beq_bytes, Bool.eq_iff_iff]
  simp only [Bool.and_eq_true, decide_eq_true_eq]
  constructor
  · rintro ⟨h1, h2⟩
    exact Rat.ext h1 (dm_inj x.den_nz y.den_nz h2)
  · intro h1
    rw [h1]
    exact ⟨rfl, rfl⟩

/-- A fraction in canonical form, and whether there is one. -/
def makeV (N D : Int) : Value := if D = 0 then .tuple #[Q3 false ⟨#[]⟩ ⟨#[]⟩, .bool false] else .tuple #[QV (Rat.divInt N D), .bool true]
theorem makeV_zero {N D : Int} (h : D = 0) : makeV N D = .tuple #[Q3 false ⟨#[]⟩ ⟨#[]⟩, .bool false] := if_pos h
theorem makeV_pos {N D : Int} (h : D ≠ 0) : makeV N D = .tuple #[QV (Rat.divInt N D), .bool true] := if_neg h
theorem quo_nat (a G : Nat) (h0 : G ≠ 0) (h : G ∣ a) : divZ (a : Int) (G : Int) = .tuple #[Z ((a / G : Nat) : Int), Z 0, .bool true] := by
  rw [divZ_pos (by omega), Int.emod_eq_zero_of_dvd (Int.ofNat_dvd.2 h)]
  rfl
theorem gcd_two (N D : Int) : gcdL [(false, mg N), (false, mg D)] = Nat.gcd N.natAbs D.natAbs := by
  show Nat.gcd (Nat.gcd 0 (nat (mg N))) (nat (mg D)) = _
  rw [nat_mg, nat_mg, Nat.gcd_zero_left]
theorem QV_parts {N D : Int} (h : D ≠ 0) : QV (Rat.divInt N D) = Q3 ((sg N != sg D) && !decide (N = 0)) (mg ((N.natAbs / Nat.gcd N.natAbs D.natAbs : Nat) : Int)) (dm (D.natAbs / Nat.gcd N.natAbs D.natAbs)) := by
  show Value.agg #[.bool (sg _), .string (mg _), .string (dm _)] = _
  rw [divInt_den N h]
  have h1 : sg (Rat.divInt N D).num = ((sg N != sg D) && !decide (N = 0)) := divInt_lt N h
  have h2 : mg (Rat.divInt N D).num = mg ((N.natAbs / Nat.gcd N.natAbs D.natAbs : Nat) : Int) := by
    show can _ = can _
    rw [divInt_abs N h]
    rfl
  rw [h1, h2]
theorem rq_zero {m : Bool} {p q : ByteArray} : rq m p q = 0 ↔ iv m p = 0 := Rat.mkRat_eq_zero (dn_pos q)
theorem sgQ_mk (n : Int) {d : Nat} (h : d ≠ 0) : cmpZ n 0 = sgQ (mkRat n d) := by
  have h1 := rat_mk_num_neg (n := n) h
  have h2 : (mkRat n d).num = 0 ↔ n = 0 := by rw [Rat.num_eq_zero, Rat.mkRat_eq_zero h]
  unfold sgQ cmpZ
  by_cases h3 : n < 0
  · rw [if_pos h3, if_pos (h1.2 h3)]
  · rw [if_neg h3, if_neg (fun h4 => h3 (h1.1 h4))]
    by_cases h5 : n = 0
    · rw [if_pos h5, if_pos (h2.2 h5)]
    · rw [if_neg h5, if_neg (fun h6 => h5 (h2.1 h6))]
/-- A quotient, and whether there is one. -/
def quoQ (x y : Rat) : Value := if y = 0 then .tuple #[Q3 false ⟨#[]⟩ ⟨#[]⟩, .bool false] else .tuple #[QV (x / y), .bool true]
theorem quoQ_zero {x y : Rat} (h : y = 0) : quoQ x y = .tuple #[Q3 false ⟨#[]⟩ ⟨#[]⟩, .bool false] := if_pos h
theorem quoQ_pos {x y : Rat} (h : y ≠ 0) : quoQ x y = .tuple #[QV (x / y), .bool true] := if_neg h
theorem rdz2 {w : World} {g : Nat} {a b : Bool} {s t : ByteArray} (h1 : w.cell? ⟨g, 0, none⟩ = some (.bool a)) (h2 : w.cell? ⟨g, 1, none⟩ = some (.string s)) (h3 : w.cell? ⟨g, 2, none⟩ = some (.bool b)) (h4 : w.cell? ⟨g, 3, none⟩ = some (.string t)) :
    RdZ w (some ⟨g, 0, none⟩) [(a, s), (b, t)] := by
  intro k hk
  have hg := cell_lt h1
  match k, hk with
  | 0, _ => exact ⟨g, rfl, h1, h2, hg⟩
  | 1, _ => exact ⟨g, rfl, h3, h4, hg⟩
theorem mg_beq_nil (z : Int) : ((mg z).toList == (⟨#[]⟩ : ByteArray).toList) = decide (z = 0) := by
  rw [beq_bytes]
  refine decide_eq_decide.2 ⟨fun h => ?_, fun h => by rw [h]; rfl⟩
  have : z.natAbs = 0 := by rw [← nat_mg z, h]; rfl
  omega
theorem can_beq_nil (n : Nat) : ((can n).toList == (⟨#[]⟩ : ByteArray).toList) = decide (n = 0) := by
  rw [beq_bytes]
  exact decide_eq_decide.2 can_nil
theorem can_one : can 1 = ⟨#[1]⟩ := rfl
theorem can_beq_one (n : Nat) : ((can n).toList == (⟨#[1]⟩ : ByteArray).toList) = decide (n = 1) := by
  rw [beq_bytes, ← can_one]
  exact decide_eq_decide.2 can_eq
theorem Z_nat (d : Nat) : Z (d : Int) = I2 false (can d) := by
  show Value.agg #[.bool (sg (d : Int)), .string (mg (d : Int))] = _
  rw [sg_natCast]; rfl
/-- What a load out of memory that was there before gives. -/
theorem load_old {P : Program} {w : World} {η : Operand → Value} {t ty : TypeId} {x : Operand} {p : Addr} {v : Value} (hA : tAgg P t = some false) (hx : η x = .pointer (some p)) (hc : w.cell? p = some v) :
    (execOp η ⟨none, .load t x, ty, "", #[], none⟩).run P w = .ok (.value v) w := by
  simp only [execOp, hx, Instr.loadAt, Instr.sureAddr, pure_bind, loadVar, Sem.run_bind, run_tAgg hA, Result.andThen_ok, Bool.false_eq_true, if_false, run_load, hc]
  rfl
theorem norm_eq (n : Bool) (s t : ByteArray) : QV (rq n s t) = Q3 (n && !decide (nat s = 0)) (can (nat s / Nat.gcd (nat s) (dn t))) (dm (dn t / Nat.gcd (nat s) (dn t))) := by
  rw [rq_divInt, QV_parts (by have := dn_pos t; omega), sg_natCast, sg_iv, iv_abs]
  have e : (decide (iv n s = 0)) = decide (nat s = 0) := decide_eq_decide.2 iv_zero
  rw [e]
  have e2 : (((n && !decide (nat s = 0)) != false) && !decide (nat s = 0)) = (n && !decide (nat s = 0)) := by
    cases n <;> cases decide (nat s = 0) <;> rfl
  rw [e2]
  rfl
theorem rq_make {n m : Bool} {s t : ByteArray} (h : iv m t ≠ 0) : rq (!(n == m)) s t = Rat.divInt (iv n s) (iv m t) := by
  have ht : nat t ≠ 0 := fun e => h (iv_zero.2 e)
  rw [rq_divInt, dn_ne ht]
  cases n <;> cases m <;> simp [iv]
  · rw [← Rat.neg_divInt_neg]; simp
  · rw [← Rat.neg_divInt_neg]; simp
end Go.Proofs.YtodcomijjmobdaaGreatDoor
