/- Rational numbers: words for the symbolic runs. -/
import Derived.Test.YtpmfaommooneiaaGreatDoorRat
import Derived.Test.YtpmfaommooneiaaGreatDoorSx
import Derived.Test.YtpmfaommooneiaaGreatDoorI1
import Derived.Test.YtpmfaommooneiaaGreatDoorRefDivZ
import Derived.Test.YtpmfaommooneiaaGreatDoorGcdZ
import Derived.Test.YtpmfaommooneiaaGreatDoorFmtZ
set_option linter.unusedVariables false
set_option linter.unusedSimpArgs false
namespace Go.Proofs.YtpmfaommooneiaaGreatDoor
open Go.RowKit NM SX

/-- The magnitude of a denominator, 1 in place of 0. -/
def dnb (t : ByteArray) : ByteArray := if nat t = 0 then ⟨#[1]⟩ else t
theorem dnb_zero {t : ByteArray} (h : nat t = 0) : dnb t = ⟨#[1]⟩ := if_pos h
theorem dnb_pos {t : ByteArray} (h : nat t ≠ 0) : dnb t = t := if_neg h
theorem dnb_dm {d : Nat} (h : d ≠ 0) : dnb (dm d) = can d := by
  unfold dm
  by_cases h1 : d = 1
  · rw [if_pos h1, h1]; rfl
  · rw [if_neg h1, dnb_pos (by rw [nat_can]; exact h)]
theorem eqL_Z (x y : Int) : eqL [.bool (sg x), .string (mg x)] [.bool (sg y), .string (mg y)] = decide (x = y) := by
  rw [← eq_Z]
  simp [eqL, eqCell]
theorem QV_parts {N D : Int} (h : D ≠ 0) : QV (Rat.divInt N D) = Q3 ((sg N != sg D) && !decide (N = 0)) (mg ((N.natAbs / Nat.gcd N.natAbs D.natAbs : Nat) : Int)) (dm (D.natAbs / Nat.gcd N.natAbs D.natAbs)) := by
  show Value.agg #[.bool (sg _), .string (mg _), .string (dm _)] = _
  rw [divInt_den N h]
  have h1 : sg (Rat.divInt N D).num = ((sg N != sg D) && !decide (N = 0)) := divInt_lt N h
  have h2 : mg (Rat.divInt N D).num = mg ((N.natAbs / Nat.gcd N.natAbs D.natAbs : Nat) : Int) := by
    show can _ = can _
    rw [divInt_abs N h]
    rfl
  rw [h1, h2]
theorem can_beq_nil (n : Nat) : ((can n).toList == (⟨#[]⟩ : ByteArray).toList) = decide (n = 0) := by
  rw [beq_bytes]
  exact decide_eq_decide.2 can_nil
theorem can_one : can 1 = ⟨#[1]⟩ := rfl
theorem can_beq_one (n : Nat) : ((can n).toList == (⟨#[1]⟩ : ByteArray).toList) = decide (n = 1) := by
  rw [beq_bytes, ← can_one]
  exact decide_eq_decide.2 can_eq
theorem Z_nat (d : Nat) : Z (d : Int) = I2 false (can d) := by
  show Value.agg #[.bool (sg (d : Int)), .string (mg (d : Int))] = _
  rw [sg_natCast]; rfl
/-- What a load out of memory that was there before gives. -/
theorem load_old {P : Program} {w : World} {η : Operand → Value} {t ty : TypeId} {x : Operand} {p : Addr} {v : Value} (hA : tAgg P t = some false) (hx : η x = .pointer (some p)) (hc : w.cell? p = some v) :
    (execOp η ⟨none, .load t x, ty, "", #[], none⟩).run P w = .ok (.value v) w := by
  simp only [execOp, hx, Instr.loadAt, Instr.sureAddr, pure_bind, loadVar, Sem.run_bind, run_tAgg hA, Result.andThen_ok, Bool.false_eq_true, if_false, run_load, hc]
  rfl
theorem norm_eq (n : Bool) (s t : ByteArray) : QV (rq n s t) = Q3 (n && !decide (nat s = 0)) (can (nat s / Nat.gcd (nat s) (dn t))) (dm (dn t / Nat.gcd (nat s) (dn t))) := by
  rw [rq_divInt, QV_parts (by have := dn_pos t; omega), sg_natCast, sg_iv, iv_abs]
  have e : (decide (iv n s = 0)) = decide (nat s = 0) := decide_eq_decide.2 iv_zero
  rw [e]
  have e2 : (((n && !decide (nat s = 0)) != false) && !decide (nat s = 0)) = (n && !decide (nat s = 0)) := by
    cases n <;> cases decide (nat s = 0) <;> rfl
  rw [e2]
  rfl
theorem decZ_size {z : Int} {k : Nat} (h : (mg z).size ≤ k) : (decZ z).size ≤ 3 * k + 2 := by
  have h1 := decN_size (mg_lt h)
  unfold decZ
  split
  · simp only [ByteArray.size_append]
    have : (⟨#[45]⟩ : ByteArray).size = 1 := rfl
    omega
  · omega
end Go.Proofs.YtpmfaommooneiaaGreatDoor
