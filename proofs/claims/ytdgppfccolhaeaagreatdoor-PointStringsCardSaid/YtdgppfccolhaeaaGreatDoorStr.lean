/- Strings in symbolic runs: an index, a piece, and what the bytes of strings are. -/
import Derived.Test.YtdgppfccolhaeaaGreatDoorSx
import Derived.Test.YtdgppfccolhaeaaGreatDoorN1
import Derived.Test.YtdgppfccolhaeaaGreatDoorN4
set_option linter.unusedVariables false
set_option linter.unusedSimpArgs false
namespace Go.Proofs.YtdgppfccolhaeaaGreatDoor
open Go.RowKit NM SX

section
variable {P : Program} {w : World} {η : Operand → Value} {t ty : TypeId} {x y lo hi : Operand} {s : ByteArray} {k j : Nat} {ki kj : IntKind}
theorem index_str (hP : P.underlying t = some .string) (hx : η x = .string s) (hy : η y = .int ki (k : Int)) (hk : k < s.size) :
    (execOp η ⟨none, .index t x y, ty, "", #[], none⟩).run P w = .ok (.value (.int .u8 (((bts s).getD k 0 : Nat) : Int))) w := by
  have h : s[k]? = some s[k] := getElem?_pos s k hk
  simp only [execOp, hx, hy, Instr.index, asIntOf, pure_bind, Sem.run_bind, run_underlying hP, Result.andThen_ok]
  rw [if_pos (by omega), Int.toNat_natCast, h, bts_getD s k hk]
  rfl
theorem slice_hi (hP : P.underlying t = some .string) (hx : η x = .string s) (hy : η hi = .int ki (k : Int)) (hk : k ≤ s.size) :
    (execOp η ⟨none, .slice t x none (some hi) none, ty, "", #[], none⟩).run P w = .ok (.value (.string (s.extract 0 k))) w := by
  have e : Instr.sliceAt t (.string s) none (some (.int ki (k : Int))) none = Instr.sliceAt t (.string s) none (some (.int ki (k : Int))) none := rfl
  simp only [execOp, hx, Option.map_none, Option.map_some, hy, Sem.run_bind, Instr.sliceAt, run_underlying hP, Result.andThen_ok, Instr.slice]
  simp [Instr.sliceBounds, Instr.sliceBound, asIntOf, hk]
theorem slice_lo (hP : P.underlying t = some .string) (hx : η x = .string s) (hy : η lo = .int ki (k : Int)) (hk : k ≤ s.size) :
    (execOp η ⟨none, .slice t x (some lo) none none, ty, "", #[], none⟩).run P w = .ok (.value (.string (s.extract k s.size))) w := by
  simp only [execOp, hx, Option.map_none, Option.map_some, hy, Sem.run_bind, Instr.sliceAt, run_underlying hP, Result.andThen_ok, Instr.slice]
  simp [Instr.sliceBounds, Instr.sliceBound, asIntOf, hk]
theorem slice_lohi (hP : P.underlying t = some .string) (hx : η x = .string s) (hy : η lo = .int ki (k : Int)) (hz : η hi = .int kj (j : Int)) (hk : k ≤ j) (hj : j ≤ s.size) :
    (execOp η ⟨none, .slice t x (some lo) (some hi) none, ty, "", #[], none⟩).run P w = .ok (.value (.string (s.extract k j))) w := by
  simp only [execOp, hx, Option.map_none, Option.map_some, hy, hz, Sem.run_bind, Instr.sliceAt, run_underlying hP, Result.andThen_ok, Instr.slice]
  simp [Instr.sliceBounds, Instr.sliceBound, asIntOf, hk, hj]
end
theorem wrap_small {z : Int} (h1 : -9223372036854775808 ≤ z) (h2 : z ≤ 9223372036854775807) : IntKind.wrap .i64 z = z := by
  rw [IntKind.wrap_i64]; omega
theorem cat_ok {n : Nat} (h : n ≤ 1099511627776) : ¬ ((n : Nat) : Int) > IntKind.i64.max := by
  simp [IntKind.max, IntKind.bits]
  omega
theorem bts_append (s t : ByteArray) : bts (s ++ t) = bts s ++ bts t := by
  unfold bts
  simp
theorem bts_nil_iff {s : ByteArray} : bts s = [] ↔ s.size = 0 := by rw [← List.length_eq_zero_iff, bts_length]
theorem str_eq_nil (s : ByteArray) : (s.toList == (⟨#[]⟩ : ByteArray).toList) = decide (s.size = 0) := by
  rw [ByteArray.toList_eq, Bool.eq_iff_iff]
  simp only [beq_iff_eq, decide_eq_true_eq]
  rw [← bts_nil_iff]
  unfold bts
  simp [ByteArray.toList_eq]

/-! Digits. -/
def allDig (l : List Nat) : Bool := l.all fun x => decide (48 ≤ x) && decide (x ≤ 57)
/-- The value of one or more decimal digits. -/
def digV (l : List Nat) : Option Nat := if l = [] ∨ allDig l = false then none else some (decVal l)
theorem allDig_get {l : List Nat} (h : allDig l = true) {k : Nat} (hk : k < l.length) : 48 ≤ l.getD k 0 ∧ l.getD k 0 ≤ 57 := by
  unfold allDig at h
  rw [List.all_eq_true] at h
  have := h l[k] (List.getElem_mem hk)
  simp only [Bool.and_eq_true, decide_eq_true_eq] at this
  rw [List.getD_eq_getElem?_getD, List.getElem?_eq_getElem hk]
  exact this
theorem allDig_bad : ∀ {l : List Nat}, allDig l = false → ∃ k, k < l.length ∧ (l.getD k 0 < 48 ∨ 57 < l.getD k 0) ∧ ∀ j, j < k → 48 ≤ l.getD j 0 ∧ l.getD j 0 ≤ 57
  | [], h => by simp [allDig] at h
  | x :: l, h => by
    by_cases hx : 48 ≤ x ∧ x ≤ 57
    · have h2 : allDig l = false := by
        unfold allDig at h ⊢
        rw [List.all_cons] at h
        simpa [hx.1, hx.2] using h
      obtain ⟨k, h3, h4, h5⟩ := allDig_bad h2
      refine ⟨k + 1, by simp; omega, by simpa using h4, fun j hj => ?_⟩
      cases j with
      | zero => exact hx
      | succ j => simpa using h5 j (by omega)
    · exact ⟨0, by simp, by simp; omega, fun j hj => by omega⟩
theorem allDig_append (a b : List Nat) : allDig (a ++ b) = (allDig a && allDig b) := by
  unfold allDig
  rw [List.all_append]
theorem allDig_le {l : List Nat} (h : allDig l = true) : ∀ x ∈ l, x ≤ 57 := by
  intro x hx
  have := List.all_eq_true.1 h x hx
  simp only [Bool.and_eq_true, decide_eq_true_eq] at this
  exact this.2
theorem snoc_ind {p : List Nat → Prop} (h0 : p []) (h1 : ∀ l x, p l → p (l ++ [x])) (l : List Nat) : p l := by
  have : ∀ m : List Nat, p m.reverse := by
    intro m
    induction m with
    | nil => exact h0
    | cons x m ih => rw [List.reverse_cons]; exact h1 _ _ ih
  rw [← List.reverse_reverse l]
  exact this _
theorem pow10_le (n : Nat) : 10 ^ n ≤ 256 ^ n := Nat.pow_le_pow_left (by omega) n
theorem decVal_size {l : List Nat} (h : allDig l = true) : (can (decVal l)).size ≤ l.length := can_size_le (Nat.lt_of_lt_of_le (decVal_lt l (allDig_le h)) (pow10_le _))
theorem decVal_app (a b : List Nat) (h : allDig b = true) : decVal (a ++ b) = decVal a * 10 ^ b.length + decVal b := by
  revert h
  refine snoc_ind (p := fun b => allDig b = true → decVal (a ++ b) = decVal a * 10 ^ b.length + decVal b) (fun _ => by simp [decVal]) (fun b x ih h => ?_) b
  rw [allDig_append, Bool.and_eq_true] at h
  rw [← List.append_assoc, decVal_snoc, decVal_snoc, ih h.1, List.length_append, List.length_singleton, Nat.pow_succ, ← Nat.mul_assoc]
  have h2 : 48 ≤ x := by
    have := h.2
    simp only [allDig, List.all_cons, List.all_nil, Bool.and_true, Bool.and_eq_true, decide_eq_true_eq] at this
    exact this.1
  generalize decVal a * 10 ^ b.length = m
  omega
theorem decVal_zeros : ∀ (l : List Nat), decVal l = decVal (l.dropWhile (· == 48))
  | [] => rfl
  | x :: l => by
    rw [List.dropWhile_cons]
    split
    · rename_i h
      have : x = 48 := by simpa using h
      subst this
      rw [← decVal_zeros l]
      rfl
    · rfl
theorem allDig_zeros : ∀ (l : List Nat), allDig l = allDig (l.dropWhile (· == 48))
  | [] => rfl
  | x :: l => by
    rw [List.dropWhile_cons]
    split
    · rename_i h
      have : x = 48 := by simpa using h
      subst this
      rw [← allDig_zeros l]
      simp [allDig]
    · rfl
theorem zeros_head : ∀ (l : List Nat), (l.dropWhile (· == 48)).getD 0 0 ≠ 48 ∨ l.dropWhile (· == 48) = []
  | [] => .inr rfl
  | x :: l => by
    rw [List.dropWhile_cons]
    split
    · exact zeros_head l
    · rename_i h
      exact .inl (by simpa using h)
theorem digV_none {l : List Nat} (h : l = [] ∨ allDig l = false) : digV l = none := if_pos h
theorem digV_some {l : List Nat} (h1 : l ≠ []) (h2 : allDig l = true) : digV l = some (decVal l) := if_neg (by rintro (h | h) <;> simp_all)
end Go.Proofs.YtdgppfccolhaeaaGreatDoor
