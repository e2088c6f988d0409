/- Texts of points: bytes, pieces, injectivity; what Parse returns. -/
import Derived.Test.YtdgppfccolhaeaaGreatDoorPu
import Derived.Test.YtdgppfccolhaeaaGreatDoorIsT
set_option linter.unusedVariables false
set_option linter.unusedSimpArgs false
namespace Go.Proofs.YtdgppfccolhaeaaGreatDoor
open Go.RowKit NM SX

theorem textQ_bytes (q : Rat) : ∀ x ∈ bts (textQ q), x = 45 ∨ x = 47 ∨ (48 ≤ x ∧ x ≤ 57) := by
  have hd : ∀ n, ∀ x ∈ bts (dec n), x = 45 ∨ x = 47 ∨ (48 ≤ x ∧ x ≤ 57) := fun n x hx => .inr (.inr (dec_bytes n x hx))
  have hb : ∀ x ∈ bts (if q.den = 1 then dec q.num.natAbs else dec q.num.natAbs ++ ⟨#[47]⟩ ++ dec q.den), x = 45 ∨ x = 47 ∨ (48 ≤ x ∧ x ≤ 57) := by
    intro x hx
    split at hx
    · exact hd _ x hx
    · rw [bts_append, bts_append, List.mem_append, List.mem_append] at hx
      rcases hx with (hx | hx) | hx
      · exact hd _ x hx
      · have : x = 47 := by simpa [bts] using hx
        exact .inr (.inl this)
      · exact hd _ x hx
  intro x hx
  rw [text_abs] at hx
  split at hx
  · rw [bts_append, List.mem_append] at hx
    rcases hx with hx | hx
    · have : x = 45 := by simpa [bts] using hx
      exact .inl this
    · exact hb x hx
  · exact hb x hx
theorem textQ_ne (q : Rat) {c : Nat} (h : c = 44 ∨ c = 32 ∨ c = 40 ∨ c = 41) : c ∉ bts (textQ q) := fun hx => by
  have := textQ_bytes q c hx
  omega
theorem QV_inj {x y : Rat} (h : QV x = QV y) : x = y := by
  have e : eqL (qc x) (qc y) = true := by
    have h2 := congrArg (fun v : Value => v.cells.toList) h
    have h3 : qc x = qc y := h2
    rw [h3, eqL_Q]
    exact decide_eq_true rfl
  rw [eqL_Q] at e
  exact of_decide_eq_true e
theorem textQ_inj {x y : Rat} (h : textQ x = textQ y) : x = y := by
  have h1 := parse_text x
  rw [h, parse_text y] at h1
  simp only [Value.tuple.injEq, Array.mk.injEq, List.cons.injEq, and_true] at h1
  exact (QV_inj h1).symm
theorem sep_inj {a b r s : List Nat} (ha : 44 ∉ a) (hb : 44 ∉ b) (h : a ++ 44 :: r = b ++ 44 :: s) : a = b ∧ r = s := by
  induction a generalizing b with
  | nil =>
    cases b with
    | nil => exact ⟨rfl, by simpa using h⟩
    | cons x b =>
      simp at h
      exact absurd (by rw [← h.1]; simp) hb
  | cons x a ih =>
    cases b with
    | nil =>
      simp at h
      exact absurd (by rw [h.1]; simp) ha
    | cons y b =>
      simp only [List.cons_append, List.cons.injEq] at h
      obtain ⟨rfl, h⟩ := h
      have := ih (fun m => ha (List.mem_cons_of_mem _ m)) (fun m => hb (List.mem_cons_of_mem _ m)) h
      exact ⟨by rw [this.1], this.2⟩
theorem bts_textP (p : P3) : bts (textP p) = 40 :: (bts (textQ p.x) ++ 44 :: 32 :: (bts (textQ p.y) ++ 44 :: 32 :: (bts (textQ p.z) ++ [41]))) := by
  unfold textP
  have e1 : bts ⟨#[40]⟩ = [40] := rfl
  have e2 : bts ⟨#[44, 32]⟩ = [44, 32] := rfl
  have e3 : bts ⟨#[41]⟩ = [41] := rfl
  simp only [bts_append, e1, e2, e3]
  simp
theorem toList_inj {a b : ByteArray} (h : a.toList = b.toList) : a = b := by
  rw [ByteArray.toList_eq, ByteArray.toList_eq] at h
  exact ByteArray.ext (Array.toList_inj.1 h)
theorem textP_inj {p q : P3} (h : textP p = textP q) : p = q := by
  have e := congrArg bts h
  rw [bts_textP, bts_textP] at e
  simp only [List.cons.injEq, true_and] at e
  have n : ∀ r : Rat, 44 ∉ bts (textQ r) := fun r => textQ_ne r (.inl rfl)
  obtain ⟨e1, e⟩ := sep_inj (n _) (n _) e
  simp only [List.cons.injEq, true_and] at e
  obtain ⟨e2, e⟩ := sep_inj (n _) (n _) e
  simp only [List.cons.injEq, true_and] at e
  have e3 := List.append_cancel_right e
  exact P3.ext' (textQ_inj (bts_inj e1)) (textQ_inj (bts_inj e2)) (textQ_inj (bts_inj e3))
end Go.Proofs.YtdgppfccolhaeaaGreatDoor
