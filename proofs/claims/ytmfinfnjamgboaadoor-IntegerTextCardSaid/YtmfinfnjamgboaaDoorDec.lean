/- Decimal strings and numbers: each is the other's inverse. -/
import Derived.Test.YtmfinfnjamgboaaDoorParse
namespace Go.Proofs.YtmfinfnjamgboaaDoor
open Go.RowKit NM

theorem decVal_rev (l : List Nat) : decVal ((l.map (48 + ·)).reverse) = val 10 l := by
  induction l with
  | nil => rfl
  | cons d t ih =>
    rw [List.map_cons, List.reverse_cons, decVal_snoc, ih]
    show 10 * val 10 t + (48 + d - 48) = d + 10 * val 10 t
    omega
theorem decVal_decs (n : Nat) : decVal (decs n) = n := by
  unfold decs
  by_cases h : n = 0
  · subst h
    rfl
  · rw [if_neg h, decVal_rev, val_dig (by omega)]
theorem decs_mem {n x : Nat} (hx : x ∈ decs n) : 48 ≤ x ∧ x ≤ 57 := by
  unfold decs at hx
  by_cases h : n = 0
  · rw [if_pos h] at hx
    simp at hx
    omega
  · rw [if_neg h, List.mem_reverse, List.mem_map] at hx
    obtain ⟨y, hy, rfl⟩ := hx
    have := dig_lt (B := 10) (by omega) n y hy
    omega
theorem bts_dec (n : Nat) : bts (dec n) = decs n := bts_ofBts (fun x hx => by have := decs_mem hx; omega)
theorem dec_decimal (n : Nat) : Decimal (dec n) := by
  by_cases h : n = 0
  · subst h
    refine ⟨by decide +kernel, ?_, .inr (by decide +kernel)⟩
    intro j hj
    have h1 : (dec 0).size = 1 := by decide +kernel
    obtain rfl : j = 0 := by omega
    decide +kernel
  · have h1 := tens_rev h (lt_pow_len (B := 10) (by omega) n)
    have h2 := len_pos (B := 10) (by omega) h
    have hs : (dec n).size = (decs n).length := size_ofBts _
    refine ⟨by rw [hs, h1.2.2.1]; omega, ?_, .inl (by rw [bts_dec]; exact h1.2.2.2)⟩
    intro j hj
    rw [bts_dec]
    rw [hs] at hj
    rw [List.getD_eq_getElem?_getD, List.getElem?_eq_getElem hj]
    exact decs_mem (List.getElem_mem hj)
theorem parse_dec (n : Nat) : parseVal (dec n) = .tuple #[.string (can n), .bool true] := by
  rw [parseVal_yes (dec_decimal n), bts_dec, decVal_decs]
theorem dec_decVal {s : ByteArray} (h : Decimal s) : dec (decVal (bts s)) = s := by
  obtain ⟨h0, hd, hl⟩ := h
  unfold Digits at hd
  apply bts_inj
  rw [bts_dec]
  have hlen := bts_length s
  generalize bts s = l at *
  have hmem : ∀ x ∈ l, 48 ≤ x ∧ x ≤ 57 := fun x hx => by
    obtain ⟨j, hj, rfl⟩ := List.getElem_of_mem hx
    have := hd j (by omega)
    rwa [List.getD_eq_getElem?_getD, List.getElem?_eq_getElem hj] at this
  obtain ⟨D, hD⟩ : ∃ D, D = (l.map (· - 48)).reverse := ⟨_, rfl⟩
  have hl2 : l = (D.map (48 + ·)).reverse := by
    rw [hD, List.map_reverse, List.reverse_reverse, List.map_map]
    conv => lhs; rw [← List.map_id l]
    apply List.map_congr_left
    intro x hx
    have := hmem x hx
    simp
    omega
  have hv : decVal l = val 10 D := by rw [hl2, decVal_rev]
  by_cases h48 : l.getD 0 0 = 48
  · have h1 : l.length = 1 := by
      rcases hl with h | h
      · exact absurd h48 h
      · omega
    match l, h1 with
    | [x], _ =>
      have hx : x = 48 := h48
      subst hx
      rfl
  · have hlt : NM.lt 10 D := fun x hx => by
      rw [hD, List.mem_reverse, List.mem_map] at hx
      obtain ⟨y, hy, rfl⟩ := hx
      have := hmem y hy
      omega
    have hdig := dig_val (B := 10) (by omega) hlt (fun x hx => by
      rw [hD, List.getLast?_reverse] at hx
      cases l with
      | nil => simp at hx
      | cons y t =>
        simp at hx
        have h3 := hmem y (by simp)
        have h4 : y ≠ 48 := h48
        omega)
    have hne : val 10 D ≠ 0 := fun e => by
      rw [e, dig_zero] at hdig
      rw [← hdig] at hl2
      rw [hl2] at hlen
      simp at hlen
      omega
    rw [hv]
    unfold decs
    rw [if_neg hne, hdig]
    exact hl2.symm
end Go.Proofs.YtmfinfnjamgboaaDoor
