/- voussoirlaw06.Great of any list of points, by a walk. -/
import Derived.Test.YtfapglafeghggaaDoorUb
set_option linter.unusedVariables false
set_option linter.unusedSimpArgs false
namespace Go.Proofs.YtfapglafeghggaaDoor
open Go.RowKit NM

/-- The cells of a point (or a plane). -/
structure Raw4 where
  (a : Bool)
  (s : ByteArray)
  (b : Bool)
  (t : ByteArray)
  (c : Bool)
  (u : ByteArray)
  (d : Bool)
  (v : ByteArray)
def Raw4.small (p : Raw4) : Prop := p.s.size ≤ 6 ∧ p.t.size ≤ 6 ∧ p.u.size ≤ 6 ∧ p.v.size ≤ 6
instance (p : Raw4) : Decidable p.small := inferInstanceAs (Decidable (_ ∧ _ ∧ _ ∧ _))
def Raw4.cells (p : Raw4) : List Value := [.bool p.a, .string p.s, .bool p.b, .string p.t, .bool p.c, .string p.u, .bool p.d, .string p.v]
/-- A slice that reads as a list of points. -/
def RdP (w : World) (A : Option Addr) (L : List Raw4) : Prop := ∀ k, (h : k < L.length) → ∃ g, A = some ⟨g, 0, none⟩ ∧ (w.cell? ⟨g, k * 8, none⟩ = some (.bool L[k].a) ∧ w.cell? ⟨g, k * 8 + 1, none⟩ = some (.string L[k].s) ∧ w.cell? ⟨g, k * 8 + 2, none⟩ = some (.bool L[k].b) ∧ w.cell? ⟨g, k * 8 + 3, none⟩ = some (.string L[k].t) ∧
  w.cell? ⟨g, k * 8 + 4, none⟩ = some (.bool L[k].c) ∧ w.cell? ⟨g, k * 8 + 5, none⟩ = some (.string L[k].u) ∧ w.cell? ⟨g, k * 8 + 6, none⟩ = some (.bool L[k].d) ∧ w.cell? ⟨g, k * 8 + 7, none⟩ = some (.string L[k].v)) ∧ g < w.heap.size
theorem cells8_at : ∀ (L : List Raw4) (k j : Nat) (h : k < L.length), j < 8 → (L.flatMap Raw4.cells)[k * 8 + j]? = L[k].cells[j]?
  | p :: L, 0, j, _, hj => by
    rw [List.flatMap_cons, Nat.zero_mul, Nat.zero_add, List.getElem?_append_left (by show j < 8; exact hj)]
    rfl
  | p :: L, k + 1, j, h, hj => by
    have e : p.cells.length = 8 := rfl
    rw [List.flatMap_cons, List.getElem?_append_right (by omega), e, show (k + 1) * 8 + j - 8 = k * 8 + j by omega, cells8_at L k j (by simpa using h) hj]
    rfl
theorem RdP.of {w : World} {g : Nat} {L : List Raw4} (h : SX.CellsAt w g 0 (L.flatMap Raw4.cells)) : RdP w (some ⟨g, 0, none⟩) L := fun k hk => by
  have hne : L.flatMap Raw4.cells ≠ [] := by
    cases L with
    | nil => simp at hk
    | cons p L => simp [Raw4.cells]
  have at_ : ∀ j v, j < 8 → L[k].cells[j]? = some v → w.cell? ⟨g, k * 8 + j, none⟩ = some v := fun j v hj hv => by
    have := h (k * 8 + j) v (by rw [cells8_at L k j hk hj]; exact hv)
    rwa [Nat.zero_add] at this
  exact ⟨g, rfl, ⟨at_ 0 _ (by decide) rfl, at_ 1 _ (by decide) rfl, at_ 2 _ (by decide) rfl, at_ 3 _ (by decide) rfl, at_ 4 _ (by decide) rfl, at_ 5 _ (by decide) rfl, at_ 6 _ (by decide) rfl, at_ 7 _ (by decide) rfl⟩, SX.cells_lt h hne⟩
/-- What Great returns. -/
def greatI (L : List Raw4) : Int := if ∀ p ∈ L, p.small then 0 else 1
theorem greatI_no {L : List Raw4} (h : ∀ p ∈ L, p.small) : greatI L = 0 := if_pos h
theorem greatI_yes {L : List Raw4} (h : ¬ ∀ p ∈ L, p.small) : greatI L = 1 := if_neg h
set_option maxHeartbeats 1000000 in
theorem Great6_any (A : Option Addr) (L : List Raw4) (n c : Nat) (w : World) (hn : n = L.length) (hL : L.length ≤ 1000000) (hR : RdP w A L) :
    Calls Tryd.prog 6 #[.slice A n c] w fun e w' => e = .returned (.int .i64 (greatI L)) ∧ Below w.heap.size w w' := by
  subst hn
  have HR := Lib.hid hR
  clear hR
  go_enter Tryd.func6, Tryd.ntmps6
  go_wp2_with fail
  go_loopw [7] (fun i wr => ∃ k : Nat, k ≤ L.length ∧ i = .int .i64 k ∧ (∀ p ∈ L.take k, p.small) ∧ Below w.heap.size w wr) (fun i _ => L.length - (intOf i).toNat)
  case atStart => exact ⟨0, Nat.zero_le _, rfl, by simp, Below.refl _ _⟩
  case round =>
    obtain ⟨k, hk, rfl, hsm, hb⟩ := hrel
    have HS := Lib.hid hsm
    clear hsm
    have hbs := hb.size
    by_cases hlt : k < L.length
    · obtain ⟨g, hA, ⟨c0, c1, c2, c3, c4, c5, c6, c7⟩, hgl⟩ := HR.out k hlt
      have d0 := (hb.cell (p := ⟨g, k * 8, none⟩) hgl).trans c0
      have d1 := (hb.cell (p := ⟨g, k * 8 + 1, none⟩) hgl).trans c1
      have d2 := (hb.cell (p := ⟨g, k * 8 + 2, none⟩) hgl).trans c2
      have d3 := (hb.cell (p := ⟨g, k * 8 + 3, none⟩) hgl).trans c3
      have d4 := (hb.cell (p := ⟨g, k * 8 + 4, none⟩) hgl).trans c4
      have d5 := (hb.cell (p := ⟨g, k * 8 + 5, none⟩) hgl).trans c5
      have d6 := (hb.cell (p := ⟨g, k * 8 + 6, none⟩) hgl).trans c6
      have d7 := (hb.cell (p := ⟨g, k * 8 + 7, none⟩) hgl).trans c7
      clear c0 c1 c2 c3 c4 c5 c6 c7
      subst hA
      have Hno := Lib.hid (fun h : ¬ L[k].small => greatI_yes (fun ha => h (ha _ (List.getElem_mem hlt))))
      have Hgo := Lib.hid (fun h : L[k].small => (fun p hp => by
        rw [List.take_succ_eq_append_getElem hlt, List.mem_append, List.mem_singleton] at hp
        rcases hp with hp | rfl
        · exact HS.out p hp
        · exact h : ∀ p ∈ L.take (k + 1), p.small))
      generalize L[k] = x at *
      by_cases h1 : x.s.size ≤ 6
      rotate_left
      · go_wp2_with fail
        go_ret
        exact ⟨by rw [Hno.out (fun h => h1 h.1)]; rfl, hb.alloc hbs _⟩
      by_cases h2 : x.t.size ≤ 6
      rotate_left
      · go_wp2_with fail
        go_ret
        exact ⟨by rw [Hno.out (fun h => h2 h.2.1)]; rfl, hb.alloc hbs _⟩
      by_cases h3 : x.u.size ≤ 6
      rotate_left
      · go_wp2_with fail
        go_ret
        exact ⟨by rw [Hno.out (fun h => h3 h.2.2.1)]; rfl, hb.alloc hbs _⟩
      by_cases h4 : x.v.size ≤ 6
      rotate_left
      · go_wp2_with fail
        go_ret
        exact ⟨by rw [Hno.out (fun h => h4 h.2.2.2)]; rfl, hb.alloc hbs _⟩
      go_wp2_with fail
      exact ⟨⟨k + 1, by omega, by go_num, Hgo.out ⟨h1, h2, h3, h4⟩, hb.alloc hbs _⟩, by simp [intOf]; omega⟩
    · obtain rfl : k = L.length := by omega
      have hz := greatI_no (L := L) (by have := HS.out; rwa [List.take_length] at this)
      have Hz := Lib.hid hz
      clear hz
      go_wp2_with fail
      go_ret
      exact ⟨by rw [Hz.out]; rfl, hb⟩
end Go.Proofs.YtfapglafeghggaaDoor
