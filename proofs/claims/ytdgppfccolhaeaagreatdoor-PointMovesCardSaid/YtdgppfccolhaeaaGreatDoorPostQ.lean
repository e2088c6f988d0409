/- A rational number among a row's arguments: opened and shut; a world for the witness that lays three tables. -/
import Derived.Test.YtdgppfccolhaeaaGreatDoorRows
import Derived.Test.YtdgppfccolhaeaaGreatDoorRat
import Derived.Test.YtdgppfccolhaeaaGreatDoorPostZ
import Derived.Lib.SmallJoins
set_option linter.unusedVariables false
set_option linter.unusedSimpArgs false
namespace Go.Proofs.YtdgppfccolhaeaaGreatDoor
open Go.ChangeShapes Go.WideShapes Go.ChangeAt Go.RowKit Go.Joins

theorem cellsQ : Tryz.prog.cellsOf 27 = 3 := by kernel_rfl
section
variable {H : Type} {enc : TypeId × Value → H} {W : World} {base : Nat} {spare : Nat → Bool} {held : Bool}
set_option maxRecDepth 100000 in
theorem openQ {r : Reach} {b0 : Nat} {v : Value} {d : DataW H} {p : List MemPlace} (hv : Value.okWide Tryz.prog W r b0 27 v) (h : DataW.Trod enc Tryz.prog W base spare held 27 v d p) :
    ∃ (n : Bool) (s t : ByteArray), v = Q3 n s t ∧ d = .agg [.lit (.bool n), .lit (.string s.data.toList), .lit (.string t.data.toList)] ∧ p = [] ∧ s.size ≤ maxLen ∧ t.size ≤ maxLen := by
  obtain ⟨c0, c1, c2, y0, y1, y2, m, rfl, rfl, rfl, hy0, hy1, hy2⟩ := open_agg3 Tryz.underlying27 (by kernel_rfl) cellsQ hv h
  obtain ⟨n, e0, rfl⟩ := DataW.trod_bool Tryz.underlying4 hy0
  obtain ⟨s, e1, rfl, hs⟩ := DataW.trod_string Tryz.underlying9 hy1
  obtain ⟨t, e2, rfl, ht⟩ := DataW.trod_string Tryz.underlying9 hy2
  simp at e0 e1 e2
  subst e0 e1 e2
  exact ⟨n, s, t, rfl, rfl, rfl, hs, ht⟩
set_option maxRecDepth 100000 in
theorem shutQ (n : Bool) {s t : ByteArray} (hs : s.size ≤ maxLen) (ht : t.size ≤ maxLen) : DataW.Trod enc Tryz.prog W base spare held 27 (Q3 n s t) (.agg [.lit (.bool n), .lit (.string s.data.toList), .lit (.string t.data.toList)]) [] :=
  shut_agg3 (y0 := (.lit (.bool n), [])) (y1 := (.lit (.string s.data.toList), [])) (y2 := (.lit (.string t.data.toList), [])) Tryz.underlying27 (by kernel_rfl) cellsQ
    ⟨1, by simp [DataW.trod, Tryz.underlying4]⟩ ⟨1, by simp [DataW.trod, Tryz.underlying9, hs]⟩ ⟨1, by simp [DataW.trod, Tryz.underlying9, ht]⟩
end
theorem tab_of_laidR {rest : List (String × DataW Unit)} {W : World} (h : laidMetH Tryz.prog (("math/bits.deBruijn32tab", Rows.laid_math_bits_deBruijn32tab) :: rest) W)
    (hr : ((("math/bits.deBruijn32tab", Rows.laid_math_bits_deBruijn32tab) :: rest : List (String × DataW Unit)).filter fun x => x.2.handleName?.isSome) = []) : Tab W := by
  unfold laidMetH at h
  rw [hr] at h
  exact Lib.tabIs_of_head (rest := rest) gTab gTabType Tryz.underlying179 Tryz.underlying5 cellsByte cellsTab h
def rangeNums : List Int := [128, 191, 160, 191, 128, 159, 144, 191, 128, 143, 0, 0, 0, 0, 0, 0, 0, 0, 0, 0, 0, 0, 0, 0, 0, 0, 0, 0, 0, 0, 0, 0]
/-- A world for the witness: the settled one, three tables as their initialisers lay them. -/
noncomputable def laidWorld3 (os : Os) : World :=
  { laidWorld os with heap := ((laidWorld os).heap.modify 1 fun
      | .cells _ t frozen => .cells (Go.Pinned.utf8FirstZ.map fun (n : Nat) => Value.int .u8 (n : Int)).toArray t frozen
      | o => o).modify 2 fun
      | .cells _ t frozen => .cells (rangeNums.map (Value.int .u8)).toArray t frozen
      | o => o }
end Go.Proofs.YtdgppfccolhaeaaGreatDoor
