/- An integer among a row's arguments: opened and shut. -/
import Derived.Test.YtdgppfccolhaeaaGreatDoorRows
import Derived.Test.YtdgppfccolhaeaaGreatDoorI1
import Derived.Test.YtdgppfccolhaeaaGreatDoorN5
import Derived.Lib.SmallJoins
set_option linter.unusedVariables false
set_option linter.unusedSimpArgs false
namespace Go.Proofs.YtdgppfccolhaeaaGreatDoor
open Go.ChangeShapes Go.WideShapes Go.ChangeAt Go.RowKit Go.Joins

theorem cellsZ : Tryz.prog.cellsOf 23 = 2 := by kernel_rfl
section
variable {H : Type} {enc : TypeId × Value → H} {W : World} {base : Nat} {spare : Nat → Bool} {held : Bool}
set_option maxRecDepth 100000 in
theorem openZ {r : Reach} {b0 : Nat} {v : Value} {d : DataW H} {p : List MemPlace} (hv : Value.okWide Tryz.prog W r b0 23 v) (h : DataW.Trod enc Tryz.prog W base spare held 23 v d p) :
    ∃ (n : Bool) (s : ByteArray), v = I2 n s ∧ d = .agg [.lit (.bool n), .lit (.string s.data.toList)] ∧ p = [] ∧ s.size ≤ maxLen := by
  obtain ⟨c0, c1, y0, y1, m, rfl, rfl, rfl, hy0, hy1⟩ := open_agg2 Tryz.underlying23 (by kernel_rfl) cellsZ hv h
  obtain ⟨n, e0, rfl⟩ := DataW.trod_bool Tryz.underlying4 hy0
  obtain ⟨s, e1, rfl, hs⟩ := DataW.trod_string Tryz.underlying9 hy1
  simp at e0 e1
  subst e0 e1
  exact ⟨n, s, rfl, rfl, rfl, hs⟩
set_option maxRecDepth 100000 in
theorem shutZ (n : Bool) {s : ByteArray} (hs : s.size ≤ maxLen) : DataW.Trod enc Tryz.prog W base spare held 23 (I2 n s) (.agg [.lit (.bool n), .lit (.string s.data.toList)]) [] :=
  shut_agg2 (y0 := (.lit (.bool n), [])) (y1 := (.lit (.string s.data.toList), [])) Tryz.underlying23 (by kernel_rfl) cellsZ
    ⟨1, by simp [DataW.trod, Tryz.underlying4]⟩ ⟨1, by simp [DataW.trod, Tryz.underlying9, hs]⟩
end
end Go.Proofs.YtdgppfccolhaeaaGreatDoor
