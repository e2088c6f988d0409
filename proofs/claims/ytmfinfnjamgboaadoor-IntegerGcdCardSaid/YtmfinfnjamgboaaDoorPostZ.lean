/- An integer among a row's arguments: opened and shut. -/
import Derived.Test.YtmfinfnjamgboaaDoorRows
import Derived.Test.YtmfinfnjamgboaaDoorZ
import Derived.Test.YtmfinfnjamgboaaDoorPost
import Derived.Lib.SmallJoins
namespace Go.Proofs.YtmfinfnjamgboaaDoor
open Go.ChangeShapes Go.WideShapes Go.ChangeAt Go.RowKit Go.Joins

theorem cellsZ : Tryd.prog.cellsOf 23 = 2 := by kernel_rfl
section
variable {H : Type} {enc : TypeId × Value → H} {W : World} {base : Nat} {spare : Nat → Bool} {held : Bool}
theorem openZ {r : Reach} {b0 : Nat} {v : Value} {d : DataW H} {p : List MemPlace} (hv : Value.okWide Tryd.prog W r b0 23 v) (h : DataW.Trod enc Tryd.prog W base spare held 23 v d p) :
    ∃ (n : Bool) (s : ByteArray), v = I2 n s ∧ d = .agg [.lit (.bool n), .lit (.string s.data.toList)] ∧ p = [] ∧ s.size ≤ maxLen := by
  obtain ⟨c0, c1, y0, y1, m, rfl, rfl, rfl, hy0, hy1⟩ := open_agg2 Tryd.underlying23 (by kernel_rfl) cellsZ hv h
  obtain ⟨n, e0, rfl⟩ := DataW.trod_bool Tryd.underlying4 hy0
  obtain ⟨s, e1, rfl, hs⟩ := DataW.trod_string Tryd.underlying9 hy1
  simp at e0 e1
  subst e0 e1
  exact ⟨n, s, rfl, rfl, rfl, hs⟩
theorem shutZ (n : Bool) {s : ByteArray} (hs : s.size ≤ maxLen) : DataW.Trod enc Tryd.prog W base spare held 23 (I2 n s) (.agg [.lit (.bool n), .lit (.string s.data.toList)]) [] :=
  shut_agg2 (y0 := (.lit (.bool n), [])) (y1 := (.lit (.string s.data.toList), [])) Tryd.underlying23 (by kernel_rfl) cellsZ
    ⟨1, by simp [DataW.trod, Tryd.underlying4]⟩ ⟨1, by simp [DataW.trod, Tryd.underlying9, hs]⟩
end
end Go.Proofs.YtmfinfnjamgboaaDoor
