/- Texts of rational numbers, in the words of Is. -/
import Derived.Test.YtdgppfccolhaeaaGreatDoorIs
import Derived.Test.YtdgppfccolhaeaaGreatDoorQp
set_option linter.unusedVariables false
set_option linter.unusedSimpArgs false
namespace Go.Proofs.YtdgppfccolhaeaaGreatDoor
open Go.RowKit NM SX
theorem textQ_sz {q : Rat} {k : Nat} (h : Rk q k) : (textQ q).size ≤ 6 * k + 5 := by
  have h1 := decZ_size h.1
  have h2 := decZ_size (mg_den h)
  have h3 : (⟨#[47]⟩ : ByteArray).size = 1 := rfl
  unfold textQ
  split
  · omega
  · rw [ByteArray.size_append, ByteArray.size_append, h3]; omega
theorem qText {u0 : Value} {x0 : Rat} {k0 : Nat} (hu0 : IsQ u0 x0 k0) (hk0 : k0 ≤ 50000) (w : World) (hT : TabC w) :
    Calls Tryz.prog 48 #[u0] w fun e w' => e = .returned (.string (textQ x0)) ∧ Below w.heap.size w w' := by
  obtain ⟨n0, s0, t0, rfl, rfl, h01, h02⟩ := hu0
  exact FormatQ_any n0 s0 t0 w (by omega) (by omega) hT
theorem rText {u0 : Value} {x0 : Rat} {k0 : Nat} (hu0 : IsQ u0 x0 k0) (hk0 : k0 ≤ 50000) (w : World) :
    Calls Tryz.prog 50 #[u0] w fun e w' => e = .returned (.string (textQ x0)) ∧ Below w.heap.size w w' := by
  obtain ⟨n0, s0, t0, rfl, rfl, h01, h02⟩ := hu0
  exact rText_any n0 s0 t0 w (by omega) (by omega)
end Go.Proofs.YtdgppfccolhaeaaGreatDoor
