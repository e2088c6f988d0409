/-
  DERIVED. GIVEN WITH THE SEED: THE CARDS: each row of YtdgppfccolhaeaaGreatDoorRows.lean that lists a variable, with what it lists TIED to the program's text (the seventh form; the later family's looks); each row that meets fmt, with fmt's text TOLD by the authors' own Lean function (tested against real Go, not proved from fmt's source: count such statements apart). THE CARD IS WHAT COUNTS. Prove the row's statement (the work); the ties are given (YtdgppfccolhaeaaGreatDoorTie.lean); close each card by the builder's one call (the guide's Derived/Test/ToyasCard.lean, 'card_holds'). Laid BY PROGRAM, IN A SANDBOX (cutbox-door.mjs). By AI agents, Wed Nov 11 2026. No macro, syntax, notation, axiom, sorry.
-/
import Derived.Test.YtdgppfccolhaeaaGreatDoorRows
import GoSem.ClaimSeven
namespace Go.Proofs.YtdgppfccolhaeaaGreatDoor
namespace Rows

/-- THE TIED CARD OF 'voussoirlaw04.PointForms'. -/
def pointFormsCard : Claim7 := { stood := { row := pointFormsRow, standIns := [], harness := (true, "990317b3ff15e494e940d30790c9164fcfdb7c5c97a046fa07153bfcfb945d4d"), looks := false }, kinds := [], alts := [], laidByText := true, laidKinds := [.data], laidTests := true, laidLooks := .later }
def PointFormsCardSaid : Prop := Claim7.holds Tryz.pinned (.plain (OpenSpec.ofChange pointFormsSpec)) pointFormsCard

/-- THE TIED CARD OF 'voussoirlaw04.PointMoves'. -/
def pointMovesCard : Claim7 := { stood := { row := pointMovesRow, standIns := [], harness := (true, "990317b3ff15e494e940d30790c9164fcfdb7c5c97a046fa07153bfcfb945d4d"), looks := false }, kinds := [], alts := [], laidByText := true, laidKinds := [.data], laidTests := true, laidLooks := .later }
def PointMovesCardSaid : Prop := Claim7.holds Tryz.pinned (.plain (OpenSpec.ofChange pointMovesSpec)) pointMovesCard

/-- THE TIED CARD OF 'voussoirlaw04.PointStrings'. -/
def pointStringsCard : Claim7 := { stood := { row := pointStringsRow, standIns := [], harness := (true, "990317b3ff15e494e940d30790c9164fcfdb7c5c97a046fa07153bfcfb945d4d"), looks := false }, kinds := [], alts := [], laidByText := true, laidKinds := [.data, .data, .pinned], laidTests := true, laidLooks := .later }
def PointStringsCardSaid : Prop := Claim7.holds Tryz.pinned (.plain (OpenSpec.ofChange pointStringsSpec)) pointStringsCard

/-- THE TIED CARD OF 'voussoirlaw04.PointRoundTrip'. -/
def pointRoundTripCard : Claim7 := { stood := { row := pointRoundTripRow, standIns := [], harness := (true, "990317b3ff15e494e940d30790c9164fcfdb7c5c97a046fa07153bfcfb945d4d"), looks := false }, kinds := [], alts := [], laidByText := true, laidKinds := [.data], laidTests := true, laidLooks := .later }
def PointRoundTripCardSaid : Prop := Claim7.holds Tryz.pinned (.plain (OpenSpec.ofChange pointRoundTripSpec)) pointRoundTripCard

/-- THE TIED CARD OF 'voussoirlaw04.PointOrder'. -/
def pointOrderCard : Claim7 := { stood := { row := pointOrderRow, standIns := [], harness := (true, "990317b3ff15e494e940d30790c9164fcfdb7c5c97a046fa07153bfcfb945d4d"), looks := false }, kinds := [], alts := [], laidByText := true, laidKinds := [.data], laidTests := true, laidLooks := .later }
def PointOrderCardSaid : Prop := Claim7.holds Tryz.pinned (.plain (OpenSpec.ofChange pointOrderSpec)) pointOrderCard

/-- THE TIED CARD OF 'voussoirlaw04.PointLerp'. -/
def pointLerpCard : Claim7 := { stood := { row := pointLerpRow, standIns := [], harness := (true, "990317b3ff15e494e940d30790c9164fcfdb7c5c97a046fa07153bfcfb945d4d"), looks := false }, kinds := [], alts := [], laidByText := true, laidKinds := [.data], laidTests := true, laidLooks := .later }
def PointLerpCardSaid : Prop := Claim7.holds Tryz.pinned (.plain (OpenSpec.ofChange pointLerpSpec)) pointLerpCard

/-- THE TIED CARD OF 'voussoirlaw04.PointScaling'. -/
def pointScalingCard : Claim7 := { stood := { row := pointScalingRow, standIns := [], harness := (true, "990317b3ff15e494e940d30790c9164fcfdb7c5c97a046fa07153bfcfb945d4d"), looks := false }, kinds := [], alts := [], laidByText := true, laidKinds := [.data], laidTests := true, laidLooks := .later }
def PointScalingCardSaid : Prop := Claim7.holds Tryz.pinned (.plain (OpenSpec.ofChange pointScalingSpec)) pointScalingCard

/-- THE SECOND FORM's CARD OF 'voussoirlaw04.PointForms'. -/
def pointFormsUptoCard : Claim7 := { stood := { row := pointFormsUptoRow, standIns := [], harness := (true, "990317b3ff15e494e940d30790c9164fcfdb7c5c97a046fa07153bfcfb945d4d"), looks := false }, kinds := [], alts := [], laidByText := true, laidKinds := [.data], laidTests := true, laidLooks := .later }
def PointFormsUptoCardSaid : Prop := Claim7.holds Tryz.pinned (.plain (OpenSpec.upto pointFormsSpec)) pointFormsUptoCard

/-- THE SECOND FORM's CARD OF 'voussoirlaw04.PointMoves'. -/
def pointMovesUptoCard : Claim7 := { stood := { row := pointMovesUptoRow, standIns := [], harness := (true, "990317b3ff15e494e940d30790c9164fcfdb7c5c97a046fa07153bfcfb945d4d"), looks := false }, kinds := [], alts := [], laidByText := true, laidKinds := [.data], laidTests := true, laidLooks := .later }
def PointMovesUptoCardSaid : Prop := Claim7.holds Tryz.pinned (.plain (OpenSpec.upto pointMovesSpec)) pointMovesUptoCard

/-- THE SECOND FORM's CARD OF 'voussoirlaw04.PointStrings'. -/
def pointStringsUptoCard : Claim7 := { stood := { row := pointStringsUptoRow, standIns := [], harness := (true, "990317b3ff15e494e940d30790c9164fcfdb7c5c97a046fa07153bfcfb945d4d"), looks := false }, kinds := [], alts := [], laidByText := true, laidKinds := [.data, .data, .pinned], laidTests := true, laidLooks := .later }
def PointStringsUptoCardSaid : Prop := Claim7.holds Tryz.pinned (.plain (OpenSpec.upto pointStringsSpec)) pointStringsUptoCard

/-- THE SECOND FORM's CARD OF 'voussoirlaw04.PointRoundTrip'. -/
def pointRoundTripUptoCard : Claim7 := { stood := { row := pointRoundTripUptoRow, standIns := [], harness := (true, "990317b3ff15e494e940d30790c9164fcfdb7c5c97a046fa07153bfcfb945d4d"), looks := false }, kinds := [], alts := [], laidByText := true, laidKinds := [.data], laidTests := true, laidLooks := .later }
def PointRoundTripUptoCardSaid : Prop := Claim7.holds Tryz.pinned (.plain (OpenSpec.upto pointRoundTripSpec)) pointRoundTripUptoCard

/-- THE SECOND FORM's CARD OF 'voussoirlaw04.PointOrder'. -/
def pointOrderUptoCard : Claim7 := { stood := { row := pointOrderUptoRow, standIns := [], harness := (true, "990317b3ff15e494e940d30790c9164fcfdb7c5c97a046fa07153bfcfb945d4d"), looks := false }, kinds := [], alts := [], laidByText := true, laidKinds := [.data], laidTests := true, laidLooks := .later }
def PointOrderUptoCardSaid : Prop := Claim7.holds Tryz.pinned (.plain (OpenSpec.upto pointOrderSpec)) pointOrderUptoCard

/-- THE SECOND FORM's CARD OF 'voussoirlaw04.PointLerp'. -/
def pointLerpUptoCard : Claim7 := { stood := { row := pointLerpUptoRow, standIns := [], harness := (true, "990317b3ff15e494e940d30790c9164fcfdb7c5c97a046fa07153bfcfb945d4d"), looks := false }, kinds := [], alts := [], laidByText := true, laidKinds := [.data], laidTests := true, laidLooks := .later }
def PointLerpUptoCardSaid : Prop := Claim7.holds Tryz.pinned (.plain (OpenSpec.upto pointLerpSpec)) pointLerpUptoCard

/-- THE SECOND FORM's CARD OF 'voussoirlaw04.PointScaling'. -/
def pointScalingUptoCard : Claim7 := { stood := { row := pointScalingUptoRow, standIns := [], harness := (true, "990317b3ff15e494e940d30790c9164fcfdb7c5c97a046fa07153bfcfb945d4d"), looks := false }, kinds := [], alts := [], laidByText := true, laidKinds := [.data], laidTests := true, laidLooks := .later }
def PointScalingUptoCardSaid : Prop := Claim7.holds Tryz.pinned (.plain (OpenSpec.upto pointScalingSpec)) pointScalingUptoCard
end Rows
end Go.Proofs.YtdgppfccolhaeaaGreatDoor
