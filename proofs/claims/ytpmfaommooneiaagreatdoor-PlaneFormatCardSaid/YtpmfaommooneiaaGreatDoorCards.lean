/-
  DERIVED. GIVEN WITH THE SEED: THE CARDS: each row of YtpmfaommooneiaaGreatDoorRows.lean that lists a variable, with what it lists TIED to the program's text (the seventh form; the later family's looks); each row that meets fmt, with fmt's text TOLD by the authors' own Lean function (tested against real Go, not proved from fmt's source: count such statements apart). THE CARD IS WHAT COUNTS. Prove the row's statement (the work); the ties are given (YtpmfaommooneiaaGreatDoorTie.lean); close each card by the builder's one call (the guide's Derived/Test/ToyasCard.lean, 'card_holds'). Laid BY PROGRAM, IN A SANDBOX (cutbox-door.mjs). By AI agents, Wed Nov 11 2026. No macro, syntax, notation, axiom, sorry.
-/
import Derived.Test.YtpmfaommooneiaaGreatDoorRows
import GoSem.ClaimSeven
namespace Go.Proofs.YtpmfaommooneiaaGreatDoor
namespace Rows

/-- THE TIED CARD OF 'voussoirlaw05.PlaneCanonical'. -/
def planeCanonicalCard : Claim7 := { stood := { row := planeCanonicalRow, standIns := [], harness := (true, "4d188e7d8cd4a4163dd90cb58f44a4f190c729edf62e7d2429d108702957ae1c"), looks := false }, kinds := [], alts := [], laidByText := true, laidKinds := [.data], laidTests := true, laidLooks := .later }
def PlaneCanonicalCardSaid : Prop := Claim7.holds Tryz.pinned (.plain (OpenSpec.ofChange planeCanonicalSpec)) planeCanonicalCard

/-- THE TIED CARD OF 'voussoirlaw05.PlaneThrough'. -/
def planeThroughCard : Claim7 := { stood := { row := planeThroughRow, standIns := [], harness := (true, "4d188e7d8cd4a4163dd90cb58f44a4f190c729edf62e7d2429d108702957ae1c"), looks := false }, kinds := [], alts := [], laidByText := true, laidKinds := [.data], laidTests := true, laidLooks := .later }
def PlaneThroughCardSaid : Prop := Claim7.holds Tryz.pinned (.plain (OpenSpec.ofChange planeThroughSpec)) planeThroughCard

/-- THE TIED CARD OF 'voussoirlaw05.PlaneSides'. -/
def planeSidesCard : Claim7 := { stood := { row := planeSidesRow, standIns := [], harness := (true, "4d188e7d8cd4a4163dd90cb58f44a4f190c729edf62e7d2429d108702957ae1c"), looks := false }, kinds := [], alts := [], laidByText := true, laidKinds := [.data], laidTests := true, laidLooks := .later }
def PlaneSidesCardSaid : Prop := Claim7.holds Tryz.pinned (.plain (OpenSpec.ofChange planeSidesSpec)) planeSidesCard

/-- THE TIED CARD OF 'voussoirlaw05.PlaneProjection'. -/
def planeProjectionCard : Claim7 := { stood := { row := planeProjectionRow, standIns := [], harness := (true, "4d188e7d8cd4a4163dd90cb58f44a4f190c729edf62e7d2429d108702957ae1c"), looks := false }, kinds := [], alts := [], laidByText := true, laidKinds := [.data], laidTests := true, laidLooks := .later }
def PlaneProjectionCardSaid : Prop := Claim7.holds Tryz.pinned (.plain (OpenSpec.ofChange planeProjectionSpec)) planeProjectionCard

/-- THE TIED CARD OF 'voussoirlaw05.PlaneOffsets'. -/
def planeOffsetsCard : Claim7 := { stood := { row := planeOffsetsRow, standIns := [], harness := (true, "4d188e7d8cd4a4163dd90cb58f44a4f190c729edf62e7d2429d108702957ae1c"), looks := false }, kinds := [], alts := [], laidByText := true, laidKinds := [.data], laidTests := true, laidLooks := .later }
def PlaneOffsetsCardSaid : Prop := Claim7.holds Tryz.pinned (.plain (OpenSpec.ofChange planeOffsetsSpec)) planeOffsetsCard

/-- THE TIED CARD OF 'voussoirlaw05.PlaneFormat'. -/
def planeFormatCard : Claim7 := { stood := { row := planeFormatRow, standIns := [], harness := (true, "4d188e7d8cd4a4163dd90cb58f44a4f190c729edf62e7d2429d108702957ae1c"), looks := false }, kinds := [], alts := [], laidByText := true, laidKinds := [.data, .data, .pinned], laidTests := true, laidLooks := .later }
def PlaneFormatCardSaid : Prop := Claim7.holds Tryz.pinned (.plain (OpenSpec.ofChange planeFormatSpec)) planeFormatCard

/-- THE TIED CARD OF 'voussoirlaw05.PlaneOrder'. -/
def planeOrderCard : Claim7 := { stood := { row := planeOrderRow, standIns := [], harness := (true, "4d188e7d8cd4a4163dd90cb58f44a4f190c729edf62e7d2429d108702957ae1c"), looks := false }, kinds := [], alts := [], laidByText := true, laidKinds := [.data], laidTests := true, laidLooks := .later }
def PlaneOrderCardSaid : Prop := Claim7.holds Tryz.pinned (.plain (OpenSpec.ofChange planeOrderSpec)) planeOrderCard

/-- THE SECOND FORM's CARD OF 'voussoirlaw05.PlaneCanonical'. -/
def planeCanonicalUptoCard : Claim7 := { stood := { row := planeCanonicalUptoRow, standIns := [], harness := (true, "4d188e7d8cd4a4163dd90cb58f44a4f190c729edf62e7d2429d108702957ae1c"), looks := false }, kinds := [], alts := [], laidByText := true, laidKinds := [.data], laidTests := true, laidLooks := .later }
def PlaneCanonicalUptoCardSaid : Prop := Claim7.holds Tryz.pinned (.plain (OpenSpec.upto planeCanonicalSpec)) planeCanonicalUptoCard

/-- THE SECOND FORM's CARD OF 'voussoirlaw05.PlaneThrough'. -/
def planeThroughUptoCard : Claim7 := { stood := { row := planeThroughUptoRow, standIns := [], harness := (true, "4d188e7d8cd4a4163dd90cb58f44a4f190c729edf62e7d2429d108702957ae1c"), looks := false }, kinds := [], alts := [], laidByText := true, laidKinds := [.data], laidTests := true, laidLooks := .later }
def PlaneThroughUptoCardSaid : Prop := Claim7.holds Tryz.pinned (.plain (OpenSpec.upto planeThroughSpec)) planeThroughUptoCard

/-- THE SECOND FORM's CARD OF 'voussoirlaw05.PlaneSides'. -/
def planeSidesUptoCard : Claim7 := { stood := { row := planeSidesUptoRow, standIns := [], harness := (true, "4d188e7d8cd4a4163dd90cb58f44a4f190c729edf62e7d2429d108702957ae1c"), looks := false }, kinds := [], alts := [], laidByText := true, laidKinds := [.data], laidTests := true, laidLooks := .later }
def PlaneSidesUptoCardSaid : Prop := Claim7.holds Tryz.pinned (.plain (OpenSpec.upto planeSidesSpec)) planeSidesUptoCard

/-- THE SECOND FORM's CARD OF 'voussoirlaw05.PlaneProjection'. -/
def planeProjectionUptoCard : Claim7 := { stood := { row := planeProjectionUptoRow, standIns := [], harness := (true, "4d188e7d8cd4a4163dd90cb58f44a4f190c729edf62e7d2429d108702957ae1c"), looks := false }, kinds := [], alts := [], laidByText := true, laidKinds := [.data], laidTests := true, laidLooks := .later }
def PlaneProjectionUptoCardSaid : Prop := Claim7.holds Tryz.pinned (.plain (OpenSpec.upto planeProjectionSpec)) planeProjectionUptoCard

/-- THE SECOND FORM's CARD OF 'voussoirlaw05.PlaneOffsets'. -/
def planeOffsetsUptoCard : Claim7 := { stood := { row := planeOffsetsUptoRow, standIns := [], harness := (true, "4d188e7d8cd4a4163dd90cb58f44a4f190c729edf62e7d2429d108702957ae1c"), looks := false }, kinds := [], alts := [], laidByText := true, laidKinds := [.data], laidTests := true, laidLooks := .later }
def PlaneOffsetsUptoCardSaid : Prop := Claim7.holds Tryz.pinned (.plain (OpenSpec.upto planeOffsetsSpec)) planeOffsetsUptoCard

/-- THE SECOND FORM's CARD OF 'voussoirlaw05.PlaneFormat'. -/
def planeFormatUptoCard : Claim7 := { stood := { row := planeFormatUptoRow, standIns := [], harness := (true, "4d188e7d8cd4a4163dd90cb58f44a4f190c729edf62e7d2429d108702957ae1c"), looks := false }, kinds := [], alts := [], laidByText := true, laidKinds := [.data, .data, .pinned], laidTests := true, laidLooks := .later }
def PlaneFormatUptoCardSaid : Prop := Claim7.holds Tryz.pinned (.plain (OpenSpec.upto planeFormatSpec)) planeFormatUptoCard

/-- THE SECOND FORM's CARD OF 'voussoirlaw05.PlaneOrder'. -/
def planeOrderUptoCard : Claim7 := { stood := { row := planeOrderUptoRow, standIns := [], harness := (true, "4d188e7d8cd4a4163dd90cb58f44a4f190c729edf62e7d2429d108702957ae1c"), looks := false }, kinds := [], alts := [], laidByText := true, laidKinds := [.data], laidTests := true, laidLooks := .later }
def PlaneOrderUptoCardSaid : Prop := Claim7.holds Tryz.pinned (.plain (OpenSpec.upto planeOrderSpec)) planeOrderUptoCard
end Rows
end Go.Proofs.YtpmfaommooneiaaGreatDoor
