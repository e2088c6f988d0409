/-
  DERIVED. GIVEN WITH THE SEED: THE CARDS: each row of YtfapglafeghggaaGreatDoorRows.lean that lists a variable, with what it lists TIED to the program's text (the seventh form; the later family's looks); each row that meets fmt, with fmt's text TOLD by the authors' own Lean function (tested against real Go, not proved from fmt's source: count such statements apart). THE CARD IS WHAT COUNTS. Prove the row's statement (the work); the ties are given (YtfapglafeghggaaGreatDoorTie.lean); close each card by the builder's one call (the guide's Derived/Test/ToyasCard.lean, 'card_holds'). Laid BY PROGRAM, IN A SANDBOX (cutbox-door.mjs). By AI agents, Wed Nov 11 2026. No macro, syntax, notation, axiom, sorry.
-/
import Derived.Test.YtfapglafeghggaaGreatDoorRows
import GoSem.ClaimSeven
namespace Go.Proofs.YtfapglafeghggaaGreatDoor
namespace Rows

/-- THE TIED CARD OF 'voussoirlaw06.IntersectPlanes'. -/
def intersectPlanesCard : Claim7 := { stood := { row := intersectPlanesRow, standIns := [], harness := (true, "87d1f654cc4a0e09aecc18c13eca05ef497d410c4b7a68b47c36049caa7d776b"), looks := false }, kinds := [], alts := [], laidByText := true, laidKinds := [.data], laidTests := true, laidLooks := .later }
def IntersectPlanesCardSaid : Prop := Claim7.holds Tryz.pinned (.plain (OpenSpec.ofChange intersectPlanesSpec)) intersectPlanesCard

/-- THE TIED CARD OF 'voussoirlaw06.IntersectLine'. -/
def intersectLineCard : Claim7 := { stood := { row := intersectLineRow, standIns := [], harness := (true, "87d1f654cc4a0e09aecc18c13eca05ef497d410c4b7a68b47c36049caa7d776b"), looks := false }, kinds := [], alts := [], laidByText := true, laidKinds := [.data], laidTests := true, laidLooks := .later }
def IntersectLineCardSaid : Prop := Claim7.holds Tryz.pinned (.plain (OpenSpec.ofChange intersectLineSpec)) intersectLineCard

/-- THE TIED CARD OF 'voussoirlaw06.IntersectPredicates'. -/
def intersectPredicatesCard : Claim7 := { stood := { row := intersectPredicatesRow, standIns := [], harness := (true, "87d1f654cc4a0e09aecc18c13eca05ef497d410c4b7a68b47c36049caa7d776b"), looks := false }, kinds := [], alts := [], laidByText := true, laidKinds := [.data], laidTests := true, laidLooks := .later }
def IntersectPredicatesCardSaid : Prop := Claim7.holds Tryz.pinned (.plain (OpenSpec.ofChange intersectPredicatesSpec)) intersectPredicatesCard

/-- THE TIED CARD OF 'voussoirlaw06.IntersectOverlap'. -/
def intersectOverlapCard : Claim7 := { stood := { row := intersectOverlapRow, standIns := [], harness := (true, "87d1f654cc4a0e09aecc18c13eca05ef497d410c4b7a68b47c36049caa7d776b"), looks := false }, kinds := [], alts := [], laidByText := true, laidKinds := [.data], laidTests := true, laidLooks := .later }
def IntersectOverlapCardSaid : Prop := Claim7.holds Tryz.pinned (.plain (OpenSpec.ofChange intersectOverlapSpec)) intersectOverlapCard

/-- THE TIED CARD OF 'voussoirlaw06.IntersectBetween'. -/
def intersectBetweenCard : Claim7 := { stood := { row := intersectBetweenRow, standIns := [], harness := (true, "87d1f654cc4a0e09aecc18c13eca05ef497d410c4b7a68b47c36049caa7d776b"), looks := false }, kinds := [], alts := [], laidByText := true, laidKinds := [.data], laidTests := true, laidLooks := .later }
def IntersectBetweenCardSaid : Prop := Claim7.holds Tryz.pinned (.plain (OpenSpec.ofChange intersectBetweenSpec)) intersectBetweenCard

/-- THE SECOND FORM's CARD OF 'voussoirlaw06.IntersectPlanes'. -/
def intersectPlanesUptoCard : Claim7 := { stood := { row := intersectPlanesUptoRow, standIns := [], harness := (true, "87d1f654cc4a0e09aecc18c13eca05ef497d410c4b7a68b47c36049caa7d776b"), looks := false }, kinds := [], alts := [], laidByText := true, laidKinds := [.data], laidTests := true, laidLooks := .later }
def IntersectPlanesUptoCardSaid : Prop := Claim7.holds Tryz.pinned (.plain (OpenSpec.upto intersectPlanesSpec)) intersectPlanesUptoCard

/-- THE SECOND FORM's CARD OF 'voussoirlaw06.IntersectLine'. -/
def intersectLineUptoCard : Claim7 := { stood := { row := intersectLineUptoRow, standIns := [], harness := (true, "87d1f654cc4a0e09aecc18c13eca05ef497d410c4b7a68b47c36049caa7d776b"), looks := false }, kinds := [], alts := [], laidByText := true, laidKinds := [.data], laidTests := true, laidLooks := .later }
def IntersectLineUptoCardSaid : Prop := Claim7.holds Tryz.pinned (.plain (OpenSpec.upto intersectLineSpec)) intersectLineUptoCard

/-- THE SECOND FORM's CARD OF 'voussoirlaw06.IntersectPredicates'. -/
def intersectPredicatesUptoCard : Claim7 := { stood := { row := intersectPredicatesUptoRow, standIns := [], harness := (true, "87d1f654cc4a0e09aecc18c13eca05ef497d410c4b7a68b47c36049caa7d776b"), looks := false }, kinds := [], alts := [], laidByText := true, laidKinds := [.data], laidTests := true, laidLooks := .later }
def IntersectPredicatesUptoCardSaid : Prop := Claim7.holds Tryz.pinned (.plain (OpenSpec.upto intersectPredicatesSpec)) intersectPredicatesUptoCard

/-- THE SECOND FORM's CARD OF 'voussoirlaw06.IntersectOverlap'. -/
def intersectOverlapUptoCard : Claim7 := { stood := { row := intersectOverlapUptoRow, standIns := [], harness := (true, "87d1f654cc4a0e09aecc18c13eca05ef497d410c4b7a68b47c36049caa7d776b"), looks := false }, kinds := [], alts := [], laidByText := true, laidKinds := [.data], laidTests := true, laidLooks := .later }
def IntersectOverlapUptoCardSaid : Prop := Claim7.holds Tryz.pinned (.plain (OpenSpec.upto intersectOverlapSpec)) intersectOverlapUptoCard

/-- THE SECOND FORM's CARD OF 'voussoirlaw06.IntersectBetween'. -/
def intersectBetweenUptoCard : Claim7 := { stood := { row := intersectBetweenUptoRow, standIns := [], harness := (true, "87d1f654cc4a0e09aecc18c13eca05ef497d410c4b7a68b47c36049caa7d776b"), looks := false }, kinds := [], alts := [], laidByText := true, laidKinds := [.data], laidTests := true, laidLooks := .later }
def IntersectBetweenUptoCardSaid : Prop := Claim7.holds Tryz.pinned (.plain (OpenSpec.upto intersectBetweenSpec)) intersectBetweenUptoCard
end Rows
end Go.Proofs.YtfapglafeghggaaGreatDoor
