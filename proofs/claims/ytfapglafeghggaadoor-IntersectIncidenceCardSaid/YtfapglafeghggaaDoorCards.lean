/-
  DERIVED. GIVEN WITH THE SEED: THE CARDS: each row of YtfapglafeghggaaDoorRows.lean that lists a variable, with what it lists TIED to the program's text (the seventh form; the later family's looks); each row that meets fmt, with fmt's text TOLD by the authors' own Lean function (tested against real Go, not proved from fmt's source: count such statements apart). THE CARD IS WHAT COUNTS. Prove the row's statement (the work); the ties are given (YtfapglafeghggaaDoorTie.lean); close each card by the builder's one call (the guide's Derived/Test/ToyasCard.lean, 'card_holds'). Laid BY PROGRAM, IN A SANDBOX (cutbox-door.mjs). By AI agents, Wed Nov 11 2026. No macro, syntax, notation, axiom, sorry.
-/
import Derived.Test.YtfapglafeghggaaDoorRows
import GoSem.ClaimSeven
namespace Go.Proofs.YtfapglafeghggaaDoor
namespace Rows

/-- THE TIED CARD OF 'voussoirlaw06.IntersectIncidence'. -/
def intersectIncidenceCard : Claim7 := { stood := { row := intersectIncidenceRow, standIns := [], harness := (true, "ef5ba3de423a33b44bf9c8987cf3004f11c08f64e2fbbb61a281a659456918b8"), looks := false }, kinds := [], alts := [], laidByText := true, laidKinds := [.data], laidTests := true, laidLooks := .later }
def IntersectIncidenceCardSaid : Prop := Claim7.holds Tryd.pinned (.plain (OpenSpec.ofChange intersectIncidenceSpec)) intersectIncidenceCard

/-- THE TIED CARD OF 'voussoirlaw06.IntersectOrientation'. -/
def intersectOrientationCard : Claim7 := { stood := { row := intersectOrientationRow, standIns := [], harness := (true, "ef5ba3de423a33b44bf9c8987cf3004f11c08f64e2fbbb61a281a659456918b8"), looks := false }, kinds := [], alts := [], laidByText := true, laidKinds := [.data], laidTests := true, laidLooks := .later }
def IntersectOrientationCardSaid : Prop := Claim7.holds Tryd.pinned (.plain (OpenSpec.ofChange intersectOrientationSpec)) intersectOrientationCard

/-- THE SECOND FORM's CARD OF 'voussoirlaw06.IntersectIncidence'. -/
def intersectIncidenceUptoCard : Claim7 := { stood := { row := intersectIncidenceUptoRow, standIns := [], harness := (true, "ef5ba3de423a33b44bf9c8987cf3004f11c08f64e2fbbb61a281a659456918b8"), looks := false }, kinds := [], alts := [], laidByText := true, laidKinds := [.data], laidTests := true, laidLooks := .later }
def IntersectIncidenceUptoCardSaid : Prop := Claim7.holds Tryd.pinned (.plain (OpenSpec.upto intersectIncidenceSpec)) intersectIncidenceUptoCard

/-- THE SECOND FORM's CARD OF 'voussoirlaw06.IntersectOrientation'. -/
def intersectOrientationUptoCard : Claim7 := { stood := { row := intersectOrientationUptoRow, standIns := [], harness := (true, "ef5ba3de423a33b44bf9c8987cf3004f11c08f64e2fbbb61a281a659456918b8"), looks := false }, kinds := [], alts := [], laidByText := true, laidKinds := [.data], laidTests := true, laidLooks := .later }
def IntersectOrientationUptoCardSaid : Prop := Claim7.holds Tryd.pinned (.plain (OpenSpec.upto intersectOrientationSpec)) intersectOrientationUptoCard
end Rows
end Go.Proofs.YtfapglafeghggaaDoor
