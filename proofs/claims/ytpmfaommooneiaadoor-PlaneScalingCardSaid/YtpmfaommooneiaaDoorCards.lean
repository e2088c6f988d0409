/-
  DERIVED. GIVEN WITH THE SEED: THE CARDS: each row of YtpmfaommooneiaaDoorRows.lean that lists a variable, with what it lists TIED to the program's text (the seventh form; the later family's looks); each row that meets fmt, with fmt's text TOLD by the authors' own Lean function (tested against real Go, not proved from fmt's source: count such statements apart). THE CARD IS WHAT COUNTS. Prove the row's statement (the work); the ties are given (YtpmfaommooneiaaDoorTie.lean); close each card by the builder's one call (the guide's Derived/Test/ToyasCard.lean, 'card_holds'). Laid BY PROGRAM, IN A SANDBOX (cutbox-door.mjs). By AI agents, Wed Nov 11 2026. No macro, syntax, notation, axiom, sorry.
-/
import Derived.Test.YtpmfaommooneiaaDoorRows
import GoSem.ClaimSeven
namespace Go.Proofs.YtpmfaommooneiaaDoor
namespace Rows

/-- THE TIED CARD OF 'voussoirlaw05.PlaneScaling'. -/
def planeScalingCard : Claim7 := { stood := { row := planeScalingRow, standIns := [], harness := (true, "6c16751b5797043774e4156270ef0013c091111e663353f497f357f789d20cb9"), looks := false }, kinds := [], alts := [], laidByText := true, laidKinds := [.data], laidTests := true, laidLooks := .later }
def PlaneScalingCardSaid : Prop := Claim7.holds Tryd.pinned (.plain (OpenSpec.ofChange planeScalingSpec)) planeScalingCard

/-- THE SECOND FORM's CARD OF 'voussoirlaw05.PlaneScaling'. -/
def planeScalingUptoCard : Claim7 := { stood := { row := planeScalingUptoRow, standIns := [], harness := (true, "6c16751b5797043774e4156270ef0013c091111e663353f497f357f789d20cb9"), looks := false }, kinds := [], alts := [], laidByText := true, laidKinds := [.data], laidTests := true, laidLooks := .later }
def PlaneScalingUptoCardSaid : Prop := Claim7.holds Tryd.pinned (.plain (OpenSpec.upto planeScalingSpec)) planeScalingUptoCard
end Rows
end Go.Proofs.YtpmfaommooneiaaDoor
