/-
  DERIVED. GIVEN WITH THE SEED: THE CARDS: each row of YtmhbojbbieafbaaDoorRows.lean that lists a variable, with what it lists TIED to the program's text (the seventh form; the later family's looks); each row that meets fmt, with fmt's text TOLD by the authors' own Lean function (tested against real Go, not proved from fmt's source: count such statements apart). THE CARD IS WHAT COUNTS. Prove the row's statement (the work); the ties are given (YtmhbojbbieafbaaDoorTie.lean); close each card by the builder's one call (the guide's Derived/Test/ToyasCard.lean, 'card_holds'). Laid BY PROGRAM, IN A SANDBOX (cutbox-door.mjs). By AI agents, Wed Nov 11 2026. No macro, syntax, notation, axiom, sorry.
-/
import Derived.Test.YtmhbojbbieafbaaDoorRows
import GoSem.ClaimSeven
namespace Go.Proofs.YtmhbojbbieafbaaDoor
namespace Rows

/-- THE TIED CARD OF 'voussoirlaw01.NatSums'. -/
def natSumsCard : Claim7 := { stood := { row := natSumsRow, standIns := [], harness := (true, "882bbdeaf33139e5a7e5d79231600cfa112c6af43c8f41de7830ae2b75e7bc71"), looks := false }, kinds := [], alts := [], laidByText := true, laidKinds := [.data], laidTests := true, laidLooks := .later }
def NatSumsCardSaid : Prop := Claim7.holds Tryd.pinned (.plain (OpenSpec.ofChange natSumsSpec)) natSumsCard

/-- THE TIED CARD OF 'voussoirlaw01.NatMuls'. -/
def natMulsCard : Claim7 := { stood := { row := natMulsRow, standIns := [], harness := (true, "882bbdeaf33139e5a7e5d79231600cfa112c6af43c8f41de7830ae2b75e7bc71"), looks := false }, kinds := [], alts := [], laidByText := true, laidKinds := [.data], laidTests := true, laidLooks := .later }
def NatMulsCardSaid : Prop := Claim7.holds Tryd.pinned (.plain (OpenSpec.ofChange natMulsSpec)) natMulsCard

/-- THE TIED CARD OF 'voussoirlaw01.NatGcds'. -/
def natGcdsCard : Claim7 := { stood := { row := natGcdsRow, standIns := [], harness := (true, "882bbdeaf33139e5a7e5d79231600cfa112c6af43c8f41de7830ae2b75e7bc71"), looks := false }, kinds := [], alts := [], laidByText := true, laidKinds := [.data], laidTests := true, laidLooks := .later }
def NatGcdsCardSaid : Prop := Claim7.holds Tryd.pinned (.plain (OpenSpec.ofChange natGcdsSpec)) natGcdsCard

/-- THE TIED CARD OF 'voussoirlaw01.NatStrings'. -/
def natStringsCard : Claim7 := { stood := { row := natStringsRow, standIns := [], harness := (true, "882bbdeaf33139e5a7e5d79231600cfa112c6af43c8f41de7830ae2b75e7bc71"), looks := false }, kinds := [], alts := [], laidByText := true, laidKinds := [.data], laidTests := true, laidLooks := .later }
def NatStringsCardSaid : Prop := Claim7.holds Tryd.pinned (.plain (OpenSpec.ofChange natStringsSpec)) natStringsCard

/-- THE TIED CARD OF 'voussoirlaw01.NatRing'. -/
def natRingCard : Claim7 := { stood := { row := natRingRow, standIns := [], harness := (true, "882bbdeaf33139e5a7e5d79231600cfa112c6af43c8f41de7830ae2b75e7bc71"), looks := false }, kinds := [], alts := [], laidByText := true, laidKinds := [.data], laidTests := true, laidLooks := .later }
def NatRingCardSaid : Prop := Claim7.holds Tryd.pinned (.plain (OpenSpec.ofChange natRingSpec)) natRingCard

/-- THE TIED CARD OF 'voussoirlaw01.NatDivides'. -/
def natDividesCard : Claim7 := { stood := { row := natDividesRow, standIns := [], harness := (true, "882bbdeaf33139e5a7e5d79231600cfa112c6af43c8f41de7830ae2b75e7bc71"), looks := false }, kinds := [], alts := [], laidByText := true, laidKinds := [.data], laidTests := true, laidLooks := .later }
def NatDividesCardSaid : Prop := Claim7.holds Tryd.pinned (.plain (OpenSpec.ofChange natDividesSpec)) natDividesCard

/-- THE TIED CARD OF 'voussoirlaw01.NatDivisors'. -/
def natDivisorsCard : Claim7 := { stood := { row := natDivisorsRow, standIns := [], harness := (true, "882bbdeaf33139e5a7e5d79231600cfa112c6af43c8f41de7830ae2b75e7bc71"), looks := false }, kinds := [], alts := [], laidByText := true, laidKinds := [.data], laidTests := true, laidLooks := .later }
def NatDivisorsCardSaid : Prop := Claim7.holds Tryd.pinned (.plain (OpenSpec.ofChange natDivisorsSpec)) natDivisorsCard

/-- THE TIED CARD OF 'voussoirlaw01.NatForm'. -/
def natFormCard : Claim7 := { stood := { row := natFormRow, standIns := [], harness := (true, "882bbdeaf33139e5a7e5d79231600cfa112c6af43c8f41de7830ae2b75e7bc71"), looks := false }, kinds := [], alts := [], laidByText := true, laidKinds := [.data], laidTests := true, laidLooks := .later }
def NatFormCardSaid : Prop := Claim7.holds Tryd.pinned (.plain (OpenSpec.ofChange natFormSpec)) natFormCard

/-- THE SECOND FORM's CARD OF 'voussoirlaw01.NatSums'. -/
def natSumsUptoCard : Claim7 := { stood := { row := natSumsUptoRow, standIns := [], harness := (true, "882bbdeaf33139e5a7e5d79231600cfa112c6af43c8f41de7830ae2b75e7bc71"), looks := false }, kinds := [], alts := [], laidByText := true, laidKinds := [.data], laidTests := true, laidLooks := .later }
def NatSumsUptoCardSaid : Prop := Claim7.holds Tryd.pinned (.plain (OpenSpec.upto natSumsSpec)) natSumsUptoCard

/-- THE SECOND FORM's CARD OF 'voussoirlaw01.NatMuls'. -/
def natMulsUptoCard : Claim7 := { stood := { row := natMulsUptoRow, standIns := [], harness := (true, "882bbdeaf33139e5a7e5d79231600cfa112c6af43c8f41de7830ae2b75e7bc71"), looks := false }, kinds := [], alts := [], laidByText := true, laidKinds := [.data], laidTests := true, laidLooks := .later }
def NatMulsUptoCardSaid : Prop := Claim7.holds Tryd.pinned (.plain (OpenSpec.upto natMulsSpec)) natMulsUptoCard

/-- THE SECOND FORM's CARD OF 'voussoirlaw01.NatGcds'. -/
def natGcdsUptoCard : Claim7 := { stood := { row := natGcdsUptoRow, standIns := [], harness := (true, "882bbdeaf33139e5a7e5d79231600cfa112c6af43c8f41de7830ae2b75e7bc71"), looks := false }, kinds := [], alts := [], laidByText := true, laidKinds := [.data], laidTests := true, laidLooks := .later }
def NatGcdsUptoCardSaid : Prop := Claim7.holds Tryd.pinned (.plain (OpenSpec.upto natGcdsSpec)) natGcdsUptoCard

/-- THE SECOND FORM's CARD OF 'voussoirlaw01.NatStrings'. -/
def natStringsUptoCard : Claim7 := { stood := { row := natStringsUptoRow, standIns := [], harness := (true, "882bbdeaf33139e5a7e5d79231600cfa112c6af43c8f41de7830ae2b75e7bc71"), looks := false }, kinds := [], alts := [], laidByText := true, laidKinds := [.data], laidTests := true, laidLooks := .later }
def NatStringsUptoCardSaid : Prop := Claim7.holds Tryd.pinned (.plain (OpenSpec.upto natStringsSpec)) natStringsUptoCard

/-- THE SECOND FORM's CARD OF 'voussoirlaw01.NatRing'. -/
def natRingUptoCard : Claim7 := { stood := { row := natRingUptoRow, standIns := [], harness := (true, "882bbdeaf33139e5a7e5d79231600cfa112c6af43c8f41de7830ae2b75e7bc71"), looks := false }, kinds := [], alts := [], laidByText := true, laidKinds := [.data], laidTests := true, laidLooks := .later }
def NatRingUptoCardSaid : Prop := Claim7.holds Tryd.pinned (.plain (OpenSpec.upto natRingSpec)) natRingUptoCard

/-- THE SECOND FORM's CARD OF 'voussoirlaw01.NatDivides'. -/
def natDividesUptoCard : Claim7 := { stood := { row := natDividesUptoRow, standIns := [], harness := (true, "882bbdeaf33139e5a7e5d79231600cfa112c6af43c8f41de7830ae2b75e7bc71"), looks := false }, kinds := [], alts := [], laidByText := true, laidKinds := [.data], laidTests := true, laidLooks := .later }
def NatDividesUptoCardSaid : Prop := Claim7.holds Tryd.pinned (.plain (OpenSpec.upto natDividesSpec)) natDividesUptoCard

/-- THE SECOND FORM's CARD OF 'voussoirlaw01.NatDivisors'. -/
def natDivisorsUptoCard : Claim7 := { stood := { row := natDivisorsUptoRow, standIns := [], harness := (true, "882bbdeaf33139e5a7e5d79231600cfa112c6af43c8f41de7830ae2b75e7bc71"), looks := false }, kinds := [], alts := [], laidByText := true, laidKinds := [.data], laidTests := true, laidLooks := .later }
def NatDivisorsUptoCardSaid : Prop := Claim7.holds Tryd.pinned (.plain (OpenSpec.upto natDivisorsSpec)) natDivisorsUptoCard

/-- THE SECOND FORM's CARD OF 'voussoirlaw01.NatForm'. -/
def natFormUptoCard : Claim7 := { stood := { row := natFormUptoRow, standIns := [], harness := (true, "882bbdeaf33139e5a7e5d79231600cfa112c6af43c8f41de7830ae2b75e7bc71"), looks := false }, kinds := [], alts := [], laidByText := true, laidKinds := [.data], laidTests := true, laidLooks := .later }
def NatFormUptoCardSaid : Prop := Claim7.holds Tryd.pinned (.plain (OpenSpec.upto natFormSpec)) natFormUptoCard
end Rows
end Go.Proofs.YtmhbojbbieafbaaDoor
