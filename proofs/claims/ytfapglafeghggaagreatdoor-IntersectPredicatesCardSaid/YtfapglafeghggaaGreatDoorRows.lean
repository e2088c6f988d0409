/-
  NARROWER THAN 'FOR EVERY INPUT', by the rows' own cells (each row's printed sentence says how): IntersectPlanes: laid · IntersectLine: laid · IntersectPredicates: laid · IntersectOverlap: laid · IntersectBetween: laid.
  DERIVED. THE GIVEN ROWS OF THIS SEAT. 5 by the template 'for every input the law returns true; each argument reads behind the call as it read before'; 0 by the template 'total and deterministic' (their statements: YtfapglafeghggaaGreatDoorTotals.lean).
  GIVEN WITH THE SEED: the statements are not yours to turn. If you find one false, say at which input.
  Laid BY PROGRAM, IN A SANDBOX (cutbox-rows.mjs): the forced cells as the released guide's own fill.sh prints them over the translation 53984343f9c2117c… (all of the seat's roots in one cut). By AI agents, Wed Nov 11 2026. No macro, syntax, notation, axiom, sorry.
-/
import Derived.Test.YtfapglafeghggaaGreatDoorChecked
import GoSem.Claim
import GoSem.ClaimJoined
import GoSem.ClaimMapViews
import Derived.JoinedTies
import Derived.KernelRfl
namespace Go.Proofs.YtfapglafeghggaaGreatDoor
/- THE CELL 'sum', in the pinned program and in every row, IS THE sha256 OF THE DUMP (.gsa) THAT YtfapglafeghggaaGreatDoorProg.lean LOADS. Nothing in Lean hashes anything: it is a label: what it is worth is what the hold of that sum in a sandbox is worth. -/
noncomputable def Tryz.pinned : Pinned := { name := "ytfapglafeghggaagreatdoor", sum := "53984343f9c2117c0fd229b9a73d84f99137f3e1b22a63531dd03721c67785df", checked := Tryz.checked }
namespace Rows
def none {H : Type} : Left H := { results := [], args := [] }

/- WHAT THE LISTED PACKAGE-LEVEL VARIABLES READ AS WHEN THE CALL BEGINS. Each datum BY PROGRAM (the guide's laid-datum.mjs) off the statement by which the dump's own 'gosem.cut.vars' lays the variable. In a bare row this is a premise. The card (YtfapglafeghggaaGreatDoorCards.lean) ties it to the program's text. -/
def laid_math_bits_deBruijn32tab {H : Type} : DataW H := .agg [.lit (.int .u8 0), .lit (.int .u8 1), .lit (.int .u8 28), .lit (.int .u8 2), .lit (.int .u8 29), .lit (.int .u8 14), .lit (.int .u8 24), .lit (.int .u8 3), .lit (.int .u8 30), .lit (.int .u8 22), .lit (.int .u8 20), .lit (.int .u8 15), .lit (.int .u8 25), .lit (.int .u8 17), .lit (.int .u8 4), .lit (.int .u8 8), .lit (.int .u8 31), .lit (.int .u8 27), .lit (.int .u8 13), .lit (.int .u8 23), .lit (.int .u8 21), .lit (.int .u8 19), .lit (.int .u8 16), .lit (.int .u8 7), .lit (.int .u8 26), .lit (.int .u8 12), .lit (.int .u8 18), .lit (.int .u8 6), .lit (.int .u8 11), .lit (.int .u8 5), .lit (.int .u8 10), .lit (.int .u8 9)]

/-- 'voussoirlaw06.IntersectPlanes': WHATEVER THE INPUT: true; the input reads as it did. -/
def intersectPlanesSpec : ChangeSpec := { name := "intersectPlanes", fn := fun _ => fun
  | [d1, d2, d3] => { results := [.lit (.bool true)], args := [d1, d2, d3] }
  | _ => none }
def intersectPlanesRow : OpenClaim := { program := "ytfapglafeghggaagreatdoor", sum := "53984343f9c2117c0fd229b9a73d84f99137f3e1b22a63531dd03721c67785df", func := "voussoir/voussoirlaw06.IntersectPlanes", spec := "intersectPlanes", named := ["math/bits.deBruijn32tab"], apart := false, laid := [("math/bits.deBruijn32tab", laid_math_bits_deBruijn32tab)] }
def IntersectPlanesSaid : Prop := intersectPlanesRow.holds Tryz.pinned (OpenSpec.ofChange intersectPlanesSpec)

/-- ITS FALSE NEIGHBOUR: 'it returns false'. Refute it at one input. -/
def intersectPlanesWrong : ChangeSpec := { name := "intersectPlanes", fn := fun _ => fun
  | [d1, d2, d3] => { results := [.lit (.bool false)], args := [d1, d2, d3] }
  | _ => none }
def IntersectPlanesWrongFalsely : Prop := intersectPlanesRow.holds Tryz.pinned (OpenSpec.ofChange intersectPlanesWrong)

/-- 'voussoirlaw06.IntersectLine': WHATEVER THE INPUT: true; the input reads as it did. -/
def intersectLineSpec : ChangeSpec := { name := "intersectLine", fn := fun _ => fun
  | [d1, d2, d3] => { results := [.lit (.bool true)], args := [d1, d2, d3] }
  | _ => none }
def intersectLineRow : OpenClaim := { program := "ytfapglafeghggaagreatdoor", sum := "53984343f9c2117c0fd229b9a73d84f99137f3e1b22a63531dd03721c67785df", func := "voussoir/voussoirlaw06.IntersectLine", spec := "intersectLine", named := ["math/bits.deBruijn32tab"], apart := false, laid := [("math/bits.deBruijn32tab", laid_math_bits_deBruijn32tab)] }
def IntersectLineSaid : Prop := intersectLineRow.holds Tryz.pinned (OpenSpec.ofChange intersectLineSpec)

/-- ITS FALSE NEIGHBOUR: 'it returns false'. Refute it at one input. -/
def intersectLineWrong : ChangeSpec := { name := "intersectLine", fn := fun _ => fun
  | [d1, d2, d3] => { results := [.lit (.bool false)], args := [d1, d2, d3] }
  | _ => none }
def IntersectLineWrongFalsely : Prop := intersectLineRow.holds Tryz.pinned (OpenSpec.ofChange intersectLineWrong)

/-- 'voussoirlaw06.IntersectPredicates': WHATEVER THE INPUT: true; the input reads as it did. -/
def intersectPredicatesSpec : ChangeSpec := { name := "intersectPredicates", fn := fun _ => fun
  | [d] => { results := [.lit (.bool true)], args := [d] }
  | _ => none }
def intersectPredicatesRow : OpenClaim := { program := "ytfapglafeghggaagreatdoor", sum := "53984343f9c2117c0fd229b9a73d84f99137f3e1b22a63531dd03721c67785df", func := "voussoir/voussoirlaw06.IntersectPredicates", spec := "intersectPredicates", named := ["math/bits.deBruijn32tab"], apart := false, laid := [("math/bits.deBruijn32tab", laid_math_bits_deBruijn32tab)] }
def IntersectPredicatesSaid : Prop := intersectPredicatesRow.holds Tryz.pinned (OpenSpec.ofChange intersectPredicatesSpec)

/-- ITS FALSE NEIGHBOUR: 'it returns false'. Refute it at one input. -/
def intersectPredicatesWrong : ChangeSpec := { name := "intersectPredicates", fn := fun _ => fun
  | [d] => { results := [.lit (.bool false)], args := [d] }
  | _ => none }
def IntersectPredicatesWrongFalsely : Prop := intersectPredicatesRow.holds Tryz.pinned (OpenSpec.ofChange intersectPredicatesWrong)

/-- 'voussoirlaw06.IntersectOverlap': WHATEVER THE INPUT: true; the input reads as it did. -/
def intersectOverlapSpec : ChangeSpec := { name := "intersectOverlap", fn := fun _ => fun
  | [d] => { results := [.lit (.bool true)], args := [d] }
  | _ => none }
def intersectOverlapRow : OpenClaim := { program := "ytfapglafeghggaagreatdoor", sum := "53984343f9c2117c0fd229b9a73d84f99137f3e1b22a63531dd03721c67785df", func := "voussoir/voussoirlaw06.IntersectOverlap", spec := "intersectOverlap", named := ["math/bits.deBruijn32tab"], apart := false, laid := [("math/bits.deBruijn32tab", laid_math_bits_deBruijn32tab)] }
def IntersectOverlapSaid : Prop := intersectOverlapRow.holds Tryz.pinned (OpenSpec.ofChange intersectOverlapSpec)

/-- ITS FALSE NEIGHBOUR: 'it returns false'. Refute it at one input. -/
def intersectOverlapWrong : ChangeSpec := { name := "intersectOverlap", fn := fun _ => fun
  | [d] => { results := [.lit (.bool false)], args := [d] }
  | _ => none }
def IntersectOverlapWrongFalsely : Prop := intersectOverlapRow.holds Tryz.pinned (OpenSpec.ofChange intersectOverlapWrong)

/-- 'voussoirlaw06.IntersectBetween': WHATEVER THE INPUT: true; the input reads as it did. -/
def intersectBetweenSpec : ChangeSpec := { name := "intersectBetween", fn := fun _ => fun
  | [d1, d2, d3] => { results := [.lit (.bool true)], args := [d1, d2, d3] }
  | _ => none }
def intersectBetweenRow : OpenClaim := { program := "ytfapglafeghggaagreatdoor", sum := "53984343f9c2117c0fd229b9a73d84f99137f3e1b22a63531dd03721c67785df", func := "voussoir/voussoirlaw06.IntersectBetween", spec := "intersectBetween", unfollowed := true, recurses := true, named := ["math/bits.deBruijn32tab"], apart := false, laid := [("math/bits.deBruijn32tab", laid_math_bits_deBruijn32tab)] }
def IntersectBetweenSaid : Prop := intersectBetweenRow.holds Tryz.pinned (OpenSpec.ofChange intersectBetweenSpec)

/-- ITS FALSE NEIGHBOUR: 'it returns false'. Refute it at one input. -/
def intersectBetweenWrong : ChangeSpec := { name := "intersectBetween", fn := fun _ => fun
  | [d1, d2, d3] => { results := [.lit (.bool false)], args := [d1, d2, d3] }
  | _ => none }
def IntersectBetweenWrongFalsely : Prop := intersectBetweenRow.holds Tryz.pinned (OpenSpec.ofChange intersectBetweenWrong)

/- THE SECOND FORM. 'bulk': how many values and letters a reading holds, each counted each time it is reached (what is shared counts as often as it is met; a slice's spare places count too). A statement '..UptoSaid' is the law's where the arguments, and the package variables that the reading takes, are together of bulk at most 1048576: NARROWER than '..Said'. Prove '..Said' where nothing that the law and all that it calls make is longer than what came in: it says more and counts as full. Else prove '..UptoSaid'. A law counts once. -/
mutual
def uptoBulk {H : Type} : DataW H → Nat
  | .lit (.string bytes) => bytes.length + 1
  | .lit _ => 1
  | .nil => 1
  | .ptr d => uptoBulk d + 1
  | .slice elems spare => uptoBulkAll elems + uptoBulkAll spare + 1
  | .agg parts => uptoBulkAll parts + 1
  | .iface _ d => uptoBulk d + 1
  | .map entries => uptoBulkEntries entries + 1
  | .held _ => 1
def uptoBulkAll {H : Type} : List (DataW H) → Nat
  | [] => 0
  | d :: r => uptoBulk d + uptoBulkAll r
def uptoBulkEntries {H : Type} : List (Lit × DataW H) → Nat
  | [] => 0
  | x :: r => uptoBulkEntry x + uptoBulkEntries r
def uptoBulkEntry {H : Type} : Lit × DataW H → Nat
  | (.string bytes, d) => bytes.length + uptoBulk d + 1
  | (_, d) => uptoBulk d + 1
 end
def uptoSmall : (H : Type) → List (DataW H) → Bool := fun _ ds => decide (uptoBulkAll ds ≤ 1048576)
def OpenSpec.upto (s : _root_.Go.ChangeSpec) : _root_.Go.OpenSpec := { _root_.Go.OpenSpec.ofChange s with cond := some uptoSmall }

/-- 'voussoirlaw06.IntersectPlanes', WHERE WHAT IT READS IS OF BULK AT MOST 1048576: true; the input reads as it did. -/
def intersectPlanesUptoRow : OpenClaim := { program := "ytfapglafeghggaagreatdoor", sum := "53984343f9c2117c0fd229b9a73d84f99137f3e1b22a63531dd03721c67785df", func := "voussoir/voussoirlaw06.IntersectPlanes", spec := "intersectPlanes", named := ["math/bits.deBruijn32tab"], apart := false, laid := [("math/bits.deBruijn32tab", laid_math_bits_deBruijn32tab)], narrowed := true }
def IntersectPlanesUptoSaid : Prop := intersectPlanesUptoRow.holds Tryz.pinned (OpenSpec.upto intersectPlanesSpec)

/-- 'voussoirlaw06.IntersectLine', WHERE WHAT IT READS IS OF BULK AT MOST 1048576: true; the input reads as it did. -/
def intersectLineUptoRow : OpenClaim := { program := "ytfapglafeghggaagreatdoor", sum := "53984343f9c2117c0fd229b9a73d84f99137f3e1b22a63531dd03721c67785df", func := "voussoir/voussoirlaw06.IntersectLine", spec := "intersectLine", named := ["math/bits.deBruijn32tab"], apart := false, laid := [("math/bits.deBruijn32tab", laid_math_bits_deBruijn32tab)], narrowed := true }
def IntersectLineUptoSaid : Prop := intersectLineUptoRow.holds Tryz.pinned (OpenSpec.upto intersectLineSpec)

/-- 'voussoirlaw06.IntersectPredicates', WHERE WHAT IT READS IS OF BULK AT MOST 1048576: true; the input reads as it did. -/
def intersectPredicatesUptoRow : OpenClaim := { program := "ytfapglafeghggaagreatdoor", sum := "53984343f9c2117c0fd229b9a73d84f99137f3e1b22a63531dd03721c67785df", func := "voussoir/voussoirlaw06.IntersectPredicates", spec := "intersectPredicates", named := ["math/bits.deBruijn32tab"], apart := false, laid := [("math/bits.deBruijn32tab", laid_math_bits_deBruijn32tab)], narrowed := true }
def IntersectPredicatesUptoSaid : Prop := intersectPredicatesUptoRow.holds Tryz.pinned (OpenSpec.upto intersectPredicatesSpec)

/-- 'voussoirlaw06.IntersectOverlap', WHERE WHAT IT READS IS OF BULK AT MOST 1048576: true; the input reads as it did. -/
def intersectOverlapUptoRow : OpenClaim := { program := "ytfapglafeghggaagreatdoor", sum := "53984343f9c2117c0fd229b9a73d84f99137f3e1b22a63531dd03721c67785df", func := "voussoir/voussoirlaw06.IntersectOverlap", spec := "intersectOverlap", named := ["math/bits.deBruijn32tab"], apart := false, laid := [("math/bits.deBruijn32tab", laid_math_bits_deBruijn32tab)], narrowed := true }
def IntersectOverlapUptoSaid : Prop := intersectOverlapUptoRow.holds Tryz.pinned (OpenSpec.upto intersectOverlapSpec)

/-- 'voussoirlaw06.IntersectBetween', WHERE WHAT IT READS IS OF BULK AT MOST 1048576: true; the input reads as it did. -/
def intersectBetweenUptoRow : OpenClaim := { program := "ytfapglafeghggaagreatdoor", sum := "53984343f9c2117c0fd229b9a73d84f99137f3e1b22a63531dd03721c67785df", func := "voussoir/voussoirlaw06.IntersectBetween", spec := "intersectBetween", unfollowed := true, recurses := true, named := ["math/bits.deBruijn32tab"], apart := false, laid := [("math/bits.deBruijn32tab", laid_math_bits_deBruijn32tab)], narrowed := true }
def IntersectBetweenUptoSaid : Prop := intersectBetweenUptoRow.holds Tryz.pinned (OpenSpec.upto intersectBetweenSpec)

end Rows
end Go.Proofs.YtfapglafeghggaaGreatDoor
