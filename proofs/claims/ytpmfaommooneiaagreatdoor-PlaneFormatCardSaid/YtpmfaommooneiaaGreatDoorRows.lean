/-
  NARROWER THAN 'FOR EVERY INPUT', by the rows' own cells (each row's printed sentence says how): PlaneCanonical: laid · PlaneThrough: laid · PlaneSides: laid · PlaneProjection: laid · PlaneOffsets: laid · PlaneFormat: laid · PlaneOrder: laid.
  DERIVED. THE GIVEN ROWS OF THIS SEAT. 7 by the template 'for every input the law returns true; each argument reads behind the call as it read before'; 0 by the template 'total and deterministic' (their statements: YtpmfaommooneiaaGreatDoorTotals.lean).
  GIVEN WITH THE SEED: the statements are not yours to turn. If you find one false, say at which input.
  Laid BY PROGRAM, IN A SANDBOX (cutbox-rows.mjs): the forced cells as the released guide's own fill.sh prints them over the translation 49d2ea7d5a1a2af4… (all of the seat's roots in one cut). By AI agents, Wed Nov 11 2026. No macro, syntax, notation, axiom, sorry.
-/
import Derived.Test.YtpmfaommooneiaaGreatDoorChecked
import GoSem.PinnedTables
import GoSem.Claim
import GoSem.ClaimJoined
import GoSem.ClaimMapViews
import Derived.JoinedTies
import Derived.KernelRfl
namespace Go.Proofs.YtpmfaommooneiaaGreatDoor
/- THE CELL 'sum', in the pinned program and in every row, IS THE sha256 OF THE DUMP (.gsa) THAT YtpmfaommooneiaaGreatDoorProg.lean LOADS. Nothing in Lean hashes anything: it is a label: what it is worth is what the hold of that sum in a sandbox is worth. -/
noncomputable def Tryz.pinned : Pinned := { name := "ytpmfaommooneiaagreatdoor", sum := "49d2ea7d5a1a2af4c7666c58b59adb139c3d31867b0569cedcde0af144b280f3", checked := Tryz.checked }
namespace Rows
def none {H : Type} : Left H := { results := [], args := [] }

/- WHAT THE LISTED PACKAGE-LEVEL VARIABLES READ AS WHEN THE CALL BEGINS. Each datum BY PROGRAM (the guide's laid-datum.mjs) off the statement by which the dump's own 'gosem.cut.vars' lays the variable. In a bare row this is a premise. The card (YtpmfaommooneiaaGreatDoorCards.lean) ties it to the program's text. -/
def laid_math_bits_deBruijn32tab {H : Type} : DataW H := .agg [.lit (.int .u8 0), .lit (.int .u8 1), .lit (.int .u8 28), .lit (.int .u8 2), .lit (.int .u8 29), .lit (.int .u8 14), .lit (.int .u8 24), .lit (.int .u8 3), .lit (.int .u8 30), .lit (.int .u8 22), .lit (.int .u8 20), .lit (.int .u8 15), .lit (.int .u8 25), .lit (.int .u8 17), .lit (.int .u8 4), .lit (.int .u8 8), .lit (.int .u8 31), .lit (.int .u8 27), .lit (.int .u8 13), .lit (.int .u8 23), .lit (.int .u8 21), .lit (.int .u8 19), .lit (.int .u8 16), .lit (.int .u8 7), .lit (.int .u8 26), .lit (.int .u8 12), .lit (.int .u8 18), .lit (.int .u8 6), .lit (.int .u8 11), .lit (.int .u8 5), .lit (.int .u8 10), .lit (.int .u8 9)]
def laid_unicode_utf8_acceptRanges {H : Type} : DataW H := .agg [.agg [.lit (.int .u8 128), .lit (.int .u8 191)], .agg [.lit (.int .u8 160), .lit (.int .u8 191)], .agg [.lit (.int .u8 128), .lit (.int .u8 159)], .agg [.lit (.int .u8 144), .lit (.int .u8 191)], .agg [.lit (.int .u8 128), .lit (.int .u8 143)], .agg [.lit (.int .u8 0), .lit (.int .u8 0)], .agg [.lit (.int .u8 0), .lit (.int .u8 0)], .agg [.lit (.int .u8 0), .lit (.int .u8 0)], .agg [.lit (.int .u8 0), .lit (.int .u8 0)], .agg [.lit (.int .u8 0), .lit (.int .u8 0)], .agg [.lit (.int .u8 0), .lit (.int .u8 0)], .agg [.lit (.int .u8 0), .lit (.int .u8 0)], .agg [.lit (.int .u8 0), .lit (.int .u8 0)], .agg [.lit (.int .u8 0), .lit (.int .u8 0)], .agg [.lit (.int .u8 0), .lit (.int .u8 0)], .agg [.lit (.int .u8 0), .lit (.int .u8 0)]]
/-- One of Go's own tables, pinned by name: the form's constant. -/
def laid_unicode_utf8_first : DataW Unit := Go.Pinned.utf8First

/-- 'voussoirlaw05.PlaneCanonical': WHATEVER THE INPUT: true; the input reads as it did. -/
def planeCanonicalSpec : ChangeSpec := { name := "planeCanonical", fn := fun _ => fun
  | [d1, d2, d3] => { results := [.lit (.bool true)], args := [d1, d2, d3] }
  | _ => none }
def planeCanonicalRow : OpenClaim := { program := "ytpmfaommooneiaagreatdoor", sum := "49d2ea7d5a1a2af4c7666c58b59adb139c3d31867b0569cedcde0af144b280f3", func := "voussoir/voussoirlaw05.PlaneCanonical", spec := "planeCanonical", inPlace := ["internal/abi.NoEscape", "internal/bytealg.MakeNoZero"], unfollowed := true, recurses := true, named := ["math/bits.deBruijn32tab"], apart := false, laid := [("math/bits.deBruijn32tab", laid_math_bits_deBruijn32tab)] }
def PlaneCanonicalSaid : Prop := planeCanonicalRow.holds Tryz.pinned (OpenSpec.ofChange planeCanonicalSpec)

/-- ITS FALSE NEIGHBOUR: 'it returns false'. Refute it at one input. -/
def planeCanonicalWrong : ChangeSpec := { name := "planeCanonical", fn := fun _ => fun
  | [d1, d2, d3] => { results := [.lit (.bool false)], args := [d1, d2, d3] }
  | _ => none }
def PlaneCanonicalWrongFalsely : Prop := planeCanonicalRow.holds Tryz.pinned (OpenSpec.ofChange planeCanonicalWrong)

/-- 'voussoirlaw05.PlaneThrough': WHATEVER THE INPUT: true; the input reads as it did. -/
def planeThroughSpec : ChangeSpec := { name := "planeThrough", fn := fun _ => fun
  | [d1, d2, d3] => { results := [.lit (.bool true)], args := [d1, d2, d3] }
  | _ => none }
def planeThroughRow : OpenClaim := { program := "ytpmfaommooneiaagreatdoor", sum := "49d2ea7d5a1a2af4c7666c58b59adb139c3d31867b0569cedcde0af144b280f3", func := "voussoir/voussoirlaw05.PlaneThrough", spec := "planeThrough", inPlace := ["internal/abi.NoEscape", "internal/bytealg.MakeNoZero"], unfollowed := true, recurses := true, named := ["math/bits.deBruijn32tab"], apart := false, laid := [("math/bits.deBruijn32tab", laid_math_bits_deBruijn32tab)] }
def PlaneThroughSaid : Prop := planeThroughRow.holds Tryz.pinned (OpenSpec.ofChange planeThroughSpec)

/-- ITS FALSE NEIGHBOUR: 'it returns false'. Refute it at one input. -/
def planeThroughWrong : ChangeSpec := { name := "planeThrough", fn := fun _ => fun
  | [d1, d2, d3] => { results := [.lit (.bool false)], args := [d1, d2, d3] }
  | _ => none }
def PlaneThroughWrongFalsely : Prop := planeThroughRow.holds Tryz.pinned (OpenSpec.ofChange planeThroughWrong)

/-- 'voussoirlaw05.PlaneSides': WHATEVER THE INPUT: true; the input reads as it did. -/
def planeSidesSpec : ChangeSpec := { name := "planeSides", fn := fun _ => fun
  | [d1, d2] => { results := [.lit (.bool true)], args := [d1, d2] }
  | _ => none }
def planeSidesRow : OpenClaim := { program := "ytpmfaommooneiaagreatdoor", sum := "49d2ea7d5a1a2af4c7666c58b59adb139c3d31867b0569cedcde0af144b280f3", func := "voussoir/voussoirlaw05.PlaneSides", spec := "planeSides", inPlace := ["internal/abi.NoEscape", "internal/bytealg.MakeNoZero"], unfollowed := true, recurses := true, named := ["math/bits.deBruijn32tab"], apart := false, laid := [("math/bits.deBruijn32tab", laid_math_bits_deBruijn32tab)] }
def PlaneSidesSaid : Prop := planeSidesRow.holds Tryz.pinned (OpenSpec.ofChange planeSidesSpec)

/-- ITS FALSE NEIGHBOUR: 'it returns false'. Refute it at one input. -/
def planeSidesWrong : ChangeSpec := { name := "planeSides", fn := fun _ => fun
  | [d1, d2] => { results := [.lit (.bool false)], args := [d1, d2] }
  | _ => none }
def PlaneSidesWrongFalsely : Prop := planeSidesRow.holds Tryz.pinned (OpenSpec.ofChange planeSidesWrong)

/-- 'voussoirlaw05.PlaneProjection': WHATEVER THE INPUT: true; the input reads as it did. -/
def planeProjectionSpec : ChangeSpec := { name := "planeProjection", fn := fun _ => fun
  | [d1, d2, d3] => { results := [.lit (.bool true)], args := [d1, d2, d3] }
  | _ => none }
def planeProjectionRow : OpenClaim := { program := "ytpmfaommooneiaagreatdoor", sum := "49d2ea7d5a1a2af4c7666c58b59adb139c3d31867b0569cedcde0af144b280f3", func := "voussoir/voussoirlaw05.PlaneProjection", spec := "planeProjection", inPlace := ["internal/abi.NoEscape", "internal/bytealg.MakeNoZero"], unfollowed := true, recurses := true, named := ["math/bits.deBruijn32tab"], apart := false, laid := [("math/bits.deBruijn32tab", laid_math_bits_deBruijn32tab)] }
def PlaneProjectionSaid : Prop := planeProjectionRow.holds Tryz.pinned (OpenSpec.ofChange planeProjectionSpec)

/-- ITS FALSE NEIGHBOUR: 'it returns false'. Refute it at one input. -/
def planeProjectionWrong : ChangeSpec := { name := "planeProjection", fn := fun _ => fun
  | [d1, d2, d3] => { results := [.lit (.bool false)], args := [d1, d2, d3] }
  | _ => none }
def PlaneProjectionWrongFalsely : Prop := planeProjectionRow.holds Tryz.pinned (OpenSpec.ofChange planeProjectionWrong)

/-- 'voussoirlaw05.PlaneOffsets': WHATEVER THE INPUT: true; the input reads as it did. -/
def planeOffsetsSpec : ChangeSpec := { name := "planeOffsets", fn := fun _ => fun
  | [d1, d2, d3] => { results := [.lit (.bool true)], args := [d1, d2, d3] }
  | _ => none }
def planeOffsetsRow : OpenClaim := { program := "ytpmfaommooneiaagreatdoor", sum := "49d2ea7d5a1a2af4c7666c58b59adb139c3d31867b0569cedcde0af144b280f3", func := "voussoir/voussoirlaw05.PlaneOffsets", spec := "planeOffsets", inPlace := ["internal/abi.NoEscape", "internal/bytealg.MakeNoZero"], unfollowed := true, recurses := true, named := ["math/bits.deBruijn32tab"], apart := false, laid := [("math/bits.deBruijn32tab", laid_math_bits_deBruijn32tab)] }
def PlaneOffsetsSaid : Prop := planeOffsetsRow.holds Tryz.pinned (OpenSpec.ofChange planeOffsetsSpec)

/-- ITS FALSE NEIGHBOUR: 'it returns false'. Refute it at one input. -/
def planeOffsetsWrong : ChangeSpec := { name := "planeOffsets", fn := fun _ => fun
  | [d1, d2, d3] => { results := [.lit (.bool false)], args := [d1, d2, d3] }
  | _ => none }
def PlaneOffsetsWrongFalsely : Prop := planeOffsetsRow.holds Tryz.pinned (OpenSpec.ofChange planeOffsetsWrong)

/-- 'voussoirlaw05.PlaneFormat': WHATEVER THE INPUT: true; the input reads as it did. -/
def planeFormatSpec : ChangeSpec := { name := "planeFormat", fn := fun _ => fun
  | [d1, d2] => { results := [.lit (.bool true)], args := [d1, d2] }
  | _ => none }
def planeFormatRow : OpenClaim := { program := "ytpmfaommooneiaagreatdoor", sum := "49d2ea7d5a1a2af4c7666c58b59adb139c3d31867b0569cedcde0af144b280f3", func := "voussoir/voussoirlaw05.PlaneFormat", spec := "planeFormat", inPlace := ["internal/abi.NoEscape", "internal/bytealg.MakeNoZero", "internal/bytealg.CountString", "internal/bytealg.IndexByteString", "internal/bytealg.IndexString"], unfollowed := true, recurses := true, named := ["math/bits.deBruijn32tab", "unicode/utf8.first", "unicode/utf8.acceptRanges", "internal/bytealg.MaxLen"], apart := false, laid := [("math/bits.deBruijn32tab", laid_math_bits_deBruijn32tab), ("unicode/utf8.acceptRanges", laid_unicode_utf8_acceptRanges), ("unicode/utf8.first", laid_unicode_utf8_first)] }
def PlaneFormatSaid : Prop := planeFormatRow.holds Tryz.pinned (OpenSpec.ofChange planeFormatSpec)

/-- ITS FALSE NEIGHBOUR: 'it returns false'. Refute it at one input. -/
def planeFormatWrong : ChangeSpec := { name := "planeFormat", fn := fun _ => fun
  | [d1, d2] => { results := [.lit (.bool false)], args := [d1, d2] }
  | _ => none }
def PlaneFormatWrongFalsely : Prop := planeFormatRow.holds Tryz.pinned (OpenSpec.ofChange planeFormatWrong)

/-- 'voussoirlaw05.PlaneOrder': WHATEVER THE INPUT: true; the input reads as it did. -/
def planeOrderSpec : ChangeSpec := { name := "planeOrder", fn := fun _ => fun
  | [d] => { results := [.lit (.bool true)], args := [d] }
  | _ => none }
def planeOrderRow : OpenClaim := { program := "ytpmfaommooneiaagreatdoor", sum := "49d2ea7d5a1a2af4c7666c58b59adb139c3d31867b0569cedcde0af144b280f3", func := "voussoir/voussoirlaw05.PlaneOrder", spec := "planeOrder", inPlace := ["internal/abi.NoEscape", "internal/bytealg.MakeNoZero"], unfollowed := true, recurses := true, named := ["math/bits.deBruijn32tab"], apart := false, laid := [("math/bits.deBruijn32tab", laid_math_bits_deBruijn32tab)] }
def PlaneOrderSaid : Prop := planeOrderRow.holds Tryz.pinned (OpenSpec.ofChange planeOrderSpec)

/-- ITS FALSE NEIGHBOUR: 'it returns false'. Refute it at one input. -/
def planeOrderWrong : ChangeSpec := { name := "planeOrder", fn := fun _ => fun
  | [d] => { results := [.lit (.bool false)], args := [d] }
  | _ => none }
def PlaneOrderWrongFalsely : Prop := planeOrderRow.holds Tryz.pinned (OpenSpec.ofChange planeOrderWrong)

/- THE SECOND FORM. 'bulk': how many values and letters a reading holds, each counted each time it is reached (what is shared counts as often as it is met; a slice's spare places count too). A statement '..UptoSaid' is the law's where the arguments, and the package variables that the reading takes, are together of bulk at most 1048576: NARROWER than '..Said'. Prove '..Said' where nothing that the law and all that it calls make is longer than what came in: it says more and counts as full. Else prove '..UptoSaid'. A law counts once. -/
mutual
def uptoBulk {H : Type} : DataW H → Nat
  | .lit (.string bytes) => bytes.length + 1
  | .lit _ => 1
  | .nil => 1
  | .ptr d => uptoBulk d + 1
  | .slice elems spare => uptoBulkAll elems + uptoBulkAll spare + 1
  | .agg parts => uptoBulkAll parts + 1
  | .iface _ d => uptoBulk d + 1
  | .map entries => uptoBulkEntries entries + 1
  | .held _ => 1
def uptoBulkAll {H : Type} : List (DataW H) → Nat
  | [] => 0
  | d :: r => uptoBulk d + uptoBulkAll r
def uptoBulkEntries {H : Type} : List (Lit × DataW H) → Nat
  | [] => 0
  | x :: r => uptoBulkEntry x + uptoBulkEntries r
def uptoBulkEntry {H : Type} : Lit × DataW H → Nat
  | (.string bytes, d) => bytes.length + uptoBulk d + 1
  | (_, d) => uptoBulk d + 1
 end
def uptoSmall : (H : Type) → List (DataW H) → Bool := fun _ ds => decide (uptoBulkAll ds ≤ 1048576)
def OpenSpec.upto (s : _root_.Go.ChangeSpec) : _root_.Go.OpenSpec := { _root_.Go.OpenSpec.ofChange s with cond := some uptoSmall }

/-- 'voussoirlaw05.PlaneCanonical', WHERE WHAT IT READS IS OF BULK AT MOST 1048576: true; the input reads as it did. -/
def planeCanonicalUptoRow : OpenClaim := { program := "ytpmfaommooneiaagreatdoor", sum := "49d2ea7d5a1a2af4c7666c58b59adb139c3d31867b0569cedcde0af144b280f3", func := "voussoir/voussoirlaw05.PlaneCanonical", spec := "planeCanonical", inPlace := ["internal/abi.NoEscape", "internal/bytealg.MakeNoZero"], unfollowed := true, recurses := true, named := ["math/bits.deBruijn32tab"], apart := false, laid := [("math/bits.deBruijn32tab", laid_math_bits_deBruijn32tab)], narrowed := true }
def PlaneCanonicalUptoSaid : Prop := planeCanonicalUptoRow.holds Tryz.pinned (OpenSpec.upto planeCanonicalSpec)

/-- 'voussoirlaw05.PlaneThrough', WHERE WHAT IT READS IS OF BULK AT MOST 1048576: true; the input reads as it did. -/
def planeThroughUptoRow : OpenClaim := { program := "ytpmfaommooneiaagreatdoor", sum := "49d2ea7d5a1a2af4c7666c58b59adb139c3d31867b0569cedcde0af144b280f3", func := "voussoir/voussoirlaw05.PlaneThrough", spec := "planeThrough", inPlace := ["internal/abi.NoEscape", "internal/bytealg.MakeNoZero"], unfollowed := true, recurses := true, named := ["math/bits.deBruijn32tab"], apart := false, laid := [("math/bits.deBruijn32tab", laid_math_bits_deBruijn32tab)], narrowed := true }
def PlaneThroughUptoSaid : Prop := planeThroughUptoRow.holds Tryz.pinned (OpenSpec.upto planeThroughSpec)

/-- 'voussoirlaw05.PlaneSides', WHERE WHAT IT READS IS OF BULK AT MOST 1048576: true; the input reads as it did. -/
def planeSidesUptoRow : OpenClaim := { program := "ytpmfaommooneiaagreatdoor", sum := "49d2ea7d5a1a2af4c7666c58b59adb139c3d31867b0569cedcde0af144b280f3", func := "voussoir/voussoirlaw05.PlaneSides", spec := "planeSides", inPlace := ["internal/abi.NoEscape", "internal/bytealg.MakeNoZero"], unfollowed := true, recurses := true, named := ["math/bits.deBruijn32tab"], apart := false, laid := [("math/bits.deBruijn32tab", laid_math_bits_deBruijn32tab)], narrowed := true }
def PlaneSidesUptoSaid : Prop := planeSidesUptoRow.holds Tryz.pinned (OpenSpec.upto planeSidesSpec)

/-- 'voussoirlaw05.PlaneProjection', WHERE WHAT IT READS IS OF BULK AT MOST 1048576: true; the input reads as it did. -/
def planeProjectionUptoRow : OpenClaim := { program := "ytpmfaommooneiaagreatdoor", sum := "49d2ea7d5a1a2af4c7666c58b59adb139c3d31867b0569cedcde0af144b280f3", func := "voussoir/voussoirlaw05.PlaneProjection", spec := "planeProjection", inPlace := ["internal/abi.NoEscape", "internal/bytealg.MakeNoZero"], unfollowed := true, recurses := true, named := ["math/bits.deBruijn32tab"], apart := false, laid := [("math/bits.deBruijn32tab", laid_math_bits_deBruijn32tab)], narrowed := true }
def PlaneProjectionUptoSaid : Prop := planeProjectionUptoRow.holds Tryz.pinned (OpenSpec.upto planeProjectionSpec)

/-- 'voussoirlaw05.PlaneOffsets', WHERE WHAT IT READS IS OF BULK AT MOST 1048576: true; the input reads as it did. -/
def planeOffsetsUptoRow : OpenClaim := { program := "ytpmfaommooneiaagreatdoor", sum := "49d2ea7d5a1a2af4c7666c58b59adb139c3d31867b0569cedcde0af144b280f3", func := "voussoir/voussoirlaw05.PlaneOffsets", spec := "planeOffsets", inPlace := ["internal/abi.NoEscape", "internal/bytealg.MakeNoZero"], unfollowed := true, recurses := true, named := ["math/bits.deBruijn32tab"], apart := false, laid := [("math/bits.deBruijn32tab", laid_math_bits_deBruijn32tab)], narrowed := true }
def PlaneOffsetsUptoSaid : Prop := planeOffsetsUptoRow.holds Tryz.pinned (OpenSpec.upto planeOffsetsSpec)

/-- 'voussoirlaw05.PlaneFormat', WHERE WHAT IT READS IS OF BULK AT MOST 1048576: true; the input reads as it did. -/
def planeFormatUptoRow : OpenClaim := { program := "ytpmfaommooneiaagreatdoor", sum := "49d2ea7d5a1a2af4c7666c58b59adb139c3d31867b0569cedcde0af144b280f3", func := "voussoir/voussoirlaw05.PlaneFormat", spec := "planeFormat", inPlace := ["internal/abi.NoEscape", "internal/bytealg.MakeNoZero", "internal/bytealg.CountString", "internal/bytealg.IndexByteString", "internal/bytealg.IndexString"], unfollowed := true, recurses := true, named := ["math/bits.deBruijn32tab", "unicode/utf8.first", "unicode/utf8.acceptRanges", "internal/bytealg.MaxLen"], apart := false, laid := [("math/bits.deBruijn32tab", laid_math_bits_deBruijn32tab), ("unicode/utf8.acceptRanges", laid_unicode_utf8_acceptRanges), ("unicode/utf8.first", laid_unicode_utf8_first)], narrowed := true }
def PlaneFormatUptoSaid : Prop := planeFormatUptoRow.holds Tryz.pinned (OpenSpec.upto planeFormatSpec)

/-- 'voussoirlaw05.PlaneOrder', WHERE WHAT IT READS IS OF BULK AT MOST 1048576: true; the input reads as it did. -/
def planeOrderUptoRow : OpenClaim := { program := "ytpmfaommooneiaagreatdoor", sum := "49d2ea7d5a1a2af4c7666c58b59adb139c3d31867b0569cedcde0af144b280f3", func := "voussoir/voussoirlaw05.PlaneOrder", spec := "planeOrder", inPlace := ["internal/abi.NoEscape", "internal/bytealg.MakeNoZero"], unfollowed := true, recurses := true, named := ["math/bits.deBruijn32tab"], apart := false, laid := [("math/bits.deBruijn32tab", laid_math_bits_deBruijn32tab)], narrowed := true }
def PlaneOrderUptoSaid : Prop := planeOrderUptoRow.holds Tryz.pinned (OpenSpec.upto planeOrderSpec)

end Rows
end Go.Proofs.YtpmfaommooneiaaGreatDoor
