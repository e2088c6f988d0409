/-
  NARROWER THAN 'FOR EVERY INPUT', by the rows' own cells (each row's printed sentence says how): PointForms: laid · PointMoves: laid · PointStrings: laid · PointRoundTrip: laid · PointOrder: laid · PointLerp: laid · PointScaling: laid.
  DERIVED. THE GIVEN ROWS OF THIS SEAT. 7 by the template 'for every input the law returns true; each argument reads behind the call as it read before'; 0 by the template 'total and deterministic' (their statements: YtdgppfccolhaeaaGreatDoorTotals.lean).
  GIVEN WITH THE SEED: the statements are not yours to turn. If you find one false, say at which input.
  Laid BY PROGRAM, IN A SANDBOX (cutbox-rows.mjs): the forced cells as the released guide's own fill.sh prints them over the translation 97ed1c72a49f2102… (all of the seat's roots in one cut). By AI agents, Wed Nov 11 2026. No macro, syntax, notation, axiom, sorry.
-/
import Derived.Test.YtdgppfccolhaeaaGreatDoorChecked
import GoSem.PinnedTables
import GoSem.Claim
import GoSem.ClaimJoined
import GoSem.ClaimMapViews
import Derived.JoinedTies
import Derived.KernelRfl
namespace Go.Proofs.YtdgppfccolhaeaaGreatDoor
/- THE CELL 'sum', in the pinned program and in every row, IS THE sha256 OF THE DUMP (.gsa) THAT YtdgppfccolhaeaaGreatDoorProg.lean LOADS. Nothing in Lean hashes anything: it is a label: what it is worth is what the hold of that sum in a sandbox is worth. -/
noncomputable def Tryz.pinned : Pinned := { name := "ytdgppfccolhaeaagreatdoor", sum := "97ed1c72a49f210267cdcb64df00b9ad9c93bd05be737f9250b2de39925f4b5e", checked := Tryz.checked }
namespace Rows
def none {H : Type} : Left H := { results := [], args := [] }

/- WHAT THE LISTED PACKAGE-LEVEL VARIABLES READ AS WHEN THE CALL BEGINS. Each datum BY PROGRAM (the guide's laid-datum.mjs) off the statement by which the dump's own 'gosem.cut.vars' lays the variable. In a bare row this is a premise. The card (YtdgppfccolhaeaaGreatDoorCards.lean) ties it to the program's text. -/
def laid_math_bits_deBruijn32tab {H : Type} : DataW H := .agg [.lit (.int .u8 0), .lit (.int .u8 1), .lit (.int .u8 28), .lit (.int .u8 2), .lit (.int .u8 29), .lit (.int .u8 14), .lit (.int .u8 24), .lit (.int .u8 3), .lit (.int .u8 30), .lit (.int .u8 22), .lit (.int .u8 20), .lit (.int .u8 15), .lit (.int .u8 25), .lit (.int .u8 17), .lit (.int .u8 4), .lit (.int .u8 8), .lit (.int .u8 31), .lit (.int .u8 27), .lit (.int .u8 13), .lit (.int .u8 23), .lit (.int .u8 21), .lit (.int .u8 19), .lit (.int .u8 16), .lit (.int .u8 7), .lit (.int .u8 26), .lit (.int .u8 12), .lit (.int .u8 18), .lit (.int .u8 6), .lit (.int .u8 11), .lit (.int .u8 5), .lit (.int .u8 10), .lit (.int .u8 9)]
def laid_unicode_utf8_acceptRanges {H : Type} : DataW H := .agg [.agg [.lit (.int .u8 128), .lit (.int .u8 191)], .agg [.lit (.int .u8 160), .lit (.int .u8 191)], .agg [.lit (.int .u8 128), .lit (.int .u8 159)], .agg [.lit (.int .u8 144), .lit (.int .u8 191)], .agg [.lit (.int .u8 128), .lit (.int .u8 143)], .agg [.lit (.int .u8 0), .lit (.int .u8 0)], .agg [.lit (.int .u8 0), .lit (.int .u8 0)], .agg [.lit (.int .u8 0), .lit (.int .u8 0)], .agg [.lit (.int .u8 0), .lit (.int .u8 0)], .agg [.lit (.int .u8 0), .lit (.int .u8 0)], .agg [.lit (.int .u8 0), .lit (.int .u8 0)], .agg [.lit (.int .u8 0), .lit (.int .u8 0)], .agg [.lit (.int .u8 0), .lit (.int .u8 0)], .agg [.lit (.int .u8 0), .lit (.int .u8 0)], .agg [.lit (.int .u8 0), .lit (.int .u8 0)], .agg [.lit (.int .u8 0), .lit (.int .u8 0)]]
/-- One of Go's own tables, pinned by name: the form's constant. -/
def laid_unicode_utf8_first : DataW Unit := Go.Pinned.utf8First

/-- 'voussoirlaw04.PointForms': WHATEVER THE INPUT: true; the input reads as it did. -/
def pointFormsSpec : ChangeSpec := { name := "pointForms", fn := fun _ => fun
  | [d1, d2] => { results := [.lit (.bool true)], args := [d1, d2] }
  | _ => none }
def pointFormsRow : OpenClaim := { program := "ytdgppfccolhaeaagreatdoor", sum := "97ed1c72a49f210267cdcb64df00b9ad9c93bd05be737f9250b2de39925f4b5e", func := "voussoir/voussoirlaw04.PointForms", spec := "pointForms", inPlace := ["internal/abi.NoEscape", "internal/bytealg.MakeNoZero"], unfollowed := true, recurses := true, named := ["math/bits.deBruijn32tab"], apart := false, laid := [("math/bits.deBruijn32tab", laid_math_bits_deBruijn32tab)] }
def PointFormsSaid : Prop := pointFormsRow.holds Tryz.pinned (OpenSpec.ofChange pointFormsSpec)

/-- ITS FALSE NEIGHBOUR: 'it returns false'. Refute it at one input. -/
def pointFormsWrong : ChangeSpec := { name := "pointForms", fn := fun _ => fun
  | [d1, d2] => { results := [.lit (.bool false)], args := [d1, d2] }
  | _ => none }
def PointFormsWrongFalsely : Prop := pointFormsRow.holds Tryz.pinned (OpenSpec.ofChange pointFormsWrong)

/-- 'voussoirlaw04.PointMoves': WHATEVER THE INPUT: true; the input reads as it did. -/
def pointMovesSpec : ChangeSpec := { name := "pointMoves", fn := fun _ => fun
  | [d1, d2, d3] => { results := [.lit (.bool true)], args := [d1, d2, d3] }
  | _ => none }
def pointMovesRow : OpenClaim := { program := "ytdgppfccolhaeaagreatdoor", sum := "97ed1c72a49f210267cdcb64df00b9ad9c93bd05be737f9250b2de39925f4b5e", func := "voussoir/voussoirlaw04.PointMoves", spec := "pointMoves", inPlace := ["internal/abi.NoEscape", "internal/bytealg.MakeNoZero"], unfollowed := true, recurses := true, named := ["math/bits.deBruijn32tab"], apart := false, laid := [("math/bits.deBruijn32tab", laid_math_bits_deBruijn32tab)] }
def PointMovesSaid : Prop := pointMovesRow.holds Tryz.pinned (OpenSpec.ofChange pointMovesSpec)

/-- ITS FALSE NEIGHBOUR: 'it returns false'. Refute it at one input. -/
def pointMovesWrong : ChangeSpec := { name := "pointMoves", fn := fun _ => fun
  | [d1, d2, d3] => { results := [.lit (.bool false)], args := [d1, d2, d3] }
  | _ => none }
def PointMovesWrongFalsely : Prop := pointMovesRow.holds Tryz.pinned (OpenSpec.ofChange pointMovesWrong)

/-- 'voussoirlaw04.PointStrings': WHATEVER THE INPUT: true; the input reads as it did. -/
def pointStringsSpec : ChangeSpec := { name := "pointStrings", fn := fun _ => fun
  | [d1, d2] => { results := [.lit (.bool true)], args := [d1, d2] }
  | _ => none }
def pointStringsRow : OpenClaim := { program := "ytdgppfccolhaeaagreatdoor", sum := "97ed1c72a49f210267cdcb64df00b9ad9c93bd05be737f9250b2de39925f4b5e", func := "voussoir/voussoirlaw04.PointStrings", spec := "pointStrings", inPlace := ["internal/abi.NoEscape", "internal/bytealg.MakeNoZero", "internal/bytealg.CountString", "internal/bytealg.IndexByteString", "internal/bytealg.IndexString"], unfollowed := true, recurses := true, named := ["math/bits.deBruijn32tab", "unicode/utf8.first", "unicode/utf8.acceptRanges", "internal/bytealg.MaxLen"], apart := false, laid := [("math/bits.deBruijn32tab", laid_math_bits_deBruijn32tab), ("unicode/utf8.acceptRanges", laid_unicode_utf8_acceptRanges), ("unicode/utf8.first", laid_unicode_utf8_first)] }
def PointStringsSaid : Prop := pointStringsRow.holds Tryz.pinned (OpenSpec.ofChange pointStringsSpec)

/-- ITS FALSE NEIGHBOUR: 'it returns false'. Refute it at one input. -/
def pointStringsWrong : ChangeSpec := { name := "pointStrings", fn := fun _ => fun
  | [d1, d2] => { results := [.lit (.bool false)], args := [d1, d2] }
  | _ => none }
def PointStringsWrongFalsely : Prop := pointStringsRow.holds Tryz.pinned (OpenSpec.ofChange pointStringsWrong)

/-- 'voussoirlaw04.PointRoundTrip': WHATEVER THE INPUT: true; the input reads as it did. -/
def pointRoundTripSpec : ChangeSpec := { name := "pointRoundTrip", fn := fun _ => fun
  | [d1, d2, d3] => { results := [.lit (.bool true)], args := [d1, d2, d3] }
  | _ => none }
def pointRoundTripRow : OpenClaim := { program := "ytdgppfccolhaeaagreatdoor", sum := "97ed1c72a49f210267cdcb64df00b9ad9c93bd05be737f9250b2de39925f4b5e", func := "voussoir/voussoirlaw04.PointRoundTrip", spec := "pointRoundTrip", inPlace := ["internal/abi.NoEscape", "internal/bytealg.MakeNoZero"], unfollowed := true, recurses := true, named := ["math/bits.deBruijn32tab"], apart := false, laid := [("math/bits.deBruijn32tab", laid_math_bits_deBruijn32tab)] }
def PointRoundTripSaid : Prop := pointRoundTripRow.holds Tryz.pinned (OpenSpec.ofChange pointRoundTripSpec)

/-- ITS FALSE NEIGHBOUR: 'it returns false'. Refute it at one input. -/
def pointRoundTripWrong : ChangeSpec := { name := "pointRoundTrip", fn := fun _ => fun
  | [d1, d2, d3] => { results := [.lit (.bool false)], args := [d1, d2, d3] }
  | _ => none }
def PointRoundTripWrongFalsely : Prop := pointRoundTripRow.holds Tryz.pinned (OpenSpec.ofChange pointRoundTripWrong)

/-- 'voussoirlaw04.PointOrder': WHATEVER THE INPUT: true; the input reads as it did. -/
def pointOrderSpec : ChangeSpec := { name := "pointOrder", fn := fun _ => fun
  | [d1, d2] => { results := [.lit (.bool true)], args := [d1, d2] }
  | _ => none }
def pointOrderRow : OpenClaim := { program := "ytdgppfccolhaeaagreatdoor", sum := "97ed1c72a49f210267cdcb64df00b9ad9c93bd05be737f9250b2de39925f4b5e", func := "voussoir/voussoirlaw04.PointOrder", spec := "pointOrder", inPlace := ["internal/abi.NoEscape", "internal/bytealg.MakeNoZero"], unfollowed := true, recurses := true, named := ["math/bits.deBruijn32tab"], apart := false, laid := [("math/bits.deBruijn32tab", laid_math_bits_deBruijn32tab)] }
def PointOrderSaid : Prop := pointOrderRow.holds Tryz.pinned (OpenSpec.ofChange pointOrderSpec)

/-- ITS FALSE NEIGHBOUR: 'it returns false'. Refute it at one input. -/
def pointOrderWrong : ChangeSpec := { name := "pointOrder", fn := fun _ => fun
  | [d1, d2] => { results := [.lit (.bool false)], args := [d1, d2] }
  | _ => none }
def PointOrderWrongFalsely : Prop := pointOrderRow.holds Tryz.pinned (OpenSpec.ofChange pointOrderWrong)

/-- 'voussoirlaw04.PointLerp': WHATEVER THE INPUT: true; the input reads as it did. -/
def pointLerpSpec : ChangeSpec := { name := "pointLerp", fn := fun _ => fun
  | [d1, d2, d3] => { results := [.lit (.bool true)], args := [d1, d2, d3] }
  | _ => none }
def pointLerpRow : OpenClaim := { program := "ytdgppfccolhaeaagreatdoor", sum := "97ed1c72a49f210267cdcb64df00b9ad9c93bd05be737f9250b2de39925f4b5e", func := "voussoir/voussoirlaw04.PointLerp", spec := "pointLerp", inPlace := ["internal/abi.NoEscape", "internal/bytealg.MakeNoZero"], unfollowed := true, recurses := true, named := ["math/bits.deBruijn32tab"], apart := false, laid := [("math/bits.deBruijn32tab", laid_math_bits_deBruijn32tab)] }
def PointLerpSaid : Prop := pointLerpRow.holds Tryz.pinned (OpenSpec.ofChange pointLerpSpec)

/-- ITS FALSE NEIGHBOUR: 'it returns false'. Refute it at one input. -/
def pointLerpWrong : ChangeSpec := { name := "pointLerp", fn := fun _ => fun
  | [d1, d2, d3] => { results := [.lit (.bool false)], args := [d1, d2, d3] }
  | _ => none }
def PointLerpWrongFalsely : Prop := pointLerpRow.holds Tryz.pinned (OpenSpec.ofChange pointLerpWrong)

/-- 'voussoirlaw04.PointScaling': WHATEVER THE INPUT: true; the input reads as it did. -/
def pointScalingSpec : ChangeSpec := { name := "pointScaling", fn := fun _ => fun
  | [d1, d2] => { results := [.lit (.bool true)], args := [d1, d2] }
  | _ => none }
def pointScalingRow : OpenClaim := { program := "ytdgppfccolhaeaagreatdoor", sum := "97ed1c72a49f210267cdcb64df00b9ad9c93bd05be737f9250b2de39925f4b5e", func := "voussoir/voussoirlaw04.PointScaling", spec := "pointScaling", inPlace := ["internal/abi.NoEscape", "internal/bytealg.MakeNoZero"], unfollowed := true, recurses := true, named := ["math/bits.deBruijn32tab"], apart := false, laid := [("math/bits.deBruijn32tab", laid_math_bits_deBruijn32tab)] }
def PointScalingSaid : Prop := pointScalingRow.holds Tryz.pinned (OpenSpec.ofChange pointScalingSpec)

/-- ITS FALSE NEIGHBOUR: 'it returns false'. Refute it at one input. -/
def pointScalingWrong : ChangeSpec := { name := "pointScaling", fn := fun _ => fun
  | [d1, d2] => { results := [.lit (.bool false)], args := [d1, d2] }
  | _ => none }
def PointScalingWrongFalsely : Prop := pointScalingRow.holds Tryz.pinned (OpenSpec.ofChange pointScalingWrong)

/- THE SECOND FORM. 'bulk': how many values and letters a reading holds, each counted each time it is reached (what is shared counts as often as it is met; a slice's spare places count too). A statement '..UptoSaid' is the law's where the arguments, and the package variables that the reading takes, are together of bulk at most 1048576: NARROWER than '..Said'. Prove '..Said' where nothing that the law and all that it calls make is longer than what came in: it says more and counts as full. Else prove '..UptoSaid'. A law counts once. -/
mutual
def uptoBulk {H : Type} : DataW H → Nat
  | .lit (.string bytes) => bytes.length + 1
  | .lit _ => 1
  | .nil => 1
  | .ptr d => uptoBulk d + 1
  | .slice elems spare => uptoBulkAll elems + uptoBulkAll spare + 1
  | .agg parts => uptoBulkAll parts + 1
  | .iface _ d => uptoBulk d + 1
  | .map entries => uptoBulkEntries entries + 1
  | .held _ => 1
def uptoBulkAll {H : Type} : List (DataW H) → Nat
  | [] => 0
  | d :: r => uptoBulk d + uptoBulkAll r
def uptoBulkEntries {H : Type} : List (Lit × DataW H) → Nat
  | [] => 0
  | x :: r => uptoBulkEntry x + uptoBulkEntries r
def uptoBulkEntry {H : Type} : Lit × DataW H → Nat
  | (.string bytes, d) => bytes.length + uptoBulk d + 1
  | (_, d) => uptoBulk d + 1
 end
def uptoSmall : (H : Type) → List (DataW H) → Bool := fun _ ds => decide (uptoBulkAll ds ≤ 1048576)
def OpenSpec.upto (s : _root_.Go.ChangeSpec) : _root_.Go.OpenSpec := { _root_.Go.OpenSpec.ofChange s with cond := some uptoSmall }

/-- 'voussoirlaw04.PointForms', WHERE WHAT IT READS IS OF BULK AT MOST 1048576: true; the input reads as it did. -/
def pointFormsUptoRow : OpenClaim := { program := "ytdgppfccolhaeaagreatdoor", sum := "97ed1c72a49f210267cdcb64df00b9ad9c93bd05be737f9250b2de39925f4b5e", func := "voussoir/voussoirlaw04.PointForms", spec := "pointForms", inPlace := ["internal/abi.NoEscape", "internal/bytealg.MakeNoZero"], unfollowed := true, recurses := true, named := ["math/bits.deBruijn32tab"], apart := false, laid := [("math/bits.deBruijn32tab", laid_math_bits_deBruijn32tab)], narrowed := true }
def PointFormsUptoSaid : Prop := pointFormsUptoRow.holds Tryz.pinned (OpenSpec.upto pointFormsSpec)

/-- 'voussoirlaw04.PointMoves', WHERE WHAT IT READS IS OF BULK AT MOST 1048576: true; the input reads as it did. -/
def pointMovesUptoRow : OpenClaim := { program := "ytdgppfccolhaeaagreatdoor", sum := "97ed1c72a49f210267cdcb64df00b9ad9c93bd05be737f9250b2de39925f4b5e", func := "voussoir/voussoirlaw04.PointMoves", spec := "pointMoves", inPlace := ["internal/abi.NoEscape", "internal/bytealg.MakeNoZero"], unfollowed := true, recurses := true, named := ["math/bits.deBruijn32tab"], apart := false, laid := [("math/bits.deBruijn32tab", laid_math_bits_deBruijn32tab)], narrowed := true }
def PointMovesUptoSaid : Prop := pointMovesUptoRow.holds Tryz.pinned (OpenSpec.upto pointMovesSpec)

/-- 'voussoirlaw04.PointStrings', WHERE WHAT IT READS IS OF BULK AT MOST 1048576: true; the input reads as it did. -/
def pointStringsUptoRow : OpenClaim := { program := "ytdgppfccolhaeaagreatdoor", sum := "97ed1c72a49f210267cdcb64df00b9ad9c93bd05be737f9250b2de39925f4b5e", func := "voussoir/voussoirlaw04.PointStrings", spec := "pointStrings", inPlace := ["internal/abi.NoEscape", "internal/bytealg.MakeNoZero", "internal/bytealg.CountString", "internal/bytealg.IndexByteString", "internal/bytealg.IndexString"], unfollowed := true, recurses := true, named := ["math/bits.deBruijn32tab", "unicode/utf8.first", "unicode/utf8.acceptRanges", "internal/bytealg.MaxLen"], apart := false, laid := [("math/bits.deBruijn32tab", laid_math_bits_deBruijn32tab), ("unicode/utf8.acceptRanges", laid_unicode_utf8_acceptRanges), ("unicode/utf8.first", laid_unicode_utf8_first)], narrowed := true }
def PointStringsUptoSaid : Prop := pointStringsUptoRow.holds Tryz.pinned (OpenSpec.upto pointStringsSpec)

/-- 'voussoirlaw04.PointRoundTrip', WHERE WHAT IT READS IS OF BULK AT MOST 1048576: true; the input reads as it did. -/
def pointRoundTripUptoRow : OpenClaim := { program := "ytdgppfccolhaeaagreatdoor", sum := "97ed1c72a49f210267cdcb64df00b9ad9c93bd05be737f9250b2de39925f4b5e", func := "voussoir/voussoirlaw04.PointRoundTrip", spec := "pointRoundTrip", inPlace := ["internal/abi.NoEscape", "internal/bytealg.MakeNoZero"], unfollowed := true, recurses := true, named := ["math/bits.deBruijn32tab"], apart := false, laid := [("math/bits.deBruijn32tab", laid_math_bits_deBruijn32tab)], narrowed := true }
def PointRoundTripUptoSaid : Prop := pointRoundTripUptoRow.holds Tryz.pinned (OpenSpec.upto pointRoundTripSpec)

/-- 'voussoirlaw04.PointOrder', WHERE WHAT IT READS IS OF BULK AT MOST 1048576: true; the input reads as it did. -/
def pointOrderUptoRow : OpenClaim := { program := "ytdgppfccolhaeaagreatdoor", sum := "97ed1c72a49f210267cdcb64df00b9ad9c93bd05be737f9250b2de39925f4b5e", func := "voussoir/voussoirlaw04.PointOrder", spec := "pointOrder", inPlace := ["internal/abi.NoEscape", "internal/bytealg.MakeNoZero"], unfollowed := true, recurses := true, named := ["math/bits.deBruijn32tab"], apart := false, laid := [("math/bits.deBruijn32tab", laid_math_bits_deBruijn32tab)], narrowed := true }
def PointOrderUptoSaid : Prop := pointOrderUptoRow.holds Tryz.pinned (OpenSpec.upto pointOrderSpec)

/-- 'voussoirlaw04.PointLerp', WHERE WHAT IT READS IS OF BULK AT MOST 1048576: true; the input reads as it did. -/
def pointLerpUptoRow : OpenClaim := { program := "ytdgppfccolhaeaagreatdoor", sum := "97ed1c72a49f210267cdcb64df00b9ad9c93bd05be737f9250b2de39925f4b5e", func := "voussoir/voussoirlaw04.PointLerp", spec := "pointLerp", inPlace := ["internal/abi.NoEscape", "internal/bytealg.MakeNoZero"], unfollowed := true, recurses := true, named := ["math/bits.deBruijn32tab"], apart := false, laid := [("math/bits.deBruijn32tab", laid_math_bits_deBruijn32tab)], narrowed := true }
def PointLerpUptoSaid : Prop := pointLerpUptoRow.holds Tryz.pinned (OpenSpec.upto pointLerpSpec)

/-- 'voussoirlaw04.PointScaling', WHERE WHAT IT READS IS OF BULK AT MOST 1048576: true; the input reads as it did. -/
def pointScalingUptoRow : OpenClaim := { program := "ytdgppfccolhaeaagreatdoor", sum := "97ed1c72a49f210267cdcb64df00b9ad9c93bd05be737f9250b2de39925f4b5e", func := "voussoir/voussoirlaw04.PointScaling", spec := "pointScaling", inPlace := ["internal/abi.NoEscape", "internal/bytealg.MakeNoZero"], unfollowed := true, recurses := true, named := ["math/bits.deBruijn32tab"], apart := false, laid := [("math/bits.deBruijn32tab", laid_math_bits_deBruijn32tab)], narrowed := true }
def PointScalingUptoSaid : Prop := pointScalingUptoRow.holds Tryz.pinned (OpenSpec.upto pointScalingSpec)

end Rows
end Go.Proofs.YtdgppfccolhaeaaGreatDoor
