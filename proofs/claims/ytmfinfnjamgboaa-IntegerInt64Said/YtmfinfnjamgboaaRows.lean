/-
  No cell of these rows narrows 'for every input' (looked for: loops, veiled, ifaces, maps, wideKeys, modest, calm, conditions, laid).
  DERIVED. THE GIVEN ROWS OF THIS SEAT. 6 by the template 'for every input the law returns true; each argument reads behind the call as it read before'; 0 by the template 'total and deterministic' (their statements: YtmfinfnjamgboaaTotals.lean).
  GIVEN WITH THE SEED: the statements are not yours to turn. If you find one false, say at which input.
  Laid BY PROGRAM, IN A SANDBOX (cutbox-rows.mjs): the forced cells as the released guide's own fill.sh prints them over the translation 29380554bb82e9f9… (all of the seat's roots in one cut). By AI agents, Wed Nov 11 2026. No macro, syntax, notation, axiom, sorry.
-/
import Derived.Test.YtmfinfnjamgboaaChecked
import GoSem.Claim
import GoSem.ClaimJoined
import GoSem.ClaimMapViews
import Derived.JoinedTies
import Derived.KernelRfl
namespace Go.Proofs.Ytmfinfnjamgboaa
/- THE CELL 'sum', in the pinned program and in every row, IS THE sha256 OF THE DUMP (.gsa) THAT YtmfinfnjamgboaaProg.lean LOADS. Nothing in Lean hashes anything: it is a label: what it is worth is what the hold of that sum in a sandbox is worth. -/
noncomputable def Try.pinned : Pinned := { name := "ytmfinfnjamgboaa", sum := "29380554bb82e9f9b141ccf9b3eaaa2602e57fbc32bb6159d7abeba58cb35d45", checked := Try.checked }
namespace Rows
def none {H : Type} : Left H := { results := [], args := [] }

/-- 'voussoirlaw02.IntegerAddition': WHATEVER THE INPUT: true; the input reads as it did. -/
def integerAdditionSpec : ChangeSpec := { name := "integerAddition", fn := fun _ => fun
  | [d1, d2] => { results := [.lit (.bool true)], args := [d1, d2] }
  | _ => none }
def integerAdditionRow : OpenClaim := { program := "ytmfinfnjamgboaa", sum := "29380554bb82e9f9b141ccf9b3eaaa2602e57fbc32bb6159d7abeba58cb35d45", func := "voussoir/voussoirlaw02.IntegerAddition", spec := "integerAddition", unfollowed := true, recurses := true, apart := false }
def IntegerAdditionSaid : Prop := integerAdditionRow.holds Try.pinned (OpenSpec.ofChange integerAdditionSpec)

/-- ITS FALSE NEIGHBOUR: 'it returns false'. Refute it at one input. -/
def integerAdditionWrong : ChangeSpec := { name := "integerAddition", fn := fun _ => fun
  | [d1, d2] => { results := [.lit (.bool false)], args := [d1, d2] }
  | _ => none }
def IntegerAdditionWrongFalsely : Prop := integerAdditionRow.holds Try.pinned (OpenSpec.ofChange integerAdditionWrong)

/-- 'voussoirlaw02.IntegerMultiplication': WHATEVER THE INPUT: true; the input reads as it did. -/
def integerMultiplicationSpec : ChangeSpec := { name := "integerMultiplication", fn := fun _ => fun
  | [d1, d2] => { results := [.lit (.bool true)], args := [d1, d2] }
  | _ => none }
def integerMultiplicationRow : OpenClaim := { program := "ytmfinfnjamgboaa", sum := "29380554bb82e9f9b141ccf9b3eaaa2602e57fbc32bb6159d7abeba58cb35d45", func := "voussoir/voussoirlaw02.IntegerMultiplication", spec := "integerMultiplication", unfollowed := true, recurses := true, apart := false }
def IntegerMultiplicationSaid : Prop := integerMultiplicationRow.holds Try.pinned (OpenSpec.ofChange integerMultiplicationSpec)

/-- ITS FALSE NEIGHBOUR: 'it returns false'. Refute it at one input. -/
def integerMultiplicationWrong : ChangeSpec := { name := "integerMultiplication", fn := fun _ => fun
  | [d1, d2] => { results := [.lit (.bool false)], args := [d1, d2] }
  | _ => none }
def IntegerMultiplicationWrongFalsely : Prop := integerMultiplicationRow.holds Try.pinned (OpenSpec.ofChange integerMultiplicationWrong)

/-- 'voussoirlaw02.IntegerRing': WHATEVER THE INPUT: true; the input reads as it did. -/
def integerRingSpec : ChangeSpec := { name := "integerRing", fn := fun _ => fun
  | [d1, d2, d3] => { results := [.lit (.bool true)], args := [d1, d2, d3] }
  | _ => none }
def integerRingRow : OpenClaim := { program := "ytmfinfnjamgboaa", sum := "29380554bb82e9f9b141ccf9b3eaaa2602e57fbc32bb6159d7abeba58cb35d45", func := "voussoir/voussoirlaw02.IntegerRing", spec := "integerRing", unfollowed := true, recurses := true, apart := false }
def IntegerRingSaid : Prop := integerRingRow.holds Try.pinned (OpenSpec.ofChange integerRingSpec)

/-- ITS FALSE NEIGHBOUR: 'it returns false'. Refute it at one input. -/
def integerRingWrong : ChangeSpec := { name := "integerRing", fn := fun _ => fun
  | [d1, d2, d3] => { results := [.lit (.bool false)], args := [d1, d2, d3] }
  | _ => none }
def IntegerRingWrongFalsely : Prop := integerRingRow.holds Try.pinned (OpenSpec.ofChange integerRingWrong)

/-- 'voussoirlaw02.IntegerOrder': WHATEVER THE INPUT: true; the input reads as it did. -/
def integerOrderSpec : ChangeSpec := { name := "integerOrder", fn := fun _ => fun
  | [d1, d2, d3] => { results := [.lit (.bool true)], args := [d1, d2, d3] }
  | _ => none }
def integerOrderRow : OpenClaim := { program := "ytmfinfnjamgboaa", sum := "29380554bb82e9f9b141ccf9b3eaaa2602e57fbc32bb6159d7abeba58cb35d45", func := "voussoir/voussoirlaw02.IntegerOrder", spec := "integerOrder", unfollowed := true, recurses := true, apart := false }
def IntegerOrderSaid : Prop := integerOrderRow.holds Try.pinned (OpenSpec.ofChange integerOrderSpec)

/-- ITS FALSE NEIGHBOUR: 'it returns false'. Refute it at one input. -/
def integerOrderWrong : ChangeSpec := { name := "integerOrder", fn := fun _ => fun
  | [d1, d2, d3] => { results := [.lit (.bool false)], args := [d1, d2, d3] }
  | _ => none }
def IntegerOrderWrongFalsely : Prop := integerOrderRow.holds Try.pinned (OpenSpec.ofChange integerOrderWrong)

/-- 'voussoirlaw02.IntegerDivision': WHATEVER THE INPUT: true; the input reads as it did. -/
def integerDivisionSpec : ChangeSpec := { name := "integerDivision", fn := fun _ => fun
  | [d1, d2] => { results := [.lit (.bool true)], args := [d1, d2] }
  | _ => none }
def integerDivisionRow : OpenClaim := { program := "ytmfinfnjamgboaa", sum := "29380554bb82e9f9b141ccf9b3eaaa2602e57fbc32bb6159d7abeba58cb35d45", func := "voussoir/voussoirlaw02.IntegerDivision", spec := "integerDivision", unfollowed := true, recurses := true, apart := false }
def IntegerDivisionSaid : Prop := integerDivisionRow.holds Try.pinned (OpenSpec.ofChange integerDivisionSpec)

/-- ITS FALSE NEIGHBOUR: 'it returns false'. Refute it at one input. -/
def integerDivisionWrong : ChangeSpec := { name := "integerDivision", fn := fun _ => fun
  | [d1, d2] => { results := [.lit (.bool false)], args := [d1, d2] }
  | _ => none }
def IntegerDivisionWrongFalsely : Prop := integerDivisionRow.holds Try.pinned (OpenSpec.ofChange integerDivisionWrong)

/-- 'voussoirlaw02.IntegerInt64': WHATEVER THE INPUT: true; the input reads as it did. -/
def integerInt64Spec : ChangeSpec := { name := "integerInt64", fn := fun _ => fun
  | [d1, d2] => { results := [.lit (.bool true)], args := [d1, d2] }
  | _ => none }
def integerInt64Row : OpenClaim := { program := "ytmfinfnjamgboaa", sum := "29380554bb82e9f9b141ccf9b3eaaa2602e57fbc32bb6159d7abeba58cb35d45", func := "voussoir/voussoirlaw02.IntegerInt64", spec := "integerInt64", unfollowed := true, recurses := true, apart := false }
def IntegerInt64Said : Prop := integerInt64Row.holds Try.pinned (OpenSpec.ofChange integerInt64Spec)

/-- ITS FALSE NEIGHBOUR: 'it returns false'. Refute it at one input. -/
def integerInt64Wrong : ChangeSpec := { name := "integerInt64", fn := fun _ => fun
  | [d1, d2] => { results := [.lit (.bool false)], args := [d1, d2] }
  | _ => none }
def IntegerInt64WrongFalsely : Prop := integerInt64Row.holds Try.pinned (OpenSpec.ofChange integerInt64Wrong)

/- THE SECOND FORM. 'bulk': how many values and letters a reading holds, each counted each time it is reached (what is shared counts as often as it is met; a slice's spare places count too). A statement '..UptoSaid' is the law's where the arguments, and the package variables that the reading takes, are together of bulk at most 1048576: NARROWER than '..Said'. Prove '..Said' where nothing that the law and all that it calls make is longer than what came in: it says more and counts as full. Else prove '..UptoSaid'. A law counts once. -/
mutual
def uptoBulk {H : Type} : DataW H → Nat
  | .lit (.string bytes) => bytes.length + 1
  | .lit _ => 1
  | .nil => 1
  | .ptr d => uptoBulk d + 1
  | .slice elems spare => uptoBulkAll elems + uptoBulkAll spare + 1
  | .agg parts => uptoBulkAll parts + 1
  | .iface _ d => uptoBulk d + 1
  | .map entries => uptoBulkEntries entries + 1
  | .held _ => 1
def uptoBulkAll {H : Type} : List (DataW H) → Nat
  | [] => 0
  | d :: r => uptoBulk d + uptoBulkAll r
def uptoBulkEntries {H : Type} : List (Lit × DataW H) → Nat
  | [] => 0
  | x :: r => uptoBulkEntry x + uptoBulkEntries r
def uptoBulkEntry {H : Type} : Lit × DataW H → Nat
  | (.string bytes, d) => bytes.length + uptoBulk d + 1
  | (_, d) => uptoBulk d + 1
 end
def uptoSmall : (H : Type) → List (DataW H) → Bool := fun _ ds => decide (uptoBulkAll ds ≤ 1048576)
def OpenSpec.upto (s : _root_.Go.ChangeSpec) : _root_.Go.OpenSpec := { _root_.Go.OpenSpec.ofChange s with cond := some uptoSmall }

/-- 'voussoirlaw02.IntegerAddition', WHERE WHAT IT READS IS OF BULK AT MOST 1048576: true; the input reads as it did. -/
def integerAdditionUptoRow : OpenClaim := { program := "ytmfinfnjamgboaa", sum := "29380554bb82e9f9b141ccf9b3eaaa2602e57fbc32bb6159d7abeba58cb35d45", func := "voussoir/voussoirlaw02.IntegerAddition", spec := "integerAddition", unfollowed := true, recurses := true, apart := false, narrowed := true }
def IntegerAdditionUptoSaid : Prop := integerAdditionUptoRow.holds Try.pinned (OpenSpec.upto integerAdditionSpec)

/-- 'voussoirlaw02.IntegerMultiplication', WHERE WHAT IT READS IS OF BULK AT MOST 1048576: true; the input reads as it did. -/
def integerMultiplicationUptoRow : OpenClaim := { program := "ytmfinfnjamgboaa", sum := "29380554bb82e9f9b141ccf9b3eaaa2602e57fbc32bb6159d7abeba58cb35d45", func := "voussoir/voussoirlaw02.IntegerMultiplication", spec := "integerMultiplication", unfollowed := true, recurses := true, apart := false, narrowed := true }
def IntegerMultiplicationUptoSaid : Prop := integerMultiplicationUptoRow.holds Try.pinned (OpenSpec.upto integerMultiplicationSpec)

/-- 'voussoirlaw02.IntegerRing', WHERE WHAT IT READS IS OF BULK AT MOST 1048576: true; the input reads as it did. -/
def integerRingUptoRow : OpenClaim := { program := "ytmfinfnjamgboaa", sum := "29380554bb82e9f9b141ccf9b3eaaa2602e57fbc32bb6159d7abeba58cb35d45", func := "voussoir/voussoirlaw02.IntegerRing", spec := "integerRing", unfollowed := true, recurses := true, apart := false, narrowed := true }
def IntegerRingUptoSaid : Prop := integerRingUptoRow.holds Try.pinned (OpenSpec.upto integerRingSpec)

/-- 'voussoirlaw02.IntegerOrder', WHERE WHAT IT READS IS OF BULK AT MOST 1048576: true; the input reads as it did. -/
def integerOrderUptoRow : OpenClaim := { program := "ytmfinfnjamgboaa", sum := "29380554bb82e9f9b141ccf9b3eaaa2602e57fbc32bb6159d7abeba58cb35d45", func := "voussoir/voussoirlaw02.IntegerOrder", spec := "integerOrder", unfollowed := true, recurses := true, apart := false, narrowed := true }
def IntegerOrderUptoSaid : Prop := integerOrderUptoRow.holds Try.pinned (OpenSpec.upto integerOrderSpec)

/-- 'voussoirlaw02.IntegerDivision', WHERE WHAT IT READS IS OF BULK AT MOST 1048576: true; the input reads as it did. -/
def integerDivisionUptoRow : OpenClaim := { program := "ytmfinfnjamgboaa", sum := "29380554bb82e9f9b141ccf9b3eaaa2602e57fbc32bb6159d7abeba58cb35d45", func := "voussoir/voussoirlaw02.IntegerDivision", spec := "integerDivision", unfollowed := true, recurses := true, apart := false, narrowed := true }
def IntegerDivisionUptoSaid : Prop := integerDivisionUptoRow.holds Try.pinned (OpenSpec.upto integerDivisionSpec)

/-- 'voussoirlaw02.IntegerInt64', WHERE WHAT IT READS IS OF BULK AT MOST 1048576: true; the input reads as it did. -/
def integerInt64UptoRow : OpenClaim := { program := "ytmfinfnjamgboaa", sum := "29380554bb82e9f9b141ccf9b3eaaa2602e57fbc32bb6159d7abeba58cb35d45", func := "voussoir/voussoirlaw02.IntegerInt64", spec := "integerInt64", unfollowed := true, recurses := true, apart := false, narrowed := true }
def IntegerInt64UptoSaid : Prop := integerInt64UptoRow.holds Try.pinned (OpenSpec.upto integerInt64Spec)

end Rows
end Go.Proofs.Ytmfinfnjamgboaa
