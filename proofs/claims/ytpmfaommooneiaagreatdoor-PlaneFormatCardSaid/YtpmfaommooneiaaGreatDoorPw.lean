/- Texts of points: what is cut at a comma and a space; sizes of what is parsed. -/
import Derived.Test.YtpmfaommooneiaaGreatDoorPv
import Derived.Test.YtpmfaommooneiaaGreatDoorShelf
set_option linter.unusedVariables false
set_option linter.unusedSimpArgs false
namespace Go.Proofs.YtpmfaommooneiaaGreatDoor
open Go.RowKit NM SX

theorem mem_bts {c : UInt8} {s : ByteArray} (h : c ∈ s.data.toList) : c.toNat ∈ bts s := List.mem_map.2 ⟨c, h, rfl⟩
theorem size_list (s : ByteArray) : s.size = s.data.toList.length := by
  simp only [Array.length_toList]
  rfl
theorem ba_ext {a b : ByteArray} (h : a.data.toList = b.data.toList) : a = b := ByteArray.ext (Array.toList_inj.1 h)
/-! The brackets. -/
/-! What Parse returns: the point whose text it is, if there is one. -/
abbrev P0 : Value := .agg #[.bool false, .string ⟨#[]⟩, .bool false, .string ⟨#[]⟩, .bool false, .string ⟨#[]⟩, .bool false, .string ⟨#[]⟩]
/-! Sizes of what is parsed. -/
/-! The first comma and space, as the reference finds it. -/
end Go.Proofs.YtpmfaommooneiaaGreatDoor
