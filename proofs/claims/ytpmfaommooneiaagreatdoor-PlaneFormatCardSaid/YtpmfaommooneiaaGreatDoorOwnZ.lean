/- A slice of integers in canonical form that the call itself makes and appends to. -/
import Derived.Test.YtpmfaommooneiaaGreatDoorGcdZ
import Derived.Laws.AppendOwn
set_option linter.unusedVariables false
set_option linter.unusedSimpArgs false
namespace Go.Proofs.YtpmfaommooneiaaGreatDoor
open Go.RowKit NM

/-- The cells of canonical integers. -/
def cellsOfZ (L : List Int) : List Value := L.flatMap fun z => [.bool (sg z), .string (mg z)]
theorem cellsOfZ_flat (L : List Int) : cellsOfZ L = flatZ (L.map fun z => (sg z, mg z)) := by
  unfold cellsOfZ flatZ
  rw [List.flatMap_map]
/-- v is a slice of the integers L, in memory from block 'base' on. -/
def OwnZ (w : World) (base : Nat) (E : TypeId) (v : Value) (L : List Int) : Prop := w.ownsRow base E 2 v L.length (cellsOfZ L)
section
variable {P : Program} {w w' : World} {base : Nat} {E : TypeId} {v : Value} {L : List Int}
theorem OwnZ.nil (w : World) (base : Nat) (E : TypeId) : OwnZ w base E (.slice none 0 0) [] := World.ownsRow_nil w base E 2
theorem OwnZ.below (h : OwnZ w base E v L) (hb : Below w.heap.size w w') : OwnZ w' base E v L :=
  World.ownsRow.kept (row := none) h ⟨hb.os, hb.tape, hb.output, hb.size, fun i hi _ => hb.block i hi⟩ (by cases v.ownBlock <;> simp)
theorem OwnZ.alloc (h : OwnZ w base E v L) (o : Obj) : OwnZ (w.alloc o) base E v L := h.below (below_alloc w o)
theorem OwnZ.read (h : OwnZ w base E v L) : ∃ A c, v = .slice A L.length c ∧ RdZ w A (L.map fun z => (sg z, mg z)) := by
  obtain ⟨hlen, h⟩ := h
  rcases h with ⟨rfl, hn⟩ | ⟨g, cap, cur, rfl, _, hg, hn, _, hsz, ht⟩
  · obtain rfl : L = [] := List.eq_nil_of_length_eq_zero hn
    exact ⟨none, 0, rfl, RdZ.nil w none⟩
  · refine ⟨some ⟨g, 0, none⟩, cap, rfl, ?_⟩
    have hB : Blk w g E (flatZ (L.map fun z => (sg z, mg z)) ++ cur.toList.drop (L.length * 2)) := by
      rw [← cellsOfZ_flat, ← ht, List.take_append_drop]
      refine ⟨(0, 0), by rw [hg], fun j _ => ?_⟩
      unfold World.frozen?
      rw [hg]
      simp
    exact RdZ.blk hB
end

/-! The greatest common divisor of three numbers. -/
end Go.Proofs.YtpmfaommooneiaaGreatDoor
