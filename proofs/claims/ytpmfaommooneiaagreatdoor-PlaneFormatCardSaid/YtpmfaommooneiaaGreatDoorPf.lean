/- point.Format. -/
import Derived.Test.YtpmfaommooneiaaGreatDoorPd
import Derived.Test.YtpmfaommooneiaaGreatDoorIs
import Derived.Test.YtpmfaommooneiaaGreatDoorQd
import Derived.Test.YtpmfaommooneiaaGreatDoorPq
import Derived.Test.YtpmfaommooneiaaGreatDoorShelf
import Derived.Test.YtpmfaommooneiaaGreatDoorN4
import Derived.Lib.Repeat
import Derived.Test.YtpmfaommooneiaaGreatDoorQ0
import Derived.Test.YtpmfaommooneiaaGreatDoorFmtZ
import Derived.Test.YtpmfaommooneiaaGreatDoorTextZ
import Derived.Test.YtpmfaommooneiaaGreatDoorStr
import Derived.Test.YtpmfaommooneiaaGreatDoorOwnZ
set_option linter.unusedVariables false
set_option linter.unusedSimpArgs false
namespace Go.Proofs.YtpmfaommooneiaaGreatDoor
open Go.RowKit NM

/-- v is a slice of the strings L, in memory from block 'base' on. -/
def OwnS (w : World) (base : Nat) (E : TypeId) (v : Value) (L : List ByteArray) : Prop := w.ownsRow base E 1 v L.length (L.map Value.string)
section
variable {P : Program} {w w' : World} {base : Nat} {E : TypeId} {v : Value} {L : List ByteArray}
theorem OwnS.nil (w : World) (base : Nat) (E : TypeId) : OwnS w base E (.slice none 0 0) [] := World.ownsRow_nil w base E 1
theorem OwnS.below (h : OwnS w base E v L) (hb : Below w.heap.size w w') : OwnS w' base E v L :=
  World.ownsRow.kept (row := none) h ⟨hb.os, hb.tape, hb.output, hb.size, fun i hi _ => hb.block i hi⟩ (by cases v.ownBlock <;> simp)
theorem OwnS.alloc (h : OwnS w base E v L) (o : Obj) : OwnS (w.alloc o) base E v L := h.below (below_alloc w o)
theorem OwnS.read (h : OwnS w base E v L) (h0 : L ≠ []) : ∃ g c, v = .slice (some ⟨g, 0, none⟩) L.length c ∧ L.length ≤ c ∧ g < w.heap.size ∧ ∀ (j : Nat) x, L[j]? = some x → w.cell? ⟨g, 0 + j, none⟩ = some (.string x) := by
  obtain ⟨hlen, h⟩ := h
  rcases h with ⟨rfl, hn⟩ | ⟨g, cap, cur, rfl, _, hg, hn, _, hsz, ht⟩
  · exact absurd (List.eq_nil_of_length_eq_zero hn) h0
  · have hB : Blk w g E (L.map Value.string ++ cur.toList.drop (L.length * 1)) := by
      rw [← ht, List.take_append_drop]
      refine ⟨(0, 0), by rw [hg], fun j _ => ?_⟩
      unfold World.frozen?
      rw [hg]
      simp
    refine ⟨g, cap, rfl, hn, hB.lt, fun j x hj => ?_⟩
    rw [Nat.zero_add]
    refine hB.cell ?_
    have hl : j < L.length := (List.getElem?_eq_some_iff.1 hj).1
    rw [List.getElem?_append_left (by simpa using hl), List.getElem?_map, hj]
    rfl
theorem wpList_pushS {ops : Array Oper} {rest : List Oper} {o : Oper} {a : Act} {Q : Exit → Act → World → Prop} (w : World) (hgd : o.guard = none) (s x : Operand) (t : TypeId)
    (ho : o.op = .call { callee := .builtin .append, args := #[s, x], argTypes := #[t, t] })
    (base : Nat) (E : TypeId) (ht : P.underlying t = some (.slice E)) (hrow : (P.info? E).map (fun i => (i.zero, i.size, i.bytes)) = some (some (.string ByteArray.empty), 1, 16))
    (v : Value) (L : List ByteArray) (hs : a.eval s = v) (hown : OwnS w base E v L) (g c : Nat) (hx : a.eval x = .slice (some ⟨g, 0, none⟩) 1 c) (z : ByteArray) (hB : w.cell? ⟨g, 0, none⟩ = some (.string z))
    (hlen : L.length ≤ 1000000) (hbase : base ≤ w.heap.size)
    (h : ∀ v' w', OwnS w' base E v' (L ++ [z]) → Below base w w' → wpList P ops Q rest (a.put o.dst v') w') : wpList P ops Q (o :: rest) a w := by
  obtain ⟨i, hi, hz, hsz, hb⟩ := info_parts hrow
  refine wpList_append_own w hgd s x t ho base E i (.string ByteArray.empty) 1 16 ht hi hz hsz hb rfl (by decide) v L.length (L.map Value.string) hs hown ⟨g, 0, none⟩ 1 c [.string z] hx rfl ?_ ?_ (by simp [maxLen]; omega) ?_ hbase ?_
  · intro j u hj
    match j, hj with
    | 0, hj =>
      simp at hj
      subst hj
      simpa [Addr.add] using hB
  · intro u hu
    simp at hu
    subst hu
    rfl
  · omega
  · intro v' w' h1 h2 _
    refine h v' w' ?_ ((Below.refl base w).grown h2 hbase (fun b hb => (hown.lt b hb).1))
    unfold OwnS
    simpa using h1
end
theorem row_S : (Tryz.prog.info? 9).map (fun i => (i.zero, i.size, i.bytes)) = some (some (.string ByteArray.empty), 1, 16) := by kernel_rfl

section
variable {c0 c1 c2 c3 c4 c5 c6 c7 c8 : Value} {w : World}
theorem index_vec0 : (Instr.index 29 (.agg #[c0, c1, c2, c3, c4, c5, c6, c7, c8]) (.int .i64 0)).run Tryz.prog w = .ok (.agg #[c0, c1, c2]) w := by
  simp only [Instr.index, asIntOf, pure_bind, Sem.run_bind, run_underlying Tryz.underlying29, Result.andThen_ok]
  rw [if_pos ⟨by decide, by decide⟩]
  simp only [Sem.run_bind, SX.run_tSize (show SX.tSize Tryz.prog 27 = some 3 by kernel_rfl), Result.andThen_ok, part, SX.run_tAgg (show SX.tAgg Tryz.prog 27 = some true by kernel_rfl), if_true]
  rfl
theorem index_vec1 : (Instr.index 29 (.agg #[c0, c1, c2, c3, c4, c5, c6, c7, c8]) (.int .i64 1)).run Tryz.prog w = .ok (.agg #[c3, c4, c5]) w := by
  simp only [Instr.index, asIntOf, pure_bind, Sem.run_bind, run_underlying Tryz.underlying29, Result.andThen_ok]
  rw [if_pos ⟨by decide, by decide⟩]
  simp only [Sem.run_bind, SX.run_tSize (show SX.tSize Tryz.prog 27 = some 3 by kernel_rfl), Result.andThen_ok, part, SX.run_tAgg (show SX.tAgg Tryz.prog 27 = some true by kernel_rfl), if_true]
  rfl
theorem index_vec2 : (Instr.index 29 (.agg #[c0, c1, c2, c3, c4, c5, c6, c7, c8]) (.int .i64 2)).run Tryz.prog w = .ok (.agg #[c6, c7, c8]) w := by
  simp only [Instr.index, asIntOf, pure_bind, Sem.run_bind, run_underlying Tryz.underlying29, Result.andThen_ok]
  rw [if_pos ⟨by decide, by decide⟩]
  simp only [Sem.run_bind, SX.run_tSize (show SX.tSize Tryz.prog 27 = some 3 by kernel_rfl), Result.andThen_ok, part, SX.run_tAgg (show SX.tAgg Tryz.prog 27 = some true by kernel_rfl), if_true]
  rfl
end
attribute [local go_sem] index_vec0 index_vec1 index_vec2
end Go.Proofs.YtpmfaommooneiaaGreatDoor
