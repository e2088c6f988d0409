/- point.Format. -/
import Derived.Test.YtdgppfccolhaeaaGreatDoorPs
import Derived.Test.YtdgppfccolhaeaaGreatDoorOwnZ
import Derived.Test.YtdgppfccolhaeaaGreatDoorShelf
set_option linter.unusedVariables false
set_option linter.unusedSimpArgs false
namespace Go.Proofs.YtdgppfccolhaeaaGreatDoor
open Go.RowKit NM

/-- v is a slice of the strings L, in memory from block 'base' on. -/
def OwnS (w : World) (base : Nat) (E : TypeId) (v : Value) (L : List ByteArray) : Prop := w.ownsRow base E 1 v L.length (L.map Value.string)
section
variable {P : Program} {w w' : World} {base : Nat} {E : TypeId} {v : Value} {L : List ByteArray}
theorem OwnS.nil (w : World) (base : Nat) (E : TypeId) : OwnS w base E (.slice none 0 0) [] := World.ownsRow_nil w base E 1
theorem OwnS.below (h : OwnS w base E v L) (hb : Below w.heap.size w w') : OwnS w' base E v L :=
  World.ownsRow.kept (row := none) h ⟨hb.os, hb.tape, hb.output, hb.size, fun i hi _ => hb.block i hi⟩ (by cases v.ownBlock <;> simp)
theorem OwnS.alloc (h : OwnS w base E v L) (o : Obj) : OwnS (w.alloc o) base E v L := h.below (below_alloc w o)
theorem OwnS.read (h : OwnS w base E v L) (h0 : L ≠ []) : ∃ g c, v = .slice (some ⟨g, 0, none⟩) L.length c ∧ L.length ≤ c ∧ g < w.heap.size ∧ ∀ (j : Nat) x, L[j]? = some x → w.cell? ⟨g, 0 + j, none⟩ = some (.string x) := by
  obtain ⟨hlen, h⟩ := h
  rcases h with ⟨rfl, hn⟩ | ⟨g, cap, cur, rfl, _, hg, hn, _, hsz, ht⟩
  · exact absurd (List.eq_nil_of_length_eq_zero hn) h0
  · have hB : Blk w g E (L.map Value.string ++ cur.toList.drop (L.length * 1)) := by
      rw [← ht, List.take_append_drop]
      refine ⟨(0, 0), by rw [hg], fun j _ => ?_⟩
      unfold World.frozen?
      rw [hg]
      simp
    refine ⟨g, cap, rfl, hn, hB.lt, fun j x hj => ?_⟩
    rw [Nat.zero_add]
    refine hB.cell ?_
    have hl : j < L.length := (List.getElem?_eq_some_iff.1 hj).1
    rw [List.getElem?_append_left (by simpa using hl), List.getElem?_map, hj]
    rfl
theorem wpList_pushS {ops : Array Oper} {rest : List Oper} {o : Oper} {a : Act} {Q : Exit → Act → World → Prop} (w : World) (hgd : o.guard = none) (s x : Operand) (t : TypeId)
    (ho : o.op = .call { callee := .builtin .append, args := #[s, x], argTypes := #[t, t] })
    (base : Nat) (E : TypeId) (ht : P.underlying t = some (.slice E)) (hrow : (P.info? E).map (fun i => (i.zero, i.size, i.bytes)) = some (some (.string ByteArray.empty), 1, 16))
    (v : Value) (L : List ByteArray) (hs : a.eval s = v) (hown : OwnS w base E v L) (g c : Nat) (hx : a.eval x = .slice (some ⟨g, 0, none⟩) 1 c) (z : ByteArray) (hB : w.cell? ⟨g, 0, none⟩ = some (.string z))
    (hlen : L.length ≤ 1000000) (hbase : base ≤ w.heap.size)
    (h : ∀ v' w', OwnS w' base E v' (L ++ [z]) → Below base w w' → wpList P ops Q rest (a.put o.dst v') w') : wpList P ops Q (o :: rest) a w := by
  obtain ⟨i, hi, hz, hsz, hb⟩ := info_parts hrow
  refine wpList_append_own w hgd s x t ho base E i (.string ByteArray.empty) 1 16 ht hi hz hsz hb rfl (by decide) v L.length (L.map Value.string) hs hown ⟨g, 0, none⟩ 1 c [.string z] hx rfl ?_ ?_ (by simp [maxLen]; omega) ?_ hbase ?_
  · intro j u hj
    match j, hj with
    | 0, hj =>
      simp at hj
      subst hj
      simpa [Addr.add] using hB
  · intro u hu
    simp at hu
    subst hu
    rfl
  · omega
  · intro v' w' h1 h2 _
    refine h v' w' ?_ ((Below.refl base w).grown h2 hbase (fun b hb => (hown.lt b hb).1))
    unfold OwnS
    simpa using h1
end
theorem row_S : (Tryz.prog.info? 9).map (fun i => (i.zero, i.size, i.bytes)) = some (some (.string ByteArray.empty), 1, 16) := by kernel_rfl

theorem join3 (a b c : ByteArray) : (⟨(Lib.join ([a, b, c].map (·.data.toList)) (⟨#[44, 32]⟩ : ByteArray).data.toList).toArray⟩ : ByteArray) = a ++ ⟨#[44, 32]⟩ ++ b ++ ⟨#[44, 32]⟩ ++ c := by
  apply ByteArray.ext
  apply Array.toList_inj.1
  rw [List.map_cons, List.map_cons, List.map_cons, List.map_nil, Lib.join_cons]
  simp [Lib.joinTail, ByteArray.data_append]
section
variable {c0 c1 c2 c3 c4 c5 c6 c7 c8 : Value} {w : World}
theorem index_vec0 : (Instr.index 29 (.agg #[c0, c1, c2, c3, c4, c5, c6, c7, c8]) (.int .i64 0)).run Tryz.prog w = .ok (.agg #[c0, c1, c2]) w := by
  simp only [Instr.index, asIntOf, pure_bind, Sem.run_bind, run_underlying Tryz.underlying29, Result.andThen_ok]
  rw [if_pos ⟨by decide, by decide⟩]
  simp only [Sem.run_bind, SX.run_tSize (show SX.tSize Tryz.prog 27 = some 3 by kernel_rfl), Result.andThen_ok, part, SX.run_tAgg (show SX.tAgg Tryz.prog 27 = some true by kernel_rfl), if_true]
  rfl
theorem index_vec1 : (Instr.index 29 (.agg #[c0, c1, c2, c3, c4, c5, c6, c7, c8]) (.int .i64 1)).run Tryz.prog w = .ok (.agg #[c3, c4, c5]) w := by
  simp only [Instr.index, asIntOf, pure_bind, Sem.run_bind, run_underlying Tryz.underlying29, Result.andThen_ok]
  rw [if_pos ⟨by decide, by decide⟩]
  simp only [Sem.run_bind, SX.run_tSize (show SX.tSize Tryz.prog 27 = some 3 by kernel_rfl), Result.andThen_ok, part, SX.run_tAgg (show SX.tAgg Tryz.prog 27 = some true by kernel_rfl), if_true]
  rfl
theorem index_vec2 : (Instr.index 29 (.agg #[c0, c1, c2, c3, c4, c5, c6, c7, c8]) (.int .i64 2)).run Tryz.prog w = .ok (.agg #[c6, c7, c8]) w := by
  simp only [Instr.index, asIntOf, pure_bind, Sem.run_bind, run_underlying Tryz.underlying29, Result.andThen_ok]
  rw [if_pos ⟨by decide, by decide⟩]
  simp only [Sem.run_bind, SX.run_tSize (show SX.tSize Tryz.prog 27 = some 3 by kernel_rfl), Result.andThen_ok, part, SX.run_tAgg (show SX.tAgg Tryz.prog 27 = some true by kernel_rfl), if_true]
  rfl
end
attribute [local go_sem] index_vec0 index_vec1 index_vec2
set_option maxRecDepth 100000 in
set_option maxHeartbeats 4000000 in
theorem pFormat {u0 : Value} {x0 : P3} {kx0 : Nat} (hx0 : IsP u0 x0 kx0) (lx0 : kx0 ≤ 10000) (w : World) (hT : TabC w) :
    Calls Tryz.prog 17 #[u0] w fun e w' => e = .returned (.string (textP x0)) ∧ Below w.heap.size w w' := by
  have zp : Vk x0 10000 := Vk.ofP ((hx0.up lx0).sz (by decide)) (by decide)
  have HC := Lib.hid (fun w => pCoords hx0 (Nat.le_trans lx0 (by decide)) w)
  obtain ⟨q, ⟨a0, a1, a2, a3, a4, a5, a6, a7, rfl, -⟩, -⟩ := hx0
  have HT := Lib.hid (And.intro hT hT.lt)
  clear hT
  go_enter Tryz.func17, Tryz.ntmps17
  go_wp2_with fail
  refine (HC.out _ (HT.out.1.below (below_alloc _ _) HT.out.2)).mono ?_
  rintro e w1 ⟨rfl, hb1⟩
  replace hb1 := bel1 _ _ hb1
  go_wp2_with fail
  go_loopw [3, 8] (fun x i wr => ∃ k : Nat, k ≤ 3 ∧ i = .int .i64 k ∧ OwnS wr w1.heap.size 9 x ([textQ x0.x, textQ x0.y, textQ x0.z].take k) ∧ Below w1.heap.size w1 wr) (fun _ i _ => 3 - (intOf i).toNat)
  case atStart => exact ⟨0, Nat.zero_le _, rfl, OwnS.nil _ _ _, Below.refl _ _⟩
  case round =>
    obtain ⟨k, hk, rfl, hown, hb⟩ := hrel
    have hw := hb1.size
    have hwr := hb.size
    rcases (show k = 0 ∨ k = 1 ∨ k = 2 ∨ k = 3 by omega) with rfl | rfl | rfl | rfl
    · have hT2 := HT.out.1.below (then_ hb1 hb) HT.out.2
      go_wp2_with fail
      refine (qText (IsQ.can zp.1) (by decide) _ (hT2.below (below_alloc _ _) (by have := HT.out.2; omega))).mono ?_
      rintro e w2 ⟨rfl, hb2⟩
      replace hb2 := bel1 _ _ hb2
      replace hown := hown.below hb2
      replace hb := then_ hb hb2
      have hbs := hb.size
      clear hb2 hT2
      go_wp2_with (at_builtin; refine wpList_pushS _ rfl _ _ 74 rfl w1.heap.size 9 Tryz.underlying74 row_S _ ([textQ x0.x, textQ x0.y, textQ x0.z].take 0) rfl (hown.alloc _) _ 1 rfl (textQ x0.x) ((Blk.new _ _ _).cell rfl) (by simp) (by simp; omega) ?_; intro v2 w3 hown2 hb3)
      go_roundw
      case rel => exact ⟨1, by omega, by go_num, hown2, (hb.alloc hbs _).trans hb3⟩
      case measure => simp [intOf]
    · have hT2 := HT.out.1.below (then_ hb1 hb) HT.out.2
      go_wp2_with fail
      refine (qText (IsQ.can zp.2.1) (by decide) _ (hT2.below (below_alloc _ _) (by have := HT.out.2; omega))).mono ?_
      rintro e w2 ⟨rfl, hb2⟩
      replace hb2 := bel1 _ _ hb2
      replace hown := hown.below hb2
      replace hb := then_ hb hb2
      have hbs := hb.size
      clear hb2 hT2
      go_wp2_with (at_builtin; refine wpList_pushS _ rfl _ _ 74 rfl w1.heap.size 9 Tryz.underlying74 row_S _ ([textQ x0.x, textQ x0.y, textQ x0.z].take 1) rfl (hown.alloc _) _ 1 rfl (textQ x0.y) ((Blk.new _ _ _).cell rfl) (by simp) (by simp; omega) ?_; intro v2 w3 hown2 hb3)
      go_roundw
      case rel => exact ⟨2, by omega, by go_num, hown2, (hb.alloc hbs _).trans hb3⟩
      case measure => simp [intOf]
    · have hT2 := HT.out.1.below (then_ hb1 hb) HT.out.2
      go_wp2_with fail
      refine (qText (IsQ.can zp.2.2) (by decide) _ (hT2.below (below_alloc _ _) (by have := HT.out.2; omega))).mono ?_
      rintro e w2 ⟨rfl, hb2⟩
      replace hb2 := bel1 _ _ hb2
      replace hown := hown.below hb2
      replace hb := then_ hb hb2
      have hbs := hb.size
      clear hb2 hT2
      go_wp2_with (at_builtin; refine wpList_pushS _ rfl _ _ 74 rfl w1.heap.size 9 Tryz.underlying74 row_S _ ([textQ x0.x, textQ x0.y, textQ x0.z].take 2) rfl (hown.alloc _) _ 1 rfl (textQ x0.z) ((Blk.new _ _ _).cell rfl) (by simp) (by simp; omega) ?_; intro v2 w3 hown2 hb3)
      go_roundw
      case rel => exact ⟨3, by omega, by go_num, hown2, (hb.alloc hbs _).trans hb3⟩
      case measure => simp [intOf]
    · obtain ⟨g, c, hu, hc, hg, hcells⟩ := hown.read (by simp)
      have hu' : _ = Value.slice (some ⟨g, 0, none⟩) [textQ x0.x, textQ x0.y, textQ x0.z].length c := hu
      subst hu'
      have y0 := textQ_sz zp.1
      have y1 := textQ_sz zp.2.1
      have y2 := textQ_sz zp.2.2
      have hj := join3 (textQ x0.x) (textQ x0.y) (textQ x0.z)
      have hjs : (textQ x0.x ++ ⟨#[44, 32]⟩ ++ textQ x0.y ++ ⟨#[44, 32]⟩ ++ textQ x0.z).size ≤ 200000 := by
        simp only [ByteArray.size_append, lit44]
        omega
      have hlen : (Lib.join ([textQ x0.x, textQ x0.y, textQ x0.z].map (·.data.toList)) (⟨#[44, 32]⟩ : ByteArray).data.toList).length ≤ 140737488355328 := by
        have h := congrArg ByteArray.size hj
        have e : ∀ l : List UInt8, (⟨l.toArray⟩ : ByteArray).size = l.length := fun l => by show l.toArray.size = _; simp
        rw [e] at h
        omega
      go_wp2_with fail
      refine (Tryz.strings_Join g 0 c [textQ x0.x, textQ x0.y, textQ x0.z] ⟨#[44, 32]⟩ _ hcells hg (by simp) hc hlen).mono ?_
      rw [hj]
      rintro e w4 ⟨rfl, hb4⟩
      have k1 : (⟨#[40]⟩ ++ (textQ x0.x ++ ⟨#[44, 32]⟩ ++ textQ x0.y ++ ⟨#[44, 32]⟩ ++ textQ x0.z) : ByteArray).size ≤ 200001 := by rw [ByteArray.size_append, lit40]; omega
      generalize hJ : textQ x0.x ++ ⟨#[44, 32]⟩ ++ textQ x0.y ++ ⟨#[44, 32]⟩ ++ textQ x0.z = J at *
      have l40 := lit40
      have l41 := lit41
      go_wp2_with fail
      go_ret
      refine ⟨?_, then_ (then_ hb1 hb) hb4⟩
      rw [← hJ]
      unfold textP
      simp only [ByteArray.append_assoc]
      rfl
end Go.Proofs.YtdgppfccolhaeaaGreatDoor
