/- plane.Format. -/
import Derived.Test.YtpmfaommooneiaaGreatDoorVd
import Derived.Test.YtpmfaommooneiaaGreatDoorPf
set_option linter.unusedVariables false
set_option linter.unusedSimpArgs false
namespace Go.Proofs.YtpmfaommooneiaaGreatDoor
open Go.RowKit NM

theorem iText {u0 : Value} {x0 : Int} {k0 : Nat} (hu0 : IsZ u0 x0 k0) (hk0 : k0 ≤ 1000000) (w : World) :
    Calls Tryz.prog 92 #[u0] w fun e w' => e = .returned (.string (decZ x0)) ∧ Below w.heap.size w w' := by
  obtain ⟨n0, s0, rfl, rfl, h01⟩ := hu0
  exact Format2_any n0 s0 w (by omega)
theorem join4 (a b c d : ByteArray) : (⟨(Lib.join ([a, b, c, d].map (·.data.toList)) (⟨#[32]⟩ : ByteArray).data.toList).toArray⟩ : ByteArray) = a ++ ⟨#[32]⟩ ++ b ++ ⟨#[32]⟩ ++ c ++ ⟨#[32]⟩ ++ d := by
  apply ByteArray.ext
  apply Array.toList_inj.1
  rw [List.map_cons, List.map_cons, List.map_cons, List.map_cons, List.map_nil, Lib.join_cons]
  simp [Lib.joinTail, ByteArray.data_append]
section
variable {c0 c1 c2 c3 c4 c5 c6 c7 : Value} {w : World}
theorem index_four0 : (Instr.index 67 (.agg #[c0, c1, c2, c3, c4, c5, c6, c7]) (.int .i64 0)).run Tryz.prog w = .ok (.agg #[c0, c1]) w := by
  simp only [Instr.index, asIntOf, pure_bind, Sem.run_bind, run_underlying Tryz.underlying67, Result.andThen_ok]
  rw [if_pos ⟨by decide, by decide⟩]
  simp only [Sem.run_bind, SX.run_tSize (show SX.tSize Tryz.prog 23 = some 2 by kernel_rfl), Result.andThen_ok, part, SX.run_tAgg (show SX.tAgg Tryz.prog 23 = some true by kernel_rfl), if_true]
  rfl
theorem index_four1 : (Instr.index 67 (.agg #[c0, c1, c2, c3, c4, c5, c6, c7]) (.int .i64 1)).run Tryz.prog w = .ok (.agg #[c2, c3]) w := by
  simp only [Instr.index, asIntOf, pure_bind, Sem.run_bind, run_underlying Tryz.underlying67, Result.andThen_ok]
  rw [if_pos ⟨by decide, by decide⟩]
  simp only [Sem.run_bind, SX.run_tSize (show SX.tSize Tryz.prog 23 = some 2 by kernel_rfl), Result.andThen_ok, part, SX.run_tAgg (show SX.tAgg Tryz.prog 23 = some true by kernel_rfl), if_true]
  rfl
theorem index_four2 : (Instr.index 67 (.agg #[c0, c1, c2, c3, c4, c5, c6, c7]) (.int .i64 2)).run Tryz.prog w = .ok (.agg #[c4, c5]) w := by
  simp only [Instr.index, asIntOf, pure_bind, Sem.run_bind, run_underlying Tryz.underlying67, Result.andThen_ok]
  rw [if_pos ⟨by decide, by decide⟩]
  simp only [Sem.run_bind, SX.run_tSize (show SX.tSize Tryz.prog 23 = some 2 by kernel_rfl), Result.andThen_ok, part, SX.run_tAgg (show SX.tAgg Tryz.prog 23 = some true by kernel_rfl), if_true]
  rfl
theorem index_four3 : (Instr.index 67 (.agg #[c0, c1, c2, c3, c4, c5, c6, c7]) (.int .i64 3)).run Tryz.prog w = .ok (.agg #[c6, c7]) w := by
  simp only [Instr.index, asIntOf, pure_bind, Sem.run_bind, run_underlying Tryz.underlying67, Result.andThen_ok]
  rw [if_pos ⟨by decide, by decide⟩]
  simp only [Sem.run_bind, SX.run_tSize (show SX.tSize Tryz.prog 23 = some 2 by kernel_rfl), Result.andThen_ok, part, SX.run_tAgg (show SX.tAgg Tryz.prog 23 = some true by kernel_rfl), if_true]
  rfl
end
attribute [local go_sem] index_four0 index_four1 index_four2 index_four3
set_option maxRecDepth 100000 in
set_option maxHeartbeats 4000000 in
theorem plFormat {x0 : Z4} {kx0 : Nat} (zx0 : Fk x0 kx0) (lx0 : kx0 ≤ 10000) (w : World) :
    Calls Tryz.prog 39 #[FV x0] w fun e w' => e = .returned (.string (textF x0)) ∧ Below w.heap.size w w' := by
  replace zx0 := zx0.up lx0
  go_enter Tryz.func39, Tryz.ntmps39
  go_wp2_with fail
  refine (plCo _ _ _ _ _ _ _ _ _).mono ?_
  rintro e w1 ⟨rfl, hb1⟩
  replace hb1 := bel1 _ _ hb1
  go_wp2_with fail
  go_loopw [3, 8] (fun x i wr => ∃ k : Nat, k ≤ 4 ∧ i = .int .i64 k ∧ OwnS wr w1.heap.size 9 x ([decZ x0.a, decZ x0.b, decZ x0.c, decZ x0.d].take k) ∧ Below w1.heap.size w1 wr) (fun _ i _ => 4 - (intOf i).toNat)
  case atStart => exact ⟨0, Nat.zero_le _, rfl, OwnS.nil _ _ _, Below.refl _ _⟩
  case round =>
    obtain ⟨k, hk, rfl, hown, hb⟩ := hrel
    have hw := hb1.size
    have hwr := hb.size
    rcases (show k = 0 ∨ k = 1 ∨ k = 2 ∨ k = 3 ∨ k = 4 by omega) with rfl | rfl | rfl | rfl | rfl
    · go_wp2_with fail
      refine (iText (IsZ.can zx0.1) (by decide) _).mono ?_
      rintro e w2 ⟨rfl, hb2⟩
      replace hb2 := bel1 _ _ hb2
      replace hown := hown.below hb2
      replace hb := then_ hb hb2
      have hbs := hb.size
      clear hb2
      go_wp2_with (at_builtin; refine wpList_pushS _ rfl _ _ 97 rfl w1.heap.size 9 Tryz.underlying97 row_S _ ([decZ x0.a, decZ x0.b, decZ x0.c, decZ x0.d].take 0) rfl (hown.alloc _) _ 1 rfl (decZ x0.a) ((Blk.new _ _ _).cell rfl) (by simp) (by simp; omega) ?_; intro v2 w3 hown2 hb3)
      go_roundw
      case rel => exact ⟨1, by omega, by go_num, hown2, (hb.alloc hbs _).trans hb3⟩
      case measure => simp [intOf]
    · go_wp2_with fail
      refine (iText (IsZ.can zx0.2.1) (by decide) _).mono ?_
      rintro e w2 ⟨rfl, hb2⟩
      replace hb2 := bel1 _ _ hb2
      replace hown := hown.below hb2
      replace hb := then_ hb hb2
      have hbs := hb.size
      clear hb2
      go_wp2_with (at_builtin; refine wpList_pushS _ rfl _ _ 97 rfl w1.heap.size 9 Tryz.underlying97 row_S _ ([decZ x0.a, decZ x0.b, decZ x0.c, decZ x0.d].take 1) rfl (hown.alloc _) _ 1 rfl (decZ x0.b) ((Blk.new _ _ _).cell rfl) (by simp) (by simp; omega) ?_; intro v2 w3 hown2 hb3)
      go_roundw
      case rel => exact ⟨2, by omega, by go_num, hown2, (hb.alloc hbs _).trans hb3⟩
      case measure => simp [intOf]
    · go_wp2_with fail
      refine (iText (IsZ.can zx0.2.2.1) (by decide) _).mono ?_
      rintro e w2 ⟨rfl, hb2⟩
      replace hb2 := bel1 _ _ hb2
      replace hown := hown.below hb2
      replace hb := then_ hb hb2
      have hbs := hb.size
      clear hb2
      go_wp2_with (at_builtin; refine wpList_pushS _ rfl _ _ 97 rfl w1.heap.size 9 Tryz.underlying97 row_S _ ([decZ x0.a, decZ x0.b, decZ x0.c, decZ x0.d].take 2) rfl (hown.alloc _) _ 1 rfl (decZ x0.c) ((Blk.new _ _ _).cell rfl) (by simp) (by simp; omega) ?_; intro v2 w3 hown2 hb3)
      go_roundw
      case rel => exact ⟨3, by omega, by go_num, hown2, (hb.alloc hbs _).trans hb3⟩
      case measure => simp [intOf]
    · go_wp2_with fail
      refine (iText (IsZ.can zx0.2.2.2) (by decide) _).mono ?_
      rintro e w2 ⟨rfl, hb2⟩
      replace hb2 := bel1 _ _ hb2
      replace hown := hown.below hb2
      replace hb := then_ hb hb2
      have hbs := hb.size
      clear hb2
      go_wp2_with (at_builtin; refine wpList_pushS _ rfl _ _ 97 rfl w1.heap.size 9 Tryz.underlying97 row_S _ ([decZ x0.a, decZ x0.b, decZ x0.c, decZ x0.d].take 3) rfl (hown.alloc _) _ 1 rfl (decZ x0.d) ((Blk.new _ _ _).cell rfl) (by simp) (by simp; omega) ?_; intro v2 w3 hown2 hb3)
      go_roundw
      case rel => exact ⟨4, by omega, by go_num, hown2, (hb.alloc hbs _).trans hb3⟩
      case measure => simp [intOf]
    · obtain ⟨g, c, hu, hc, hg, hcells⟩ := hown.read (by simp)
      have hu' : _ = Value.slice (some ⟨g, 0, none⟩) [decZ x0.a, decZ x0.b, decZ x0.c, decZ x0.d].length c := hu
      subst hu'
      have y0 := decZ_size zx0.1
      have y1 := decZ_size zx0.2.1
      have y2 := decZ_size zx0.2.2.1
      have y3 := decZ_size zx0.2.2.2
      have hj := join4 (decZ x0.a) (decZ x0.b) (decZ x0.c) (decZ x0.d)
      have hjs : (decZ x0.a ++ ⟨#[32]⟩ ++ decZ x0.b ++ ⟨#[32]⟩ ++ decZ x0.c ++ ⟨#[32]⟩ ++ decZ x0.d).size ≤ 200000 := by
        simp only [ByteArray.size_append, lit32]
        omega
      have hlen : (Lib.join ([decZ x0.a, decZ x0.b, decZ x0.c, decZ x0.d].map (·.data.toList)) (⟨#[32]⟩ : ByteArray).data.toList).length ≤ 140737488355328 := by
        have h := congrArg ByteArray.size hj
        have e : ∀ l : List UInt8, (⟨l.toArray⟩ : ByteArray).size = l.length := fun l => by show l.toArray.size = _; simp
        rw [e] at h
        omega
      go_wp2_with fail
      refine (Tryz.strings_Join g 0 c [decZ x0.a, decZ x0.b, decZ x0.c, decZ x0.d] ⟨#[32]⟩ _ hcells hg (by simp) hc hlen).mono ?_
      rw [hj]
      rintro e w4 ⟨rfl, hb4⟩
      have k1 : (⟨#[91]⟩ ++ (decZ x0.a ++ ⟨#[32]⟩ ++ decZ x0.b ++ ⟨#[32]⟩ ++ decZ x0.c ++ ⟨#[32]⟩ ++ decZ x0.d) : ByteArray).size ≤ 200001 := by rw [ByteArray.size_append, lit91]; omega
      generalize hJ : decZ x0.a ++ ⟨#[32]⟩ ++ decZ x0.b ++ ⟨#[32]⟩ ++ decZ x0.c ++ ⟨#[32]⟩ ++ decZ x0.d = J at *
      have l91 := lit91
      have l93 := lit93
      go_wp2_with fail
      go_ret
      refine ⟨?_, then_ (then_ hb1 hb) hb4⟩
      rw [← hJ]
      unfold textF
      simp only [ByteArray.append_assoc]
      rfl
end Go.Proofs.YtpmfaommooneiaaGreatDoor
