/- integer.Sub, Sign, FromInt64 and the reference's Sub, Sign, From. -/
import Derived.Test.YtmfinfnjamgboaaDoorInt
import Derived.Test.YtmfinfnjamgboaaDoorU64
namespace Go.Proofs.YtmfinfnjamgboaaDoor
open Go.RowKit NM

/-- Integers in boxes. -/
def Hold (E : TypeId) (w0 : World) (L : List (Nat × Value × Value)) (w : World) : Prop := (∀ x ∈ L, Blk w x.1 E [x.2.1, x.2.2]) ∧ Below w0.heap.size w0 w
section
variable {w wn w0 : World} {E : TypeId} {L : List (Nat × Value × Value)} {g g1 g2 g3 g4 g5 : Nat} {u v u1 v1 u2 v2 u3 v3 u4 v4 u5 v5 : Value}
theorem Hold.below (h : Hold E w0 L w) : Below w0.heap.size w0 w := h.2
theorem Hold.keep (h : Hold E w0 L w) (hb : Below w.heap.size w wn) : Hold E w0 L wn := ⟨fun x hx => (h.1 x hx).keep hb, then_ h.2 hb⟩
theorem Hold.drew (h : Hold E w0 L w) : Hold E w0 L w.drew := ⟨h.1, h.2.drew⟩
theorem Hold.nil (w : World) : Hold E w [] w := ⟨fun x hx => by simp at hx, Below.refl _ _⟩
theorem Hold.box (h : Hold E w0 L w) (u v : Value) : Hold E w0 ((w.heap.size, u, v) :: L) (w.alloc (.cells #[u, v] E)) := by
  refine ⟨fun x hx => ?_, then_ h.2 (below_alloc _ _)⟩
  rcases List.mem_cons.1 hx with rfl | hx
  · exact Blk.new w #[u, v] E
  · exact (h.1 x hx).alloc _
theorem Hold.alloc (h : Hold E w0 L w) (o : Obj) : Hold E w0 L (w.alloc o) := ⟨fun x hx => (h.1 x hx).alloc _, then_ h.2 (below_alloc _ _)⟩
theorem Hold.start1 (w : World) (E : TypeId) (u1 v1 : Value) : Hold E w [(w.heap.size, u1, v1)] (w.alloc (.cells #[u1, v1] E)) := (Hold.nil w).box u1 v1
theorem Hold.start2 (w : World) (E : TypeId) (u1 v1 u2 v2 : Value) : Hold E w [(w.heap.size + 1, u2, v2), (w.heap.size, u1, v1)] ((w.alloc (.cells #[u1, v1] E)).alloc (.cells #[u2, v2] E)) := by
  have h := (Hold.start1 w E u1 v1).box u2 v2
  simpa using h
theorem Hold.start3 (w : World) (E : TypeId) (u1 v1 u2 v2 u3 v3 : Value) : Hold E w [(w.heap.size + 1 + 1, u3, v3), (w.heap.size + 1, u2, v2), (w.heap.size, u1, v1)] (((w.alloc (.cells #[u1, v1] E)).alloc (.cells #[u2, v2] E)).alloc (.cells #[u3, v3] E)) := by
  have h := (Hold.start2 w E u1 v1 u2 v2).box u3 v3
  simpa using h
theorem Hold.at_ (h : Hold E w0 L w) {x : Nat × Value × Value} (hx : x ∈ L) : w.cell? ⟨x.1, 0, none⟩ = some x.2.1 ∧ w.cell? ⟨x.1, 1, none⟩ = some x.2.2 := ⟨(h.1 x hx).two.1, (h.1 x hx).two.2.1⟩
theorem Hold.all1 (h : Hold E w0 [(g1, u1, v1)] w) :
    w.cell? ⟨g1, 0, none⟩ = some u1 ∧ w.cell? ⟨g1, 1, none⟩ = some v1 ∧ Hold E w0 [(g1, u1, v1)] w :=
  ⟨(h.at_ (List.mem_cons_self ..)).1, (h.at_ (List.mem_cons_self ..)).2, h⟩
theorem Hold.all2 (h : Hold E w0 [(g2, u2, v2), (g1, u1, v1)] w) :
    w.cell? ⟨g1, 0, none⟩ = some u1 ∧ w.cell? ⟨g1, 1, none⟩ = some v1 ∧ w.cell? ⟨g2, 0, none⟩ = some u2 ∧ w.cell? ⟨g2, 1, none⟩ = some v2 ∧ Hold E w0 [(g2, u2, v2), (g1, u1, v1)] w :=
  ⟨(h.at_ (x := (g1, u1, v1)) (by simp)).1, (h.at_ (x := (g1, u1, v1)) (by simp)).2, (h.at_ (x := (g2, u2, v2)) (by simp)).1, (h.at_ (x := (g2, u2, v2)) (by simp)).2, h⟩
theorem Hold.all3 (h : Hold E w0 [(g3, u3, v3), (g2, u2, v2), (g1, u1, v1)] w) :
    w.cell? ⟨g1, 0, none⟩ = some u1 ∧ w.cell? ⟨g1, 1, none⟩ = some v1 ∧ w.cell? ⟨g2, 0, none⟩ = some u2 ∧ w.cell? ⟨g2, 1, none⟩ = some v2 ∧ w.cell? ⟨g3, 0, none⟩ = some u3 ∧ w.cell? ⟨g3, 1, none⟩ = some v3 ∧ Hold E w0 [(g3, u3, v3), (g2, u2, v2), (g1, u1, v1)] w :=
  ⟨(h.at_ (x := (g1, u1, v1)) (by simp)).1, (h.at_ (x := (g1, u1, v1)) (by simp)).2, (h.at_ (x := (g2, u2, v2)) (by simp)).1, (h.at_ (x := (g2, u2, v2)) (by simp)).2, (h.at_ (x := (g3, u3, v3)) (by simp)).1, (h.at_ (x := (g3, u3, v3)) (by simp)).2, h⟩
theorem Hold.all4 (h : Hold E w0 [(g4, u4, v4), (g3, u3, v3), (g2, u2, v2), (g1, u1, v1)] w) :
    w.cell? ⟨g1, 0, none⟩ = some u1 ∧ w.cell? ⟨g1, 1, none⟩ = some v1 ∧ w.cell? ⟨g2, 0, none⟩ = some u2 ∧ w.cell? ⟨g2, 1, none⟩ = some v2 ∧ w.cell? ⟨g3, 0, none⟩ = some u3 ∧ w.cell? ⟨g3, 1, none⟩ = some v3 ∧ w.cell? ⟨g4, 0, none⟩ = some u4 ∧ w.cell? ⟨g4, 1, none⟩ = some v4 ∧ Hold E w0 [(g4, u4, v4), (g3, u3, v3), (g2, u2, v2), (g1, u1, v1)] w :=
  ⟨(h.at_ (x := (g1, u1, v1)) (by simp)).1, (h.at_ (x := (g1, u1, v1)) (by simp)).2, (h.at_ (x := (g2, u2, v2)) (by simp)).1, (h.at_ (x := (g2, u2, v2)) (by simp)).2, (h.at_ (x := (g3, u3, v3)) (by simp)).1, (h.at_ (x := (g3, u3, v3)) (by simp)).2, (h.at_ (x := (g4, u4, v4)) (by simp)).1, (h.at_ (x := (g4, u4, v4)) (by simp)).2, h⟩
theorem Hold.all5 (h : Hold E w0 [(g5, u5, v5), (g4, u4, v4), (g3, u3, v3), (g2, u2, v2), (g1, u1, v1)] w) :
    w.cell? ⟨g1, 0, none⟩ = some u1 ∧ w.cell? ⟨g1, 1, none⟩ = some v1 ∧ w.cell? ⟨g2, 0, none⟩ = some u2 ∧ w.cell? ⟨g2, 1, none⟩ = some v2 ∧ w.cell? ⟨g3, 0, none⟩ = some u3 ∧ w.cell? ⟨g3, 1, none⟩ = some v3 ∧ w.cell? ⟨g4, 0, none⟩ = some u4 ∧ w.cell? ⟨g4, 1, none⟩ = some v4 ∧ w.cell? ⟨g5, 0, none⟩ = some u5 ∧ w.cell? ⟨g5, 1, none⟩ = some v5 ∧ Hold E w0 [(g5, u5, v5), (g4, u4, v4), (g3, u3, v3), (g2, u2, v2), (g1, u1, v1)] w :=
  ⟨(h.at_ (x := (g1, u1, v1)) (by simp)).1, (h.at_ (x := (g1, u1, v1)) (by simp)).2, (h.at_ (x := (g2, u2, v2)) (by simp)).1, (h.at_ (x := (g2, u2, v2)) (by simp)).2, (h.at_ (x := (g3, u3, v3)) (by simp)).1, (h.at_ (x := (g3, u3, v3)) (by simp)).2, (h.at_ (x := (g4, u4, v4)) (by simp)).1, (h.at_ (x := (g4, u4, v4)) (by simp)).2, (h.at_ (x := (g5, u5, v5)) (by simp)).1, (h.at_ (x := (g5, u5, v5)) (by simp)).2, h⟩
end

theorem sgn_case (z : Int) : (sg z = false ∧ (mg z).toList.isEmpty = true ∧ cmpZ z 0 = 0) ∨ (sg z = false ∧ (mg z).toList.isEmpty = false ∧ cmpZ z 0 = 1) ∨ (sg z = true ∧ (mg z).toList.isEmpty = false ∧ cmpZ z 0 = -1) := by
  have he : (mg z).toList.isEmpty = decide (z.natAbs = 0) := isEmpty_can _
  rw [he]
  rcases Int.lt_trichotomy z 0 with h | h | h
  · exact .inr (.inr ⟨decide_eq_true h, decide_eq_false (by omega), cmpZ_lt h⟩)
  · subst h
    exact .inl ⟨rfl, rfl, rfl⟩
  · exact .inr (.inl ⟨decide_eq_false (by omega), decide_eq_false (by omega), cmpZ_gt h⟩)

set_option maxHeartbeats 1000000 in
theorem Sign2_any (n : Bool) (s : ByteArray) (w : World) (hs : s.size ≤ maxLen) :
    Calls Tryd.prog 15 #[I2 n s] w fun e w' => e = .returned (.int .i64 (cmpZ (iv n s) 0)) ∧ Below w.heap.size w w' := by
  have hz := sgn_case (iv n s)
  rcases hz with ⟨z1, z2, z3⟩ | ⟨z1, z2, z3⟩ | ⟨z1, z2, z3⟩
  all_goals
    rw [z3]
    have hR := (Hold.nil w (E := 23)).box (.bool n) (.string s)
    go_enter Tryd.func15, Tryd.ntmps15
    go_wp2_with fail
    refine (Normalize2_any n s _ hs).mono ?_
    rintro e wn ⟨rfl, hbn⟩
    have hB := ((hR.keep hbn).1 _ (List.mem_cons_self ..))
    obtain ⟨c1, c2, f1, f2⟩ := hB.two
    go_wp2_with fail
    go_ret
    exact ⟨rfl, set2 (hR.keep hbn).below (Nat.le_refl _) _ _⟩
theorem wrap_u64_nat {k : Nat} (h : k < 18446744073709551616) : IntKind.u64.wrap (k : Int) = (k : Int) := by
  simp [IntKind.wrap, IntKind.bits, IntKind.signed]; omega
theorem wrap_u64_neg {k : Nat} (h0 : 0 < k) (h : k ≤ 9223372036854775808) : IntKind.u64.wrap (-(k : Int)) = 18446744073709551616 - (k : Int) := by
  simp [IntKind.wrap, IntKind.bits, IntKind.signed]; omega
end Go.Proofs.YtmfinfnjamgboaaDoor
