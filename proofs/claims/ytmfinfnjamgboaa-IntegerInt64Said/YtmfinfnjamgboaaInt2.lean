/- integer.Sub, Sign, FromInt64 and the reference's Sub, Sign, From. -/
import Derived.Test.YtmfinfnjamgboaaInt
import Derived.Test.YtmfinfnjamgboaaU64
namespace Go.Proofs.Ytmfinfnjamgboaa
open Go.RowKit NM

/-- Integers in boxes. -/
def Hold (E : TypeId) (w0 : World) (L : List (Nat × Value × Value)) (w : World) : Prop := (∀ x ∈ L, Blk w x.1 E [x.2.1, x.2.2]) ∧ Below w0.heap.size w0 w
section
variable {w wn w0 : World} {E : TypeId} {L : List (Nat × Value × Value)} {g g1 g2 g3 g4 g5 : Nat} {u v u1 v1 u2 v2 u3 v3 u4 v4 u5 v5 : Value}
theorem Hold.below (h : Hold E w0 L w) : Below w0.heap.size w0 w := h.2
theorem Hold.keep (h : Hold E w0 L w) (hb : Below w.heap.size w wn) : Hold E w0 L wn := ⟨fun x hx => (h.1 x hx).keep hb, then_ h.2 hb⟩
theorem Hold.drew (h : Hold E w0 L w) : Hold E w0 L w.drew := ⟨h.1, h.2.drew⟩
theorem Hold.nil (w : World) : Hold E w [] w := ⟨fun x hx => by simp at hx, Below.refl _ _⟩
theorem Hold.box (h : Hold E w0 L w) (u v : Value) : Hold E w0 ((w.heap.size, u, v) :: L) (w.alloc (.cells #[u, v] E)) := by
  refine ⟨fun x hx => ?_, then_ h.2 (below_alloc _ _)⟩
  rcases List.mem_cons.1 hx with rfl | hx
  · exact Blk.new w #[u, v] E
  · exact (h.1 x hx).alloc _
theorem Hold.alloc (h : Hold E w0 L w) (o : Obj) : Hold E w0 L (w.alloc o) := ⟨fun x hx => (h.1 x hx).alloc _, then_ h.2 (below_alloc _ _)⟩
theorem Hold.start1 (w : World) (E : TypeId) (u1 v1 : Value) : Hold E w [(w.heap.size, u1, v1)] (w.alloc (.cells #[u1, v1] E)) := (Hold.nil w).box u1 v1
theorem Hold.start2 (w : World) (E : TypeId) (u1 v1 u2 v2 : Value) : Hold E w [(w.heap.size + 1, u2, v2), (w.heap.size, u1, v1)] ((w.alloc (.cells #[u1, v1] E)).alloc (.cells #[u2, v2] E)) := by
  have h := (Hold.start1 w E u1 v1).box u2 v2
  simpa using h
theorem Hold.start3 (w : World) (E : TypeId) (u1 v1 u2 v2 u3 v3 : Value) : Hold E w [(w.heap.size + 1 + 1, u3, v3), (w.heap.size + 1, u2, v2), (w.heap.size, u1, v1)] (((w.alloc (.cells #[u1, v1] E)).alloc (.cells #[u2, v2] E)).alloc (.cells #[u3, v3] E)) := by
  have h := (Hold.start2 w E u1 v1 u2 v2).box u3 v3
  simpa using h
theorem Hold.at_ (h : Hold E w0 L w) {x : Nat × Value × Value} (hx : x ∈ L) : w.cell? ⟨x.1, 0, none⟩ = some x.2.1 ∧ w.cell? ⟨x.1, 1, none⟩ = some x.2.2 := ⟨(h.1 x hx).two.1, (h.1 x hx).two.2.1⟩
theorem Hold.all1 (h : Hold E w0 [(g1, u1, v1)] w) :
    w.cell? ⟨g1, 0, none⟩ = some u1 ∧ w.cell? ⟨g1, 1, none⟩ = some v1 ∧ Hold E w0 [(g1, u1, v1)] w :=
  ⟨(h.at_ (List.mem_cons_self ..)).1, (h.at_ (List.mem_cons_self ..)).2, h⟩
theorem Hold.all2 (h : Hold E w0 [(g2, u2, v2), (g1, u1, v1)] w) :
    w.cell? ⟨g1, 0, none⟩ = some u1 ∧ w.cell? ⟨g1, 1, none⟩ = some v1 ∧ w.cell? ⟨g2, 0, none⟩ = some u2 ∧ w.cell? ⟨g2, 1, none⟩ = some v2 ∧ Hold E w0 [(g2, u2, v2), (g1, u1, v1)] w :=
  ⟨(h.at_ (x := (g1, u1, v1)) (by simp)).1, (h.at_ (x := (g1, u1, v1)) (by simp)).2, (h.at_ (x := (g2, u2, v2)) (by simp)).1, (h.at_ (x := (g2, u2, v2)) (by simp)).2, h⟩
theorem Hold.all3 (h : Hold E w0 [(g3, u3, v3), (g2, u2, v2), (g1, u1, v1)] w) :
    w.cell? ⟨g1, 0, none⟩ = some u1 ∧ w.cell? ⟨g1, 1, none⟩ = some v1 ∧ w.cell? ⟨g2, 0, none⟩ = some u2 ∧ w.cell? ⟨g2, 1, none⟩ = some v2 ∧ w.cell? ⟨g3, 0, none⟩ = some u3 ∧ w.cell? ⟨g3, 1, none⟩ = some v3 ∧ Hold E w0 [(g3, u3, v3), (g2, u2, v2), (g1, u1, v1)] w :=
  ⟨(h.at_ (x := (g1, u1, v1)) (by simp)).1, (h.at_ (x := (g1, u1, v1)) (by simp)).2, (h.at_ (x := (g2, u2, v2)) (by simp)).1, (h.at_ (x := (g2, u2, v2)) (by simp)).2, (h.at_ (x := (g3, u3, v3)) (by simp)).1, (h.at_ (x := (g3, u3, v3)) (by simp)).2, h⟩
theorem Hold.all4 (h : Hold E w0 [(g4, u4, v4), (g3, u3, v3), (g2, u2, v2), (g1, u1, v1)] w) :
    w.cell? ⟨g1, 0, none⟩ = some u1 ∧ w.cell? ⟨g1, 1, none⟩ = some v1 ∧ w.cell? ⟨g2, 0, none⟩ = some u2 ∧ w.cell? ⟨g2, 1, none⟩ = some v2 ∧ w.cell? ⟨g3, 0, none⟩ = some u3 ∧ w.cell? ⟨g3, 1, none⟩ = some v3 ∧ w.cell? ⟨g4, 0, none⟩ = some u4 ∧ w.cell? ⟨g4, 1, none⟩ = some v4 ∧ Hold E w0 [(g4, u4, v4), (g3, u3, v3), (g2, u2, v2), (g1, u1, v1)] w :=
  ⟨(h.at_ (x := (g1, u1, v1)) (by simp)).1, (h.at_ (x := (g1, u1, v1)) (by simp)).2, (h.at_ (x := (g2, u2, v2)) (by simp)).1, (h.at_ (x := (g2, u2, v2)) (by simp)).2, (h.at_ (x := (g3, u3, v3)) (by simp)).1, (h.at_ (x := (g3, u3, v3)) (by simp)).2, (h.at_ (x := (g4, u4, v4)) (by simp)).1, (h.at_ (x := (g4, u4, v4)) (by simp)).2, h⟩
theorem Hold.all5 (h : Hold E w0 [(g5, u5, v5), (g4, u4, v4), (g3, u3, v3), (g2, u2, v2), (g1, u1, v1)] w) :
    w.cell? ⟨g1, 0, none⟩ = some u1 ∧ w.cell? ⟨g1, 1, none⟩ = some v1 ∧ w.cell? ⟨g2, 0, none⟩ = some u2 ∧ w.cell? ⟨g2, 1, none⟩ = some v2 ∧ w.cell? ⟨g3, 0, none⟩ = some u3 ∧ w.cell? ⟨g3, 1, none⟩ = some v3 ∧ w.cell? ⟨g4, 0, none⟩ = some u4 ∧ w.cell? ⟨g4, 1, none⟩ = some v4 ∧ w.cell? ⟨g5, 0, none⟩ = some u5 ∧ w.cell? ⟨g5, 1, none⟩ = some v5 ∧ Hold E w0 [(g5, u5, v5), (g4, u4, v4), (g3, u3, v3), (g2, u2, v2), (g1, u1, v1)] w :=
  ⟨(h.at_ (x := (g1, u1, v1)) (by simp)).1, (h.at_ (x := (g1, u1, v1)) (by simp)).2, (h.at_ (x := (g2, u2, v2)) (by simp)).1, (h.at_ (x := (g2, u2, v2)) (by simp)).2, (h.at_ (x := (g3, u3, v3)) (by simp)).1, (h.at_ (x := (g3, u3, v3)) (by simp)).2, (h.at_ (x := (g4, u4, v4)) (by simp)).1, (h.at_ (x := (g4, u4, v4)) (by simp)).2, (h.at_ (x := (g5, u5, v5)) (by simp)).1, (h.at_ (x := (g5, u5, v5)) (by simp)).2, h⟩
end

set_option maxHeartbeats 1000000 in
theorem Sub2_any (n m : Bool) (s t : ByteArray) (w : World) (hs : s.size ≤ 1073741824) (ht : t.size ≤ 1073741824) :
    Calls Try.prog 13 #[I2 n s, I2 m t] w fun e w' => e = .returned (Z (iv n s - iv m t)) ∧ Below w.heap.size w w' := by
  have hst := mg_neg_size (mg_iv_size (n := m) ht)
  rw [Int.sub_eq_add_neg]
  have hR := Rest2.start w 23 (.bool n) (.string s) (.bool m) (.string t) (.bool false) (.string ⟨#[]⟩)
  go_enter Try.func13, Try.ntmps13
  go_wp2_with fail
  generalize ((w.alloc (Obj.cells #[Value.bool n, Value.string s] 23)).alloc (Obj.cells #[Value.bool m, Value.string t] 23)).alloc (Obj.cells #[Value.bool false, Value.string ⟨#[]⟩] 23) = W at hR ⊢
  go_region_held3 (fun w' => w'.cell? ⟨w.heap.size, 0, none⟩ = some (.bool n) ∧ w'.cell? ⟨w.heap.size, 1, none⟩ = some (.string s) ∧ w'.cell? ⟨w.heap.size + 1, 0, none⟩ = some (.bool m) ∧ w'.cell? ⟨w.heap.size + 1, 1, none⟩ = some (.string t) ∧ Rest2 w w.heap.size (w.heap.size + 1) (w.heap.size + 1 + 1) 23 (.bool n) (.string s) (.bool m) (.string t) w')
    (first | exact (hR.drew).all | exact hRn.all | exact (hRn.set _ _).all)
    (first
      | (go_at_call 15; refine (Neg2_any _ _ _ ?_).mono ?_; (simp [maxLen]; omega); rintro e wn ⟨rfl, hbn⟩; go_split_ands; have hRn := Rest2.keep (by assumption) hbn)
      | (go_at_call 11; refine (Add2_any _ _ _ _ _ ?_ ?_).mono ?_; omega; omega; simp only [iv_Z]; rintro e wn ⟨rfl, hbn⟩; go_split_ands; have hRn := Rest2.keep (by assumption) hbn; obtain ⟨u, v, c1, c2, f1, f2⟩ := hRn.two))
  go_wp2_with fail
  exact bodyPost_ret (by simp [results, Try.results13, go_sem, c1, c2]) rfl ⟨rfl, (hRn.set _ _).below⟩
set_option maxHeartbeats 1000000 in
theorem refSub2_any (n m : Bool) (s t : ByteArray) (w : World) (hs : s.size ≤ 1073741824) (ht : t.size ≤ 1073741824) :
    Calls Try.prog 14 #[I2 n s, I2 m t] w fun e w' => e = .returned (Z (iv n s - iv m t)) ∧ Below w.heap.size w w' := by
  have hst := mg_neg_size (mg_iv_size (n := m) ht)
  rw [Int.sub_eq_add_neg]
  have hR := Rest2.start w 23 (.bool n) (.string s) (.bool m) (.string t) (.bool false) (.string ⟨#[]⟩)
  go_enter Try.func14, Try.ntmps14
  go_wp2_with fail
  generalize ((w.alloc (Obj.cells #[Value.bool n, Value.string s] 23)).alloc (Obj.cells #[Value.bool m, Value.string t] 23)).alloc (Obj.cells #[Value.bool false, Value.string ⟨#[]⟩] 23) = W at hR ⊢
  go_region_held3 (fun w' => w'.cell? ⟨w.heap.size, 0, none⟩ = some (.bool n) ∧ w'.cell? ⟨w.heap.size, 1, none⟩ = some (.string s) ∧ w'.cell? ⟨w.heap.size + 1, 0, none⟩ = some (.bool m) ∧ w'.cell? ⟨w.heap.size + 1, 1, none⟩ = some (.string t) ∧ Rest2 w w.heap.size (w.heap.size + 1) (w.heap.size + 1 + 1) 23 (.bool n) (.string s) (.bool m) (.string t) w')
    (first | exact (hR.drew).all | exact hRn.all | exact (hRn.set _ _).all)
    (first
      | (go_at_call 16; refine (refNeg2_any _ _ _ ?_).mono ?_; (simp [maxLen]; omega); rintro e wn ⟨rfl, hbn⟩; go_split_ands; have hRn := Rest2.keep (by assumption) hbn)
      | (go_at_call 12; refine (refAdd2_any _ _ _ _ _ ?_ ?_).mono ?_; omega; omega; simp only [iv_Z]; rintro e wn ⟨rfl, hbn⟩; go_split_ands; have hRn := Rest2.keep (by assumption) hbn; obtain ⟨u, v, c1, c2, f1, f2⟩ := hRn.two))
  go_wp2_with fail
  exact bodyPost_ret (by simp [results, Try.results14, go_sem, c1, c2]) rfl ⟨rfl, (hRn.set _ _).below⟩

theorem sgn_case (z : Int) : (sg z = false ∧ (mg z).toList.isEmpty = true ∧ cmpZ z 0 = 0) ∨ (sg z = false ∧ (mg z).toList.isEmpty = false ∧ cmpZ z 0 = 1) ∨ (sg z = true ∧ (mg z).toList.isEmpty = false ∧ cmpZ z 0 = -1) := by
  have he : (mg z).toList.isEmpty = decide (z.natAbs = 0) := isEmpty_can _
  rw [he]
  rcases Int.lt_trichotomy z 0 with h | h | h
  · exact .inr (.inr ⟨decide_eq_true h, decide_eq_false (by omega), cmpZ_lt h⟩)
  · subst h
    exact .inl ⟨rfl, rfl, rfl⟩
  · exact .inr (.inl ⟨decide_eq_false (by omega), decide_eq_false (by omega), cmpZ_gt h⟩)

set_option maxHeartbeats 1000000 in
theorem Sign2_any (n : Bool) (s : ByteArray) (w : World) (hs : s.size ≤ maxLen) :
    Calls Try.prog 19 #[I2 n s] w fun e w' => e = .returned (.int .i64 (cmpZ (iv n s) 0)) ∧ Below w.heap.size w w' := by
  have hz := sgn_case (iv n s)
  rcases hz with ⟨z1, z2, z3⟩ | ⟨z1, z2, z3⟩ | ⟨z1, z2, z3⟩
  all_goals
    rw [z3]
    have hR := (Hold.nil w (E := 23)).box (.bool n) (.string s)
    go_enter Try.func19, Try.ntmps19
    go_wp2_with fail
    refine (Normalize2_any n s _ hs).mono ?_
    rintro e wn ⟨rfl, hbn⟩
    have hB := ((hR.keep hbn).1 _ (List.mem_cons_self ..))
    obtain ⟨c1, c2, f1, f2⟩ := hB.two
    go_wp2_with fail
    go_ret
    exact ⟨rfl, set2 (hR.keep hbn).below (Nat.le_refl _) _ _⟩
set_option maxHeartbeats 1000000 in
theorem refSign2_any (n : Bool) (s : ByteArray) (w : World) (hs : s.size ≤ maxLen) :
    Calls Try.prog 20 #[I2 n s] w fun e w' => e = .returned (.int .i64 (cmpZ (iv n s) 0)) ∧ Below w.heap.size w w' := by
  have h1 := isEmpty_can (nat s)
  have h2 : cmpZ (iv n s) 0 = if decide (nat s = 0) = true then 0 else if n = true then -1 else 1 := by
    unfold cmpZ iv
    cases n <;> by_cases h : nat s = 0 <;> simp [h] <;> omega
  rw [h2]
  generalize decide (nat s = 0) = b at h1 ⊢
  clear h2
  cases b <;> cases n
  all_goals
    go_enter Try.func20, Try.ntmps20
    go_wp2_with (go_at_call 39; refine (Norm_any _ _ hs).mono ?_; rintro e wn ⟨rfl, rfl⟩)
    go_ret
    exact ⟨rfl, below_alloc _ _⟩

theorem wrap_u64_nat {k : Nat} (h : k < 18446744073709551616) : IntKind.u64.wrap (k : Int) = (k : Int) := by
  simp [IntKind.wrap, IntKind.bits, IntKind.signed]; omega
theorem wrap_u64_neg {k : Nat} (h0 : 0 < k) (h : k ≤ 9223372036854775808) : IntKind.u64.wrap (-(k : Int)) = 18446744073709551616 - (k : Int) := by
  simp [IntKind.wrap, IntKind.bits, IntKind.signed]; omega
end Go.Proofs.Ytmfinfnjamgboaa
