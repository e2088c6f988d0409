/- voussoirlaw02.fixed: the chapter's examples. -/
import Derived.Test.YtmfinfnjamgboaaDoorFmtZ
namespace Go.Proofs.YtmfinfnjamgboaaDoor
open Go.RowKit NM

theorem Hold.box2 {w w0 : World} {E : TypeId} {L : List (Nat × Value × Value)} (h : Hold E w0 L w) (u v x y : Value) : Hold E w0 ((w.heap.size + 1, x, y) :: (w.heap.size, u, v) :: L) ((w.alloc (.cells #[u, v] E)).alloc (.cells #[x, y] E)) := by
  have h := (h.box u v).box x y
  simpa using h
theorem div_a : divZ 7 (-2) = .tuple #[Z (-3), Z 1, .bool true] := divZ_pos (by decide)
theorem div_b : divZ (-7) 2 = .tuple #[Z (-4), Z 1, .bool true] := divZ_pos (by decide)
theorem dec_4 : decZ (-4) = ⟨#[45, 52]⟩ := by decide +kernel

set_option maxRecDepth 100000 in
set_option maxHeartbeats 4000000 in
theorem fixed_any (w : World) :
    Calls Tryd.prog 6 #[] w fun e w' => e = .returned (.bool true) ∧ Below w.heap.size w w' := by
  have s1 : (mg 7).size ≤ 1 := mg_size_le (by decide)
  have s2 : (mg (-2)).size ≤ 1 := mg_size_le (by decide)
  have s3 : (mg (-7)).size ≤ 1 := mg_size_le (by decide)
  have s4 : (mg 2).size ≤ 1 := mg_size_le (by decide)
  have s5 : (mg (-4)).size ≤ 1 := mg_size_le (by decide)
  have hR := Hold.nil w (E := 23)
  go_enter Tryd.func6, Tryd.ntmps6
  go_wp2_with fail
  refine (FromInt64_any (7) _ (by omega) (by omega)).mono ?_
  rintro e w1 ⟨rfl, hb1⟩
  go_wp2_with fail
  refine (FromInt64_any (-2) _ (by omega) (by omega)).mono ?_
  rintro e w2 ⟨rfl, hb2⟩
  go_wp2_with fail
  refine (Div2_any _ _ _ _ _ (by omega) (by omega)).mono ?_
  rw [iv_Z, iv_Z, div_a]
  rintro e w3 ⟨rfl, hb3⟩
  replace hR := (((hR.keep hb1).keep hb2).keep hb3).box2 (.bool (sg (-3))) (.string (mg (-3))) (.bool (sg 1)) (.string (mg 1))
  clear hb1 hb2 hb3
  go_wp2_with fail
  refine (FromInt64_any (-7) _ (by omega) (by omega)).mono ?_
  rintro e w4 ⟨rfl, hb4⟩
  go_wp2_with fail
  refine (FromInt64_any (2) _ (by omega) (by omega)).mono ?_
  rintro e w5 ⟨rfl, hb5⟩
  go_wp2_with fail
  refine (Div2_any _ _ _ _ _ (by omega) (by omega)).mono ?_
  rw [iv_Z, iv_Z, div_b]
  rintro e w6 ⟨rfl, hb6⟩
  replace hR := (((hR.keep hb4).keep hb5).keep hb6).box2 (.bool (sg (-4))) (.string (mg (-4))) (.bool (sg 1)) (.string (mg 1))
  clear hb4 hb5 hb6
  go_wp2_with fail
  generalize ((w6.alloc (Obj.cells #[Value.bool (sg (-4)), Value.string (mg (-4))] 23)).alloc (Obj.cells #[Value.bool (sg 1), Value.string (mg 1)] 23)) = W at hR ⊢
  go_region_held3 (fun w' => w'.cell? ⟨w3.heap.size, 0, none⟩ = some (.bool (sg (-3))) ∧ w'.cell? ⟨w3.heap.size, 1, none⟩ = some (.string (mg (-3))) ∧ w'.cell? ⟨w3.heap.size + 1, 0, none⟩ = some (.bool (sg 1)) ∧ w'.cell? ⟨w3.heap.size + 1, 1, none⟩ = some (.string (mg 1)) ∧ w'.cell? ⟨w6.heap.size, 0, none⟩ = some (.bool (sg (-4))) ∧ w'.cell? ⟨w6.heap.size, 1, none⟩ = some (.string (mg (-4))) ∧ w'.cell? ⟨w6.heap.size + 1, 0, none⟩ = some (.bool (sg 1)) ∧ w'.cell? ⟨w6.heap.size + 1, 1, none⟩ = some (.string (mg 1)) ∧ Hold 23 w [(w6.heap.size + 1, .bool (sg 1), .string (mg 1)), (w6.heap.size, .bool (sg (-4)), .string (mg (-4))), (w3.heap.size + 1, .bool (sg 1), .string (mg 1)), (w3.heap.size, .bool (sg (-3)), .string (mg (-3)))] w')
    (first | exact hRn.all4 | exact hR.drew.all4)
    (first
      | (go_at_call 17; refine (FromInt64_any _ _ ?_ ?_).mono ?_; omega; omega; rintro e wn ⟨rfl, hbn⟩; (try clear hRn); have hRn := Hold.keep (And.right (And.right (And.right (And.right (And.right (And.right (And.right (And.right (by assumption))))))))) hbn; clear hbn)
      | (go_at_call 11; refine (Format2_any _ _ _ ?_).mono ?_; omega; rw [iv_Z, dec_4]; rintro e wn ⟨rfl, hbn⟩; (try clear hRn); have hRn := Hold.keep (And.right (And.right (And.right (And.right (And.right (And.right (And.right (And.right (by assumption))))))))) hbn; clear hbn))
  go_wp2_with fail
  go_ret
  exact ⟨rfl, hRn.below⟩
end Go.Proofs.YtmfinfnjamgboaaDoor
