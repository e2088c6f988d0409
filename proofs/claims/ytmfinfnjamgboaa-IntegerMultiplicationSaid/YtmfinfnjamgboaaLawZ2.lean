/- The walk of voussoirlaw02.IntegerMultiplication. -/
import Derived.Test.YtmfinfnjamgboaaFixed
import Derived.Test.YtmfinfnjamgboaaRefDivZ
namespace Go.Proofs.Ytmfinfnjamgboaa
open Go.RowKit NM

theorem Hold.all6 {w w0 : World} {E : TypeId} {g1 g2 g3 g4 g5 g6 : Nat} {u1 v1 u2 v2 u3 v3 u4 v4 u5 v5 u6 v6 : Value} (h : Hold E w0 [(g6, u6, v6), (g5, u5, v5), (g4, u4, v4), (g3, u3, v3), (g2, u2, v2), (g1, u1, v1)] w) :
    w.cell? ⟨g1, 0, none⟩ = some u1 ∧ w.cell? ⟨g1, 1, none⟩ = some v1 ∧ w.cell? ⟨g2, 0, none⟩ = some u2 ∧ w.cell? ⟨g2, 1, none⟩ = some v2 ∧ w.cell? ⟨g3, 0, none⟩ = some u3 ∧ w.cell? ⟨g3, 1, none⟩ = some v3 ∧ w.cell? ⟨g4, 0, none⟩ = some u4 ∧ w.cell? ⟨g4, 1, none⟩ = some v4 ∧ w.cell? ⟨g5, 0, none⟩ = some u5 ∧ w.cell? ⟨g5, 1, none⟩ = some v5 ∧ w.cell? ⟨g6, 0, none⟩ = some u6 ∧ w.cell? ⟨g6, 1, none⟩ = some v6 ∧ Hold E w0 [(g6, u6, v6), (g5, u5, v5), (g4, u4, v4), (g3, u3, v3), (g2, u2, v2), (g1, u1, v1)] w :=
  ⟨(h.at_ (x := (g1, u1, v1)) (by simp)).1, (h.at_ (x := (g1, u1, v1)) (by simp)).2, (h.at_ (x := (g2, u2, v2)) (by simp)).1, (h.at_ (x := (g2, u2, v2)) (by simp)).2, (h.at_ (x := (g3, u3, v3)) (by simp)).1, (h.at_ (x := (g3, u3, v3)) (by simp)).2, (h.at_ (x := (g4, u4, v4)) (by simp)).1, (h.at_ (x := (g4, u4, v4)) (by simp)).2, (h.at_ (x := (g5, u5, v5)) (by simp)).1, (h.at_ (x := (g5, u5, v5)) (by simp)).2, (h.at_ (x := (g6, u6, v6)) (by simp)).1, (h.at_ (x := (g6, u6, v6)) (by simp)).2, h⟩

set_option maxRecDepth 100000 in
set_option maxHeartbeats 8000000 in
theorem IntegerMultiplication_any (n m : Bool) (s t : ByteArray) (w : World) (hs : s.size ≤ maxLen) (ht : t.size ≤ maxLen) :
    Calls Try.prog 4 #[I2 n s, I2 m t] w fun e w' => e = .returned (.bool true) ∧ Below w.heap.size w w' := by
  have hR := (Hold.start2 w 23 (.bool n) (.string s) (.bool m) (.string t)).alloc (.cells #[.bool n, .string s, .bool m, .string t] 23)
  by_cases h : s.size ≤ 40 ∧ t.size ≤ 40
  · obtain ⟨h1, h2⟩ := h
    obtain ⟨Q, U, ok, hq⟩ : ∃ Q U ok, divZ (iv n s) (iv m t) = .tuple #[Z Q, Z U, .bool ok] := by
      by_cases h0 : iv m t = 0
      · exact ⟨0, 0, false, divZ_zero h0⟩
      · exact ⟨_, _, true, divZ_pos h0⟩
    have HQ := Lib.hid hq
    clear hq
    go_enter Try.func4, Try.ntmps4
    go_wp2_with fail
    refine (Great_any n m s t _ _ 0 hs ht (Blk.new2 w _ _ #[.bool n, .string s, .bool m, .string t] 23) (.inr ⟨h1, h2, rfl⟩)).mono ?_
    rintro e w1 ⟨rfl, hb1⟩
    replace hR := hR.keep hb1
    clear hb1 hs ht
    obtain ⟨a1, a2, a3, a4, -⟩ := hR.all2
    go_wp2_with fail
    refine (Div2_any _ _ _ _ _ (by omega) (by omega)).mono ?_
    rw [HQ.out]
    rintro e w2 ⟨rfl, hb2⟩
    replace hR := (hR.keep hb2).box2 (.bool (sg Q)) (.string (mg Q)) (.bool (sg U)) (.string (mg U))
    clear hb2 a1 a2 a3 a4
    obtain ⟨a1, a2, a3, a4, -⟩ := hR.all4
    go_wp2_with fail
    refine (refDiv2_any _ _ _ _ _ (by omega) (by omega)).mono ?_
    rw [HQ.out]
    rintro e w3 ⟨rfl, hb3⟩
    replace hR := (hR.keep hb3).box2 (.bool (sg Q)) (.string (mg Q)) (.bool (sg U)) (.string (mg U))
    clear hb3 a1 a2 a3 a4
    go_wp2_with fail
    generalize ((w3.alloc (Obj.cells #[Value.bool (sg Q), Value.string (mg Q)] 23)).alloc (Obj.cells #[Value.bool (sg U), Value.string (mg U)] 23)) = W at hR ⊢
    go_region_held3 (fun w' => w'.cell? ⟨w.heap.size, 0, none⟩ = some (.bool n) ∧ w'.cell? ⟨w.heap.size, 1, none⟩ = some (.string s) ∧ w'.cell? ⟨w.heap.size + 1, 0, none⟩ = some (.bool m) ∧ w'.cell? ⟨w.heap.size + 1, 1, none⟩ = some (.string t) ∧ w'.cell? ⟨w2.heap.size, 0, none⟩ = some (.bool (sg Q)) ∧ w'.cell? ⟨w2.heap.size, 1, none⟩ = some (.string (mg Q)) ∧ w'.cell? ⟨w2.heap.size + 1, 0, none⟩ = some (.bool (sg U)) ∧ w'.cell? ⟨w2.heap.size + 1, 1, none⟩ = some (.string (mg U)) ∧ w'.cell? ⟨w3.heap.size, 0, none⟩ = some (.bool (sg Q)) ∧ w'.cell? ⟨w3.heap.size, 1, none⟩ = some (.string (mg Q)) ∧ w'.cell? ⟨w3.heap.size + 1, 0, none⟩ = some (.bool (sg U)) ∧ w'.cell? ⟨w3.heap.size + 1, 1, none⟩ = some (.string (mg U)) ∧ Hold 23 w [(w3.heap.size + 1, .bool (sg U), .string (mg U)), (w3.heap.size, .bool (sg Q), .string (mg Q)), (w2.heap.size + 1, .bool (sg U), .string (mg U)), (w2.heap.size, .bool (sg Q), .string (mg Q)), (w.heap.size + 1, .bool m, .string t), (w.heap.size, .bool n, .string s)] w')
      (first | exact hRn.all6 | exact hR.drew.all6)
      (first
      | (go_at_call 10; refine (fixed_any _).mono ?_; (try simp only [iv_Z]); rintro e wn ⟨rfl, hbn⟩; (try clear hRn); have hRn := Hold.keep (And.right (And.right (And.right (And.right (And.right (And.right (And.right (And.right (And.right (And.right (And.right (And.right (by assumption))))))))))))) hbn; clear hbn)
      | (go_at_call 25; refine (Mul2_any _ _ _ _ _ ?_ ?_).mono ?_; omega; omega; (try simp only [iv_Z]); rintro e wn ⟨rfl, hbn⟩; (try clear hRn); have hRn := Hold.keep (And.right (And.right (And.right (And.right (And.right (And.right (And.right (And.right (And.right (And.right (And.right (And.right (by assumption))))))))))))) hbn; clear hbn)
      | (go_at_call 26; refine (refMul2_any _ _ _ _ _ ?_ ?_).mono ?_; omega; omega; (try simp only [iv_Z]); rintro e wn ⟨rfl, hbn⟩; (try clear hRn); have hRn := Hold.keep (And.right (And.right (And.right (And.right (And.right (And.right (And.right (And.right (And.right (And.right (And.right (And.right (by assumption))))))))))))) hbn; clear hbn))
    go_wp2_with fail
    go_ret
    exact ⟨rfl, hRn.below⟩
  · go_enter Try.func4, Try.ntmps4
    go_wp2_with fail
    refine (Great_any n m s t _ _ 1 hs ht (Blk.new2 w _ _ #[.bool n, .string s, .bool m, .string t] 23) (.inl ⟨by omega, rfl⟩)).mono ?_
    rintro e w1 ⟨rfl, hb1⟩
    replace hR := hR.keep hb1
    clear hb1 hs ht
    go_wp2_with fail
    refine (fixed_any _).mono ?_
    rintro e w2 ⟨rfl, hb2⟩
    replace hR := hR.keep hb2
    go_wp2_with fail
    go_ret
    exact ⟨rfl, hR.below⟩
end Go.Proofs.Ytmfinfnjamgboaa
