/- The walks of voussoirlaw02.IntegerAddition. -/
import Derived.Test.YtmfinfnjamgboaaFixed
namespace Go.Proofs.Ytmfinfnjamgboaa
open Go.RowKit NM

theorem Blk.new2' (w : World) (o o' : Obj) (cs : Array Value) (E : TypeId) : Blk (((w.alloc o).alloc o').alloc (.cells cs E)) (w.heap.size + 1 + 1) E cs.toList := Blk.new2 w o o' cs E

set_option maxRecDepth 100000 in
set_option maxHeartbeats 8000000 in
theorem IntegerAddition_any (n m : Bool) (s t : ByteArray) (w : World) (hs : s.size ≤ maxLen) (ht : t.size ≤ maxLen) :
    Calls Try.prog 3 #[I2 n s, I2 m t] w fun e w' => e = .returned (.bool true) ∧ Below w.heap.size w w' := by
  have hR := (Hold.start2 w 23 (.bool n) (.string s) (.bool m) (.string t)).alloc (.cells #[.bool n, .string s, .bool m, .string t] 23)
  by_cases h : s.size ≤ 40 ∧ t.size ≤ 40
  · obtain ⟨h1, h2⟩ := h
    go_enter Try.func3, Try.ntmps3
    go_wp2_with fail
    refine (Great_any n m s t _ _ 0 hs ht (Blk.new2 w _ _ #[.bool n, .string s, .bool m, .string t] 23) (.inr ⟨h1, h2, rfl⟩)).mono ?_
    rintro e w1 ⟨rfl, hb1⟩
    replace hR := hR.keep hb1
    clear hb1 hs ht
    go_wp2_with fail
    go_region_held3 (fun w' => w'.cell? ⟨w.heap.size, 0, none⟩ = some (.bool n) ∧ w'.cell? ⟨w.heap.size, 1, none⟩ = some (.string s) ∧ w'.cell? ⟨w.heap.size + 1, 0, none⟩ = some (.bool m) ∧ w'.cell? ⟨w.heap.size + 1, 1, none⟩ = some (.string t) ∧ Hold 23 w [(w.heap.size + 1, .bool m, .string t), (w.heap.size, .bool n, .string s)] w')
      (first | exact hRn.all2 | exact hR.drew.all2)
      (first
      | (go_at_call 10; refine (fixed_any _).mono ?_; (try simp only [iv_Z]); rintro e wn ⟨rfl, hbn⟩; (try clear hRn); have hRn := Hold.keep (And.right (And.right (And.right (And.right (by assumption))))) hbn; clear hbn)
      | (go_at_call 11; refine (Add2_any _ _ _ _ _ ?_ ?_).mono ?_; omega; omega; (try simp only [iv_Z]); rintro e wn ⟨rfl, hbn⟩; (try clear hRn); have hRn := Hold.keep (And.right (And.right (And.right (And.right (by assumption))))) hbn; clear hbn)
      | (go_at_call 12; refine (refAdd2_any _ _ _ _ _ ?_ ?_).mono ?_; omega; omega; (try simp only [iv_Z]); rintro e wn ⟨rfl, hbn⟩; (try clear hRn); have hRn := Hold.keep (And.right (And.right (And.right (And.right (by assumption))))) hbn; clear hbn)
      | (go_at_call 13; refine (Sub2_any _ _ _ _ _ ?_ ?_).mono ?_; omega; omega; (try simp only [iv_Z]); rintro e wn ⟨rfl, hbn⟩; (try clear hRn); have hRn := Hold.keep (And.right (And.right (And.right (And.right (by assumption))))) hbn; clear hbn)
      | (go_at_call 14; refine (refSub2_any _ _ _ _ _ ?_ ?_).mono ?_; omega; omega; (try simp only [iv_Z]); rintro e wn ⟨rfl, hbn⟩; (try clear hRn); have hRn := Hold.keep (And.right (And.right (And.right (And.right (by assumption))))) hbn; clear hbn)
      | (go_at_call 15; refine (Neg2_any _ _ _ ?_).mono ?_; (simp [maxLen]; omega); (try simp only [iv_Z]); rintro e wn ⟨rfl, hbn⟩; (try clear hRn); have hRn := Hold.keep (And.right (And.right (And.right (And.right (by assumption))))) hbn; clear hbn)
      | (go_at_call 16; refine (refNeg2_any _ _ _ ?_).mono ?_; (simp [maxLen]; omega); (try simp only [iv_Z]); rintro e wn ⟨rfl, hbn⟩; (try clear hRn); have hRn := Hold.keep (And.right (And.right (And.right (And.right (by assumption))))) hbn; clear hbn)
      | (go_at_call 17; refine (Cmp2_any _ _ _ _ _ ?_ ?_).mono ?_; omega; omega; (try simp only [iv_Z]); rintro e wn ⟨rfl, hbn⟩; (try clear hRn); have hRn := Hold.keep (And.right (And.right (And.right (And.right (by assumption))))) hbn; clear hbn)
      | (go_at_call 18; refine (refCmp2_any _ _ _ _ _ ?_ ?_).mono ?_; omega; omega; (try simp only [iv_Z]); rintro e wn ⟨rfl, hbn⟩; (try clear hRn); have hRn := Hold.keep (And.right (And.right (And.right (And.right (by assumption))))) hbn; clear hbn)
      | (go_at_call 19; refine (Sign2_any _ _ _ ?_).mono ?_; (simp [maxLen]; omega); (try simp only [iv_Z]); rintro e wn ⟨rfl, hbn⟩; (try clear hRn); have hRn := Hold.keep (And.right (And.right (And.right (And.right (by assumption))))) hbn; clear hbn)
      | (go_at_call 20; refine (refSign2_any _ _ _ ?_).mono ?_; (simp [maxLen]; omega); (try simp only [iv_Z]); rintro e wn ⟨rfl, hbn⟩; (try clear hRn); have hRn := Hold.keep (And.right (And.right (And.right (And.right (by assumption))))) hbn; clear hbn)
      | (go_at_call 21; refine (Normalize2_any _ _ _ ?_).mono ?_; (simp [maxLen]; omega); (try simp only [iv_Z]); rintro e wn ⟨rfl, hbn⟩; (try clear hRn); have hRn := Hold.keep (And.right (And.right (And.right (And.right (by assumption))))) hbn; clear hbn)
      | (go_at_call 22; refine (refNorm2_any _ _ _ ?_).mono ?_; (simp [maxLen]; omega); (try simp only [iv_Z]); rintro e wn ⟨rfl, hbn⟩; (try clear hRn); have hRn := Hold.keep (And.right (And.right (And.right (And.right (by assumption))))) hbn; clear hbn))
    go_wp2_with fail
    go_ret
    exact ⟨rfl, hRn.below⟩
  · go_enter Try.func3, Try.ntmps3
    go_wp2_with fail
    refine (Great_any n m s t _ _ 1 hs ht (Blk.new2 w _ _ #[.bool n, .string s, .bool m, .string t] 23) (.inl ⟨by omega, rfl⟩)).mono ?_
    rintro e w1 ⟨rfl, hb1⟩
    replace hR := hR.keep hb1
    clear hb1 hs ht
    go_wp2_with fail
    refine (fixed_any _).mono ?_
    rintro e w2 ⟨rfl, hb2⟩
    replace hR := hR.keep hb2
    go_wp2_with fail
    go_ret
    exact ⟨rfl, hR.below⟩
end Go.Proofs.Ytmfinfnjamgboaa
