/- The walk of voussoirlaw02.IntegerRing. -/
import Derived.Test.YtmfinfnjamgboaaFixed
namespace Go.Proofs.Ytmfinfnjamgboaa
open Go.RowKit NM

theorem iv_nil : iv false ⟨#[]⟩ = 0 := rfl
theorem add_sub_c1 (a b : Int) : a + b - b = a := by omega
theorem add_neg_c1 (a : Int) : a + -a = 0 := by omega
theorem up {a : ByteArray} {k l : Nat} (h : a.size ≤ k) (hkl : k ≤ l) : a.size ≤ l := Nat.le_trans h hkl

set_option maxRecDepth 100000 in
set_option maxHeartbeats 16000000 in
theorem IntegerRing_any (n m k : Bool) (s t u : ByteArray) (w : World) (hs : s.size ≤ maxLen) (ht : t.size ≤ maxLen) (hu : u.size ≤ maxLen) :
    Calls Try.prog 5 #[I2 n s, I2 m t, I2 k u] w fun e w' => e = .returned (.bool true) ∧ Below w.heap.size w w' := by
  have hR := Hold.start3 w 23 (.bool n) (.string s) (.bool m) (.string t) (.bool k) (.string u)
  unfold maxLen at hs ht hu
  rcases (show 20 < s.size ∨ (s.size ≤ 20 ∧ 20 < t.size) ∨ (s.size ≤ 20 ∧ t.size ≤ 20 ∧ 20 < u.size) ∨ (s.size ≤ 20 ∧ t.size ≤ 20 ∧ u.size ≤ 20) by omega) with h1 | ⟨h1, h2⟩ | ⟨h1, h2, h3⟩ | ⟨h1, h2, h3⟩
  ·
    go_enter Try.func5, Try.ntmps5
    go_wp2_with fail
    refine (fixed_any _).mono ?_
    rintro e w2 ⟨rfl, hb2⟩
    replace hR := hR.keep hb2
    go_wp2_with fail
    go_ret
    exact ⟨rfl, hR.below⟩
  ·
    go_enter Try.func5, Try.ntmps5
    go_wp2_with fail
    refine (fixed_any _).mono ?_
    rintro e w2 ⟨rfl, hb2⟩
    replace hR := hR.keep hb2
    go_wp2_with fail
    go_ret
    exact ⟨rfl, hR.below⟩
  ·
    go_enter Try.func5, Try.ntmps5
    go_wp2_with fail
    refine (fixed_any _).mono ?_
    rintro e w2 ⟨rfl, hb2⟩
    replace hR := hR.keep hb2
    go_wp2_with fail
    go_ret
    exact ⟨rfl, hR.below⟩
  · have p1 := mg_iv_size (n := n) h1
    have p2 := mg_iv_size (n := m) h2
    have p3 := mg_iv_size (n := k) h3
    have q1 := mg_add_size p1 p2
    have q2 := mg_add_size p2 p3
    have q3 := mg_mul_size p1 p2
    have q4 := mg_mul_size p2 p3
    have q5 := mg_mul_size p1 p3
    have q6 := mg_neg_size p1
    have z1 : sg 0 = false := rfl
    have z2 : mg 0 = ⟨#[]⟩ := rfl
    have z3 : (mg 1).size ≤ 1 := mg_size_le (by decide)
    have z4 : (⟨#[]⟩ : ByteArray).size ≤ 0 := Nat.le_refl _
    clear hs ht hu
    go_enter Try.func5, Try.ntmps5
    go_wp2_with fail
    generalize (((w.alloc (Obj.cells #[Value.bool n, Value.string s] 23)).alloc (Obj.cells #[Value.bool m, Value.string t] 23)).alloc (Obj.cells #[Value.bool k, Value.string u] 23)) = W at hR ⊢
    go_region_held3 (fun w' => w'.cell? ⟨w.heap.size, 0, none⟩ = some (.bool n) ∧ w'.cell? ⟨w.heap.size, 1, none⟩ = some (.string s) ∧ w'.cell? ⟨w.heap.size + 1, 0, none⟩ = some (.bool m) ∧ w'.cell? ⟨w.heap.size + 1, 1, none⟩ = some (.string t) ∧ w'.cell? ⟨w.heap.size + 1 + 1, 0, none⟩ = some (.bool k) ∧ w'.cell? ⟨w.heap.size + 1 + 1, 1, none⟩ = some (.string u) ∧ Hold 23 w [(w.heap.size + 1 + 1, .bool k, .string u), (w.heap.size + 1, .bool m, .string t), (w.heap.size, .bool n, .string s)] w')
      (first | exact hRn.all3 | exact hR.drew.all3)
      (first
      | (go_at_call 11; refine (Add2_any _ _ _ _ _ ?_ ?_).mono ?_; omega; omega; (try simp only [iv_Z, Int.add_assoc, Int.add_comm]); rintro e wn ⟨rfl, hbn⟩; (try clear hRn); have hRn := Hold.keep (And.right (And.right (And.right (And.right (And.right (And.right (by assumption))))))) hbn; clear hbn))
    clear hR
    have hR := hRn
    clear hRn
    go_wp2_with fail
    go_region_held3 (fun w' => w'.cell? ⟨w.heap.size, 0, none⟩ = some (.bool n) ∧ w'.cell? ⟨w.heap.size, 1, none⟩ = some (.string s) ∧ w'.cell? ⟨w.heap.size + 1, 0, none⟩ = some (.bool m) ∧ w'.cell? ⟨w.heap.size + 1, 1, none⟩ = some (.string t) ∧ w'.cell? ⟨w.heap.size + 1 + 1, 0, none⟩ = some (.bool k) ∧ w'.cell? ⟨w.heap.size + 1 + 1, 1, none⟩ = some (.string u) ∧ Hold 23 w [(w.heap.size + 1 + 1, .bool k, .string u), (w.heap.size + 1, .bool m, .string t), (w.heap.size, .bool n, .string s)] w')
      (first | exact hRn.all3 | exact hR.drew.all3)
      (first
      | (go_at_call 25; refine (Mul2_any _ _ _ _ _ ?_ ?_).mono ?_; omega; omega; (try simp only [iv_Z, Int.mul_assoc, Int.mul_comm]); rintro e wn ⟨rfl, hbn⟩; (try clear hRn); have hRn := Hold.keep (And.right (And.right (And.right (And.right (And.right (And.right (by assumption))))))) hbn; clear hbn))
    clear hR
    have hR := hRn
    clear hRn
    go_wp2_with fail
    go_region_held3 (fun w' => w'.cell? ⟨w.heap.size, 0, none⟩ = some (.bool n) ∧ w'.cell? ⟨w.heap.size, 1, none⟩ = some (.string s) ∧ w'.cell? ⟨w.heap.size + 1, 0, none⟩ = some (.bool m) ∧ w'.cell? ⟨w.heap.size + 1, 1, none⟩ = some (.string t) ∧ w'.cell? ⟨w.heap.size + 1 + 1, 0, none⟩ = some (.bool k) ∧ w'.cell? ⟨w.heap.size + 1 + 1, 1, none⟩ = some (.string u) ∧ Hold 23 w [(w.heap.size + 1 + 1, .bool k, .string u), (w.heap.size + 1, .bool m, .string t), (w.heap.size, .bool n, .string s)] w')
      (first | exact hRn.all3 | exact hR.drew.all3)
      (first
      | (go_at_call 11; refine (Add2_any _ _ _ _ _ ?_ ?_).mono ?_; omega; omega; (try simp only [iv_Z]); rintro e wn ⟨rfl, hbn⟩; (try clear hRn); have hRn := Hold.keep (And.right (And.right (And.right (And.right (And.right (And.right (by assumption))))))) hbn; clear hbn)
      | (go_at_call 25; refine (Mul2_any _ _ _ _ _ ?_ ?_).mono ?_; omega; omega; (try simp only [iv_Z, Int.mul_add]); rintro e wn ⟨rfl, hbn⟩; (try clear hRn); have hRn := Hold.keep (And.right (And.right (And.right (And.right (And.right (And.right (by assumption))))))) hbn; clear hbn))
    clear hR
    have hR := hRn
    clear hRn
    go_wp2_with fail
    refine (FromInt64_any 1 _ (by omega) (by omega)).mono ?_
    rintro e w9 ⟨rfl, hb9⟩
    replace hR := (hR.keep hb9).box (.bool (sg 1)) (.string (mg 1))
    clear hb9
    go_wp2_with fail
    generalize w9.alloc (Obj.cells #[Value.bool (sg 1), Value.string (mg 1)] 23) = W9 at hR ⊢
    go_region_held3 (fun w' => w'.cell? ⟨w.heap.size, 0, none⟩ = some (.bool n) ∧ w'.cell? ⟨w.heap.size, 1, none⟩ = some (.string s) ∧ w'.cell? ⟨w.heap.size + 1, 0, none⟩ = some (.bool m) ∧ w'.cell? ⟨w.heap.size + 1, 1, none⟩ = some (.string t) ∧ w'.cell? ⟨w.heap.size + 1 + 1, 0, none⟩ = some (.bool k) ∧ w'.cell? ⟨w.heap.size + 1 + 1, 1, none⟩ = some (.string u) ∧ w'.cell? ⟨w9.heap.size, 0, none⟩ = some (.bool (sg 1)) ∧ w'.cell? ⟨w9.heap.size, 1, none⟩ = some (.string (mg 1)) ∧ Hold 23 w [(w9.heap.size, .bool (sg 1), .string (mg 1)), (w.heap.size + 1 + 1, .bool k, .string u), (w.heap.size + 1, .bool m, .string t), (w.heap.size, .bool n, .string s)] w')
      (first | exact hRn.all4 | exact hR.drew.all4)
      (first
      | (go_at_call 10; refine (fixed_any _).mono ?_; rintro e wn ⟨rfl, hbn⟩; (try clear hRn); have hRn := Hold.keep (And.right (And.right (And.right (And.right (And.right (And.right (And.right (And.right (by assumption))))))))) hbn; clear hbn)
      | (go_at_call 11; refine (Add2_any _ _ _ _ _ ?_ ?_).mono ?_; omega; omega; (try simp only [iv_Z, add_neg_c1]); rintro e wn ⟨rfl, hbn⟩; (try clear hRn); have hRn := Hold.keep (And.right (And.right (And.right (And.right (And.right (And.right (And.right (And.right (by assumption))))))))) hbn; clear hbn)
      | (go_at_call 13; refine (Sub2_any _ _ _ _ _ ?_ ?_).mono ?_; omega; omega; (try simp only [iv_Z, add_sub_c1]); rintro e wn ⟨rfl, hbn⟩; (try clear hRn); have hRn := Hold.keep (And.right (And.right (And.right (And.right (And.right (And.right (And.right (And.right (by assumption))))))))) hbn; clear hbn)
      | (go_at_call 21; refine (Normalize2_any _ _ _ ?_).mono ?_; (simp [maxLen]; omega); rintro e wn ⟨rfl, hbn⟩; (try clear hRn); have hRn := Hold.keep (And.right (And.right (And.right (And.right (And.right (And.right (And.right (And.right (by assumption))))))))) hbn; clear hbn)
      | (go_at_call 15; refine (Neg2_any _ _ _ ?_).mono ?_; (simp [maxLen]; omega); rintro e wn ⟨rfl, hbn⟩; (try clear hRn); have hRn := Hold.keep (And.right (And.right (And.right (And.right (And.right (And.right (And.right (And.right (by assumption))))))))) hbn; clear hbn)
      | (go_at_call 25; refine (Mul2_any _ _ _ _ _ ?_ ?_).mono ?_; omega; omega; (try simp only [iv_Z, iv_nil, Int.mul_zero, Int.mul_one]); rintro e wn ⟨rfl, hbn⟩; (try clear hRn); have hRn := Hold.keep (And.right (And.right (And.right (And.right (And.right (And.right (And.right (And.right (by assumption))))))))) hbn; clear hbn))
    go_wp2_with fail
    go_ret
    exact ⟨rfl, hRn.below⟩
end Go.Proofs.Ytmfinfnjamgboaa
