/- integer.Gcd and voussoirref02.Gcd over a list of integers. -/
import Derived.Test.YtodcomijjmobdaaGreatDoorDivZ
import Derived.Test.YtodcomijjmobdaaGreatDoorN4
import Derived.Test.YtodcomijjmobdaaGreatDoorN5
set_option linter.unusedVariables false
set_option linter.unusedSimpArgs false
namespace Go.Proofs.YtodcomijjmobdaaGreatDoor
open Go.RowKit NM

/-- The cells of a list of integers, and the greatest common divisor of their magnitudes. -/
def flatZ (L : List (Bool × ByteArray)) : List Value := L.flatMap fun x => [.bool x.1, .string x.2]
def gcdL (L : List (Bool × ByteArray)) : Nat := L.foldl (fun g x => Nat.gcd g (nat x.2)) 0
theorem gcdL_snoc (L : List (Bool × ByteArray)) (x : Bool × ByteArray) : gcdL (L ++ [x]) = Nat.gcd (gcdL L) (nat x.2) := by
  unfold gcdL
  rw [List.foldl_append]
  rfl
theorem gcdL_take {L : List (Bool × ByteArray)} {k : Nat} (h : k < L.length) : gcdL (L.take (k + 1)) = Nat.gcd (gcdL (L.take k)) (nat (L[k]).2) := by
  rw [List.take_succ_eq_append_getElem h, gcdL_snoc]
theorem flatZ_length (L : List (Bool × ByteArray)) : (flatZ L).length = L.length * 2 := by
  induction L with
  | nil => rfl
  | cons x L ih =>
    show (Value.bool x.1 :: Value.string x.2 :: flatZ L).length = _
    rw [List.length_cons, List.length_cons, ih, List.length_cons]
    omega
theorem flatZ_at {L : List (Bool × ByteArray)} {k : Nat} (h : k < L.length) : (flatZ L)[k * 2]? = some (.bool (L[k]).1) ∧ (flatZ L)[k * 2 + 1]? = some (.string (L[k]).2) := by
  induction L generalizing k with
  | nil => simp at h
  | cons x L ih =>
    have e : flatZ (x :: L) = .bool x.1 :: .string x.2 :: flatZ L := rfl
    rw [e]
    cases k with
    | zero => exact ⟨rfl, rfl⟩
    | succ k =>
      rw [show (k + 1) * 2 = k * 2 + 1 + 1 by omega]
      simp only [List.getElem?_cons_succ, List.getElem_cons_succ]
      exact ih (by simpa using h)
theorem can_gcd_size {G N k : Nat} (h1 : (can G).size ≤ k) (h2 : (can N).size ≤ k) : (can (Nat.gcd G N)).size ≤ k := by
  by_cases h : N = 0
  · rw [h, Nat.gcd_zero_right]; exact h1
  · exact Nat.le_trans (can_mono (Nat.gcd_le_right _ (Nat.pos_of_ne_zero h))) h2
theorem gcdL_size {L : List (Bool × ByteArray)} {k : Nat} (h : ∀ x ∈ L, x.2.size ≤ k) : (can (gcdL L)).size ≤ k := by
  have hg : ∀ (M : List (Bool × ByteArray)) (g : Nat), (can g).size ≤ k → (∀ x ∈ M, x.2.size ≤ k) → (can (M.foldl (fun g x => Nat.gcd g (nat x.2)) g)).size ≤ k := by
    intro M
    induction M with
    | nil => intro g hg _; exact hg
    | cons x M ih =>
      intro g hg hM
      exact ih _ (can_gcd_size hg (Nat.le_trans (can_size_le_size _) (hM x (List.mem_cons_self ..)))) (fun y hy => hM y (List.mem_cons_of_mem _ hy))
  exact hg L 0 (by show 0 ≤ k; omega) h
/-- A slice that reads as a list of integers. -/
def RdZ (w : World) (A : Option Addr) (L : List (Bool × ByteArray)) : Prop := ∀ k, (h : k < L.length) → ∃ g, A = some ⟨g, 0, none⟩ ∧ w.cell? ⟨g, k * 2, none⟩ = some (.bool (L[k]).1) ∧ w.cell? ⟨g, k * 2 + 1, none⟩ = some (.string (L[k]).2) ∧ g < w.heap.size
theorem RdZ.nil (w : World) (A : Option Addr) : RdZ w A [] := fun k h => by simp at h
theorem RdZ.blk {w : World} {g : Nat} {E : TypeId} {L : List (Bool × ByteArray)} {post : List Value} (h : Blk w g E (flatZ L ++ post)) : RdZ w (some ⟨g, 0, none⟩) L := fun k hk => by
  obtain ⟨h1, h2⟩ := flatZ_at hk
  have hl := flatZ_length L
  refine ⟨g, rfl, h.cell ?_, h.cell ?_, h.lt⟩
  · rw [List.getElem?_append_left (by omega)]; exact h1
  · rw [List.getElem?_append_left (by omega)]; exact h2
theorem RdZ.keep {w wn : World} {A : Option Addr} {L : List (Bool × ByteArray)} (h : RdZ w A L) (hb : Below w.heap.size w wn) : RdZ wn A L := fun k hk => by
  obtain ⟨g, rfl, h1, h2, h3⟩ := h k hk
  exact ⟨g, rfl, (hb.cell (p := ⟨g, k * 2, none⟩) h3).trans h1, (hb.cell (p := ⟨g, k * 2 + 1, none⟩) h3).trans h2, Nat.lt_of_lt_of_le h3 hb.size⟩

set_option maxHeartbeats 1000000 in
theorem GcdZ_any (A : Option Addr) (L : List (Bool × ByteArray)) (n c : Nat) (w : World) (hn : n = L.length) (hL : L.length ≤ 1000000) (hs : ∀ x ∈ L, x.2.size ≤ 134217728) (hR : RdZ w A L) (hT : TabC w) :
    Calls Tryz.prog 133 #[.slice A n c] w fun e w' => e = .returned (Z (gcdL L : Int)) ∧ Below w.heap.size w w' := by
  subst hn
  have HT := Lib.hid (And.intro hT hT.lt)
  have HR := Lib.hid hR
  have HS := Lib.hid hs
  clear hT hR hs
  go_enter Tryz.func133, Tryz.ntmps133
  go_wp2
  go_loopw [3, 8] (fun x i wr => ∃ k : Nat, k ≤ L.length ∧ i = .int .i64 k ∧ x = .string (can (gcdL (L.take k))) ∧ Below (w.alloc (.cells #[.bool false, .string ⟨#[]⟩] 27)).heap.size (w.alloc (.cells #[.bool false, .string ⟨#[]⟩] 27)) wr) (fun _ i _ => L.length - (intOf i).toNat)
  case atStart => exact ⟨0, Nat.zero_le _, rfl, rfl, Below.refl _ _⟩
  case round =>
    obtain ⟨k, hk, rfl, rfl, hb⟩ := hrel
    have hsz : (can (gcdL (L.take k))).size ≤ 134217728 := gcdL_size (fun x hx => HS.out x (List.mem_of_mem_take hx))
    have hb' := bel1 w _ hb
    by_cases hlt : k < L.length
    · obtain ⟨g, hA, c1, c2, hgl⟩ := HR.out k hlt
      have d1 := (hb'.cell (p := ⟨g, k * 2, none⟩) hgl).trans c1
      have d2 := (hb'.cell (p := ⟨g, k * 2 + 1, none⟩) hgl).trans c2
      have hxs := HS.out _ (List.getElem_mem hlt)
      have Ht := Lib.hid (gcdL_take hlt)
      subst hA
      clear c1 c2
      generalize L[k] = x at d1 d2 hxs Ht
      go_wp2_with fail
      refine (Gcd_any _ _ _ (by omega) (by omega) (HT.out.1.below (then_ hb' (below_alloc _ _)) HT.out.2)).mono ?_
      rw [nat_can, ← Ht.out]
      rintro e w1 ⟨rfl, hb1⟩
      go_wp2_with fail
      go_roundw
      case rel => exact ⟨k + 1, by omega, by go_num, rfl, then_ hb (then_ (below_alloc _ _) hb1)⟩
      case measure => simp [intOf]; omega
    · obtain rfl : k = L.length := by omega
      rw [List.take_length] at hsz ⊢
      have hgz : iv false (can (gcdL L)) = (gcdL L : Int) := by rw [iv_false, nat_can]
      have Hg := Lib.hid hgz
      clear hgz
      go_wp2_with fail
      refine (canonical_any _ _ _ (by simp [maxLen]; omega)).mono ?_
      rw [Hg.out]
      rintro e w1 ⟨rfl, hb1⟩
      obtain ⟨x1, x2, x3, x4⟩ := (((Blk.new w _ _).keep hb).keep hb1).two
      go_wp2_with fail
      exact bodyPost_ret (by simp [results, Tryz.results133, go_sem, x1, x2]) rfl ⟨rfl, set2 (then_ hb' hb1) (Nat.le_refl _) _ _⟩
set_option maxHeartbeats 1000000 in
theorem refGcdZ_any (A : Option Addr) (L : List (Bool × ByteArray)) (n c : Nat) (w : World) (hn : n = L.length) (hL : L.length ≤ 1000000) (hs : ∀ x ∈ L, x.2.size ≤ 134217728) (hR : RdZ w A L) :
    Calls Tryz.prog 44 #[.slice A n c] w fun e w' => e = .returned (Z (gcdL L : Int)) ∧ Below w.heap.size w w' := by
  subst hn

  have HR := Lib.hid hR
  have HS := Lib.hid hs
  clear hR hs
  go_enter Tryz.func44, Tryz.ntmps44
  go_wp2
  go_loopw [3, 4] (fun x i wr => ∃ k : Nat, k ≤ L.length ∧ i = .int .i64 k ∧ x = .string (can (gcdL (L.take k))) ∧ Below (w.alloc (.cells #[.bool false, .string ⟨#[]⟩] 27)).heap.size (w.alloc (.cells #[.bool false, .string ⟨#[]⟩] 27)) wr) (fun _ i _ => L.length - (intOf i).toNat)
  case atStart => exact ⟨0, Nat.zero_le _, rfl, rfl, Below.refl _ _⟩
  case round =>
    obtain ⟨k, hk, rfl, rfl, hb⟩ := hrel
    have hsz : (can (gcdL (L.take k))).size ≤ 134217728 := gcdL_size (fun x hx => HS.out x (List.mem_of_mem_take hx))
    have hb' := bel1 w _ hb
    by_cases hlt : k < L.length
    · obtain ⟨g, hA, c1, c2, hgl⟩ := HR.out k hlt
      have d1 := (hb'.cell (p := ⟨g, k * 2, none⟩) hgl).trans c1
      have d2 := (hb'.cell (p := ⟨g, k * 2 + 1, none⟩) hgl).trans c2
      have hxs := HS.out _ (List.getElem_mem hlt)
      have Ht := Lib.hid (gcdL_take hlt)
      subst hA
      clear c1 c2
      generalize L[k] = x at d1 d2 hxs Ht
      go_wp2_with fail
      refine (refGcd_any _ _ _ (by omega) (by omega)).mono ?_
      rw [nat_can, ← Ht.out]
      rintro e w1 ⟨rfl, hb1⟩
      go_wp2_with fail
      go_roundw
      case rel => exact ⟨k + 1, by omega, by go_num, rfl, then_ hb hb1⟩
      case measure => simp [intOf]; omega
    · obtain rfl : k = L.length := by omega
      rw [List.take_length] at hsz ⊢
      have hgz : iv false (can (gcdL L)) = (gcdL L : Int) := by rw [iv_false, nat_can]
      have Hg := Lib.hid hgz
      clear hgz
      go_wp2_with fail
      refine (of_any _ _ _ (by simp [maxLen]; omega)).mono ?_
      rw [Hg.out]
      rintro e w1 ⟨rfl, hb1⟩
      obtain ⟨x1, x2, x3, x4⟩ := (((Blk.new w _ _).keep hb).keep hb1).two
      go_wp2_with fail
      exact bodyPost_ret (by simp [results, Tryz.results44, go_sem, x1, x2]) rfl ⟨rfl, set2 (then_ hb' hb1) (Nat.le_refl _) _ _⟩
end Go.Proofs.YtodcomijjmobdaaGreatDoor
