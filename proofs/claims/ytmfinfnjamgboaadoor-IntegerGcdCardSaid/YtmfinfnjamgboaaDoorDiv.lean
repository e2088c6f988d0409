/- nat.Div. -/
import Derived.Test.YtmfinfnjamgboaaDoorDivide
namespace Go.Proofs.YtmfinfnjamgboaaDoor
open Go.RowKit NM

/-- divide at the limbs of two numbers. -/
theorem divide_any (gx gy : Nat) (M N : Nat) (w : World) (hM : (lim M).length ≤ 4294967296) (hN : (lim N).length ≤ 4294967296) (hN0 : N ≠ 0) (hx : LB w gx (lim M)) (hy : LB w gy (lim N)) :
    Calls Tryd.prog 52 #[.slice (some ⟨gx, 0, none⟩) (lim M).length (lim M).length, .slice (some ⟨gy, 0, none⟩) (lim N).length (lim N).length] w (DividePost gx M N (lim M).length (lim N).length w) := by
  have hl := lim_last hN0
  rw [← lim_length] at hl
  have hMy : MB w gy [] (lim N) [] := by unfold MB; rw [List.nil_append, List.append_nil]; exact hy
  have hne : (lim N) ≠ [] := fun e => hN0 (lim_eq_nil.1 e)
  have hpos : 0 < (lim N).length := List.length_pos_iff.2 hne
  have e1 := lval_lim M
  have e2 := lval_lim N
  rcases (show (lim N).length = 1 ∨ (2 ≤ (lim N).length ∧ (lim M).length < (lim N).length) ∨ (2 ≤ (lim N).length ∧ (lim N).length ≤ (lim M).length) from by omega) with h | ⟨h, h2⟩ | ⟨h, h2⟩
  · have := divide_one (some ⟨gx, 0, none⟩) gx gy [] [] [] [] (lim M) (lim N) (lim M).length (lim N).length w (by omega) (lim_lt _) (lim_lt _) h (by rw [h] at hl; exact hl) (Win.of_LB hx) hMy
    rw [e1, e2] at this
    exact this
  · have hlt : lval (lim M) < N := by
      rw [e1]
      have h3 := lval_lt (lim_lt M)
      rw [e1] at h3
      have h4 := lval_take_succ (lim N) ((lim N).length - 1)
      rw [List.take_of_length_le (by omega), e2] at h4
      have h5 : lpow ((lim N).length - 1) * 1 ≤ lpow ((lim N).length - 1) * (lim N).getD ((lim N).length - 1) 0 := Nat.mul_le_mul_left _ (Nat.pos_of_ne_zero hl)
      have h6 := lpow_le (show (lim M).length ≤ (lim N).length - 1 by omega)
      omega
    have := divide_short (some ⟨gx, 0, none⟩) gx [] [] (some ⟨gy, 0, none⟩) (lim M) (lim M).length (lim N).length N (lim N).length w (lim_lt _) (Nat.le_refl _) (by omega) (by omega) h2 hlt (Win.of_LB hx)
    rw [e1] at this
    exact this
  · obtain ⟨n, hn⟩ : ∃ n, (lim N).length = n + 2 := ⟨(lim N).length - 2, by omega⟩
    have := divide_long (some ⟨gx, 0, none⟩) gx gy [] [] [] [] (lim M) (lim N) (lim M).length (lim N).length n w (by omega) (lim_lt _) (lim_lt _) hn h2 (by rw [hn] at hl; exact hl) (Win.of_LB hx) hMy
    rw [e1, e2] at this
    exact this

set_option maxHeartbeats 1000000 in
theorem Div_any (a b : ByteArray) (w : World) (ha : a.size ≤ 4294967296) (hb : b.size ≤ 4294967296) :
    Calls Tryd.prog 32 #[.string a, .string b] w fun e w' => e = .returned (divVal (nat a) (nat b)) ∧ Below w.heap.size w w' := by
  have la := lim_size a
  have lb := lim_size b
  by_cases hz : nat b = 0
  · rw [divVal_zero hz]
    have hl : (lim (nat b)).length = 0 := by rw [hz]; rfl
    have h0 : (((lim (nat b)).length : Int) == 0) = true := by rw [hl]; rfl
    have Hz := Lib.hid hz
    clear hz hl
    go_enter Tryd.func32, Tryd.ntmps32
    go_wp2_with fail
    refine (limbs_any a _ (by omega)).mono ?_
    rintro e w1 ⟨g1, hg1, rfl, hB1, hb1⟩
    go_wp2_with fail
    refine (limbs_any b _ (by omega)).mono ?_
    rintro e w2 ⟨g2, hg2, rfl, hB2, hb2⟩
    go_wp2_with fail
    go_ret3
    exact ⟨rfl, hb1.trans (hb2.mono hb1.size)⟩
  · rw [divVal_pos hz]
    have hl : 0 < (lim (nat b)).length := List.length_pos_iff.2 (fun e => hz (lim_eq_nil.1 e))
    have h0 : (((lim (nat b)).length : Int) == 0) = false := beq_eq_false_iff_ne.2 (by omega)
    have Hz := Lib.hid hz
    clear hz
    go_enter Tryd.func32, Tryd.ntmps32
    go_wp2_with fail
    refine (limbs_any a _ (by omega)).mono ?_
    rintro e w1 ⟨g1, hg1, rfl, hB1, hb1⟩
    go_wp2_with fail
    refine (limbs_any b _ (by omega)).mono ?_
    rintro e w2 ⟨g2, hg2, rfl, hB2, hb2⟩
    go_wp2_with fail
    refine (divide_any g1 g2 (nat a) (nat b) _ (by omega) (by omega) Hz.out (Blk.keep hB1 hb2) hB2).mono ?_
    rintro e w3 ⟨Aq, cq, Lq, Ar, cr, Lr, gr, prer, postr, rfl, hq1, hq2, hq3, hq4, hr1, hr2, hr3, hr4, hr5, hr6, hg3⟩
    have hb3 : Below w.heap.size w w3 := (hb1.trans (hb2.mono hb1.size)).grown hg3 (Nat.le_trans hb1.size hb2.size) (fun k hk => by injection hk with hk; omega)
    have Hq2 := Lib.hid hq2
    have Hr2 := Lib.hid hr2
    have hlq : Lq.length ≤ 17179869184 := by omega
    have hlr : Lr.length ≤ 17179869184 := by omega
    clear hq2 hr2
    go_wp2_with fail
    refine (magnitude_any Aq Lq cq _ hlq hq1 hq3).mono ?_
    rintro e w4 ⟨rfl, hb4⟩
    go_wp2_with fail
    refine (magnitude_any Ar Lr cr _ hlr hr1 (hr3.keep hb4).rd).mono ?_
    rintro e w5 ⟨rfl, hb5⟩
    rw [Hq2.out, Hr2.out]
    go_wp2_with fail
    go_ret3
    exact ⟨rfl, hb3.trans ((hb4.mono hb3.size).trans (hb5.mono (Nat.le_trans hb3.size hb4.size)))⟩
end Go.Proofs.YtmfinfnjamgboaaDoor
