/- nat.divideStep. -/
import Derived.Test.YtmfinfnjamgboaaDoorStep
namespace Go.Proofs.YtmfinfnjamgboaaDoor
open Go.RowKit NM

/-- What divideStep leaves. -/
def StepPost (A : Option Addr) (g : Nat) (pre : List Value) (X : List Nat) (post : List Value) (N : Nat) (w : World) (e : Ending) (w' : World) : Prop :=
  e = .returned (.int .u32 (lval X / N : Nat)) ∧ Chg A g pre X post (lims X.length (lval X % N)) w w'

theorem step_exact {X' X : List Nat} {t N : Nat} (hX' : llt X') (hlen : X'.length = X.length) (hN : 0 < N) (h1 : lval X / N ≤ t) (hneg : ¬ lval X < t * N) (hv : lval X' + t * N = lval X) : t = lval X / N ∧ X' = lims X.length (lval X % N) := by
  have h2 : t ≤ lval X / N := (Nat.le_div_iff_mul_le hN).2 (by omega)
  have e : t = lval X / N := Nat.le_antisymm h2 h1
  refine ⟨e, ?_⟩
  apply lval_inj hX' (lims_lt _ _) (by rw [lims_length, hlen])
  have h3 := Nat.div_add_mod (lval X) N
  have h4 : N * (lval X / N) = t * N := by rw [e, Nat.mul_comm]
  have h5 : lval X' = lval X % N := by omega
  rw [lval_lims, ← hlen, Nat.mod_eq_of_lt (by rw [← h5]; exact lval_lt hX'), h5]
theorem step_back {X' X : List Nat} {t N : Nat} (hN : 0 < N) (h1 : t ≤ lval X / N + 1) (hneg : lval X < t * N) (hv : lval X' + t * N = lval X + lpow X.length) (_hNl : N ≤ lpow X.length) : t - 1 = lval X / N ∧ 0 < t ∧ lims X.length (lval X' + N) = lims X.length (lval X % N) := by
  have h2 : lval X / N < t := by
    rw [Nat.div_lt_iff_lt_mul hN]
    exact hneg
  have e : t = lval X / N + 1 := Nat.le_antisymm h1 h2
  refine ⟨by rw [e, Nat.add_sub_cancel], by rw [e]; exact Nat.succ_pos _, ?_⟩
  apply lval_inj (lims_lt _ _) (lims_lt _ _) (by rw [lims_length, lims_length])
  have h3 := Nat.div_add_mod (lval X) N
  have h4 : t * N = N * (lval X / N) + N := by rw [e, Nat.add_mul, Nat.one_mul, Nat.mul_comm]
  have h5 : lval X' + N = lval X % N + lpow X.length := by omega
  rw [lval_lims, lval_lims, h5, Nat.add_mod_right]

theorem step_ret {t q : Nat} (h : t - 1 = q) (h0 : 0 < t) : Ending.returned (.int .u32 ((t : Int) - 1)) = .returned (.int .u32 (q : Int)) := by
  congr 2
  omega
theorem step_ret0 {t q : Nat} (h : t = q) : Ending.returned (.int .u32 (t : Int)) = .returned (.int .u32 (q : Int)) := by
  congr 2
  omega

set_option maxHeartbeats 1000000 in
theorem divideStep_any (g gy : Nat) (pre prey post posty : List Value) (X Y : List Nat) (c1 c2 m : Nat) (w : World) (hX : X.length = m + 3) (hY : Y.length = m + 2) (hm : m ≤ 8589934590)
    (hXl : llt X) (hYl : llt Y) (hMx : MB w g pre X post) (hMy : MB w gy prey Y posty) (hne : g ≠ gy) (hy : 2147483648 ≤ Y.getD (m + 1) 0) (hlt : lval X < lval Y * 4294967296) :
    Calls Tryd.prog 64 #[.slice (some ⟨g, pre.length, none⟩) X.length c1, .slice (some ⟨gy, prey.length, none⟩) Y.length c2] w (StepPost (some ⟨g, pre.length, none⟩) g pre X post (lval Y) w) := by
  have tx := top3 hX
  have ty := top2 hY
  have lx := take_lt hXl m (by omega)
  have ly := take_lt hYl m (by omega)
  have hN : 0 < lval Y := by omega
  have hNl : lval Y ≤ lpow X.length := by
    have := lval_lt hYl
    have := lpow_le (show Y.length ≤ X.length by omega)
    omega
  have h3 := top_le tx ty ly (llt_getD hYl m) hlt
  have hq := est_up (lpow_pos m) tx ty lx (Nat.div_mul_le_self (lval X) (lval Y))
  have hq32 : lval X / lval Y < 4294967296 := (Nat.div_lt_iff_lt_mul hN).2 (by rw [Nat.mul_comm]; exact hlt)
  have hYX : Y.length + 1 = X.length := by omega
  have hdown : ∀ t, EstEnd (lval X / lval Y) (X.getD m 0) (X.getD (m + 1) 0) (X.getD (m + 2) 0) (Y.getD (m + 1) 0) (Y.getD m 0) t → t ≤ lval X / lval Y + 1 := fun t ht => est_down tx ty ly (by omega) ht.2.1 ht.2.2
  have Hd := Lib.hid hdown
  clear hdown tx ty lx ly
  have hest := estimateLimb_any g gy pre prey post posty X Y c1 c2 m _ _ _ _ _ _ w hX hY (by omega) rfl rfl rfl rfl rfl hXl hYl hMx hMy hq32 hq h3 hy
  have Hest := Lib.hid hest
  have HYX := Lib.hid hYX
  have HX := Lib.hid hX
  have HY := Lib.hid hY
  clear hest hq hq32 h3 hy hlt hYX hX hY
  go_enter Tryd.func64, Tryd.ntmps64
  go_wp2_with fail
  refine Hest.out.mono ?_
  rintro e w1 ⟨t, rfl, hE, hb1⟩
  have hE1 := hE.1
  have hE2 := hE.2.1
  have hE3 := Hd.out t hE
  have HE := Lib.hid hE
  clear hE
  have hMx1 := hMx.keep hb1
  have hMy1 := hMy.keep hb1
  go_wp2_with fail
  refine (subtractMultiple_any g gy pre prey post posty X Y c1 c2 t Y.length _ HYX.out.symm rfl (by rw [HY.out]; omega) hE2 hXl hYl hMx1 hMy1 hne).mono ?_
  rintro e w2 ⟨X', rfl, hX', hv, hlen, hM2, hg2, _⟩
  have hne0 : X ≠ [] := ne_nil_of (j := 0) (by rw [HX.out]; omega)
  have hM := hM2 hne0
  have hMy2 : MB w2 gy prey Y posty := Blk.grown hMy1 hg2 (by intro e; exact hne (Option.some.inj e).symm)
  have hg12 := gb_trans (gb_below hb1 (some g)) hg2
  by_cases hneg : lval X < t * lval Y
  · rw [if_pos hneg] at hv
    rw [decide_eq_true hneg]
    have hb := step_back hN hE3 hneg hv hNl
    have ht0 := hb.2.1
    have Hb := Lib.hid hb
    have Hlen := Lib.hid hlen
    clear hv hb hlen hneg hM2
    go_wp2_with fail
    rw [← Hlen.out]
    refine (addBack_any g gy pre prey post posty X' Y c1 c2 Y.length _ (by rw [Hlen.out, ← HYX.out]) rfl (by rw [HY.out]; omega) hX' hYl hM hMy2 hne).mono ?_
    rintro e w3 ⟨rfl, hlen3, hM3, hg3, _⟩
    rw [Hlen.out] at hM3 hlen3
    have hr := hM3 (ne_nil_of (j := 0) (by rw [Hlen.out, HX.out]; omega))
    rw [Hb.out.2.2] at hr
    have Hlen3 := Lib.hid hlen3
    clear hlen3 hM3
    go_wp2_with fail
    go_ret
    exact ⟨step_ret Hb.out.1 ht0, lims_length _ _, fun _ => hr, gb_trans hg12 hg3, fun _ => rfl⟩
  · rw [if_neg hneg, Nat.add_zero] at hv
    rw [decide_eq_false hneg]
    have hb := step_exact hX' hlen hN hE1 hneg hv
    have Hb := Lib.hid hb
    clear hv hb hlen hneg hM2
    go_wp2_with fail
    go_ret
    exact ⟨step_ret0 Hb.out.1, lims_length _ _, fun _ => by rw [← Hb.out.2]; exact hM, hg12, fun _ => rfl⟩

/-- The same, with the numbers as the caller has them. -/
theorem divideStep_at {g gy off offy nx ny : Nat} {pre prey post posty : List Value} {X Y : List Nat} {c1 c2 m : Nat} {w : World} (hoff : off = pre.length) (hoffy : offy = prey.length) (hnx : nx = X.length) (hny : ny = Y.length) (hX : X.length = m + 3) (hY : Y.length = m + 2) (hm : m ≤ 8589934590)
    (hXl : llt X) (hYl : llt Y) (hMx : MB w g pre X post) (hMy : MB w gy prey Y posty) (hne : g ≠ gy) (hy : 2147483648 ≤ Y.getD (m + 1) 0) (hlt : lval X < lval Y * 4294967296) :
    Calls Tryd.prog 64 #[.slice (some ⟨g, off, none⟩) nx c1, .slice (some ⟨gy, offy, none⟩) ny c2] w (StepPost (some ⟨g, off, none⟩) g pre X post (lval Y) w) := by
  subst hoff hoffy hnx hny
  exact divideStep_any g gy pre prey post posty X Y c1 c2 m w hX hY hm hXl hYl hMx hMy hne hy hlt
end Go.Proofs.YtmfinfnjamgboaaDoor
