/- nat.divide and nat.Div. -/
import Derived.Test.YtpmfaommooneiaaGreatDoorN3
import Derived.Test.YtpmfaommooneiaaGreatDoorShelf
import Derived.RegionTactic
import Derived.BigRegion
import Derived.Test.YtpmfaommooneiaaGreatDoorN2
import Derived.Test.YtpmfaommooneiaaGreatDoorN1
import Derived.Deep.RegionWith
set_option linter.unusedVariables false
set_option linter.unusedSimpArgs false
namespace Go.Proofs.YtpmfaommooneiaaGreatDoor
open Go.RowKit NM

/-- What divide returns: the limbs of the quotient and of the remainder. -/
def DividePost (gx X Y lx ly : Nat) (w : World) (e : Ending) (w' : World) : Prop :=
  ∃ Aq cq Lq Ar cr Lr gr prer postr, e = .returned (.tuple #[.slice Aq (List.length Lq) cq, .slice Ar (List.length Lr) cr]) ∧ llt Lq ∧ lval Lq = X / Y ∧ Rd w' Aq Lq ∧ Lq.length ≤ lx ∧
    llt Lr ∧ lval Lr = X % Y ∧ Win w' Ar gr prer Lr postr ∧ (gr = gx ∨ w.heap.size ≤ gr) ∧ Lr.length ≤ cr ∧ Lr.length ≤ lx + ly + 1 ∧ w.grownBy w' (some gx)

set_option maxHeartbeats 1000000 in
theorem divide_one (A : Option Addr) (gx gy : Nat) (prex prey postx posty : List Value) (X Y : List Nat) (c1 c2 : Nat) (w : World) (hXl : X.length ≤ 8589934592) (hX : llt X) (hY : llt Y) (hy1 : Y.length = 1) (hy0 : Y.getD 0 0 ≠ 0) (hA : Win w A gx prex X postx) (hMy : MB w gy prey Y posty) :
    Calls Tryz.prog 162 #[.slice A X.length c1, .slice (some ⟨gy, prey.length, none⟩) Y.length c2] w (DividePost gx (lval X) (lval Y) X.length Y.length w) := by
  have k0 := hMy.at_ (j := 0) (by omega)
  have b0 := llt_getD hY 0
  have hv : lval Y = Y.getD 0 0 := by
    have := lval_take_succ Y 0
    rw [List.take_of_length_le (show Y.length ≤ 0 + 1 by omega), List.take_zero, lval_nil, lpow_zero] at this
    omega
  rw [hv, hy1]
  rw [Nat.add_zero] at k0
  obtain ⟨y, hy⟩ : ∃ y, y = Y.getD 0 0 := ⟨_, rfl⟩
  rw [← hy] at k0 b0 hy0 ⊢
  clear hy1 hv hy hMy hY
  go_enter Tryz.func162, Tryz.ntmps162
  go_wp2_with (go_at_call 149; refine (divideByLimb_any A gx prex X postx c1 y _ (by omega) hX (by omega) b0 hA).mono ?_; rintro e w1 ⟨rfl, hlen, hM, hg, hA2⟩)
  go_ret2
  have hr : lval X % y < 4294967296 := by have := Nat.mod_lt (lval X) (show 0 < y by omega); omega
  refine ⟨A, c1, lims X.length (lval X / y), some ⟨w1.heap.size, 0, none⟩, 1, [lval X % y], w1.heap.size, [], [], ?_, lims_lt _ _, ?_, ?_, by rw [hlen]; exact Nat.le_refl _, llt_snoc (l := []) llt_nil hr, ?_, ?_, .inr hg.size, Nat.le_refl _, by simp, ?_⟩
  · rw [hlen]
    rfl
  · rw [lval_lims, Nat.mod_eq_of_lt (Nat.lt_of_le_of_lt (Nat.div_le_self _ _) (lval_lt hX))]
  · intro h
    have hx : X ≠ [] := fun e => by subst e; exact h rfl
    exact ⟨gx, prex, postx, hA2 hx, Blk.alloc (hM hx) _⟩
  · simp [lval, val]
  · exact fun _ => ⟨rfl, Blk.new w1 _ _⟩
  · exact gb_trans hg (World.grownBy_alloc w1 _ _)

set_option maxHeartbeats 400000 in
theorem divide_short (A : Option Addr) (gx : Nat) (prex postx : List Value) (B : Option Addr) (X : List Nat) (c1 c2 N ly : Nat) (w : World) (hX : llt X) (hc : X.length ≤ c1) (hly : ly ≤ 8589934592) (hy1 : ly ≠ 1) (hlt : X.length < ly) (hN : lval X < N) (hA : Win w A gx prex X postx) :
    Calls Tryz.prog 162 #[.slice A X.length c1, .slice B ly c2] w (DividePost gx (lval X) N X.length ly w) := by
  have h1 : ((ly : Int) == 1) = false := by simp; omega
  have H := Lib.hid hA
  have Hy := Lib.hid hy1
  have HN := Lib.hid hN
  clear hA hy1 hN
  go_enter Tryz.func162, Tryz.ntmps162
  go_wp2
  go_ret2
  exact ⟨none, 0, [], A, c1, X, gx, prex, postx, rfl, llt_nil, by rw [Nat.div_eq_of_lt HN.out]; rfl, Rd.nil _ _, Nat.zero_le _, hX, by rw [Nat.mod_eq_of_lt HN.out], H.out, .inl rfl, hc, by omega, World.grownBy.refl _ _⟩

theorem MB_of_LB {w : World} {g : Nat} {a b c : List Nat} (h : LB w g (a ++ b ++ c)) : MB w g (cv .u32 a) b (cv .u32 c) := by
  unfold LB at h
  rw [cv_append, cv_append] at h
  exact h
theorem LB_of_MB {w : World} {g : Nat} {a b c : List Nat} (h : MB w g (cv .u32 a) b (cv .u32 c)) : LB w g (a ++ b ++ c) := by
  unfold LB
  rw [cv_append, cv_append]
  exact h
/-- The highest limbs of the shifted dividend are less than the divisor. -/
theorem div_start {P X Y D : List Nat} {n m s d : Nat} (hP : llt P) (hPl : P.length = X.length + 1) (hPv : lval P = lval X * 2 ^ s) (hd : d = lval (D.take Y.length)) (hDl : (D.take Y.length).length = Y.length) (htop : 2147483648 ≤ (D.take Y.length).getD (n + 1) 0) (hDt : llt (D.take Y.length))
    (hYn : Y.length = n + 2) (hm : m + Y.length = X.length + 1) (hs : s < 32) (hX : llt X) : lhigh P m < d := by
  have h1 : lval P < lpow X.length * 2 ^ s := by
    rw [hPv]
    exact Nat.mul_lt_mul_of_pos_right (lval_lt hX) (two_pow_pos' s)
  have h2 := lval_split P m (by omega)
  have h3 : lpow X.length = lpow m * lpow (n + 1) := by rw [← lpow_add]; congr 1; omega
  have h4 : lhigh P m < lpow (n + 1) * 2147483648 := by
    rcases Nat.lt_or_ge (lhigh P m) (lpow (n + 1) * 2147483648) with h | h
    · exact h
    · exfalso
      have h5 : lpow m * (lpow (n + 1) * 2147483648) ≤ lpow m * lhigh P m := Nat.mul_le_mul_left _ h
      have h6 : lpow m * lpow (n + 1) * 2 ^ s ≤ lpow m * lpow (n + 1) * 2147483648 := Nat.mul_le_mul_left _ (two_pow_le hs)
      rw [← Nat.mul_assoc] at h5
      rw [h3] at h1
      omega
  have h7 := lval_take_succ (D.take Y.length) (n + 1)
  rw [List.take_of_length_le (show (D.take Y.length).length ≤ n + 1 + 1 by omega), ← hd] at h7
  have h8 : lpow (n + 1) * 2147483648 ≤ lpow (n + 1) * (D.take Y.length).getD (n + 1) 0 := Nat.mul_le_mul_left _ htop
  have := hP
  have := hDt
  omega

theorem divide_fin {X Y P : List Nat} {n s d j g1 g3 gx : Nat} {w wr w4 : World} (hX : llt X) (hPt : llt P) (hPl : P.length = X.length + 1) (hPv : lval P = lval X * 2 ^ s) (hd : d = lval Y * 2 ^ s) (hYn : Y.length = n + 2) (hyt : Y.getD (n + 1) 0 ≠ 0) (hj : j + Y.length = X.length + 1)
    (hQ : LB wr g3 (lims j (lval P / d))) (h31 : g3 ≠ g1) (hM4 : lims P.length (lval P % d) ≠ [] → MB w4 g1 [] (lims (lims P.length (lval P % d)).length (lval (lims P.length (lval P % d)) / 2 ^ s)) [])
    (hbr : Below w.heap.size w wr) (hg4 : wr.grownBy w4 (some g1)) (hg1 : w.heap.size ≤ g1) :
    DividePost gx (lval X) (lval Y) X.length Y.length w (.returned (.tuple #[.slice (some ⟨g3, 0, none⟩) j j, .slice (some ⟨g1, 0, none⟩) P.length P.length])) w4 := by
  have hs := two_pow_pos' s
  have e1 : lval P / d = lval X / lval Y := by rw [hPv, hd, Nat.mul_div_mul_right _ _ hs]
  have e2 : lval P % d = lval X % lval Y * 2 ^ s := by rw [hPv, hd, Nat.mul_mod_mul_right]
  have t1 := lval_take_succ Y (n + 1)
  rw [List.take_of_length_le (show Y.length ≤ n + 1 + 1 by omega)] at t1
  have t2 : lpow (n + 1) * 1 ≤ lpow (n + 1) * Y.getD (n + 1) 0 := Nat.mul_le_mul_left _ (Nat.pos_of_ne_zero hyt)
  have hYp : 0 < lval Y := by have := lpow_pos (n + 1); omega
  have hXlt := lval_lt hX
  have hq : lval X / lval Y < lpow j := by
    rw [Nat.div_lt_iff_lt_mul hYp]
    have e3 : lpow X.length = lpow j * lpow (n + 1) := by rw [← lpow_add]; congr 1; omega
    have : lpow j * lpow (n + 1) ≤ lpow j * lval Y := Nat.mul_le_mul_left _ (by omega)
    omega
  have hrlt : lval X % lval Y < lpow P.length := by
    have := Nat.mod_le (lval X) (lval Y)
    have := lpow_le (show X.length ≤ P.length by omega)
    omega
  have hr2 : lval P % d < lpow P.length := by
    have h1 := Nat.mod_le (lval P) d
    have h2 := lval_lt hPt
    omega
  have e4 : lval (lims P.length (lval P % d)) / 2 ^ s = lval X % lval Y := by
    rw [lval_lims, Nat.mod_eq_of_lt hr2, e2, Nat.mul_div_cancel _ hs]
  have hM := hM4 (ne_nil_of (j := 0) (by rw [lims_length]; omega))
  rw [e4, lims_length] at hM
  rw [e1] at hQ
  refine ⟨some ⟨g3, 0, none⟩, j, lims j (lval X / lval Y), some ⟨g1, 0, none⟩, P.length, lims P.length (lval X % lval Y), g1, [], [], ?_, lims_lt _ _, ?_, ?_, ?_, lims_lt _ _, ?_, fun _ => ⟨rfl, hM⟩, .inr hg1, ?_, ?_, ?_⟩
  · rw [lims_length, lims_length]
  · rw [lval_lims, Nat.mod_eq_of_lt hq]
  · exact Rd.of_LB (Blk.grown hQ hg4 (by intro e; injection e with e; exact h31 e))
  · rw [lims_length]; omega
  · rw [lval_lims, Nat.mod_eq_of_lt hrlt]
  · rw [lims_length]; exact Nat.le_refl _
  · rw [lims_length]; omega
  · exact ⟨hg4.os.trans hbr.os, hg4.tape.trans hbr.tape, hg4.output.trans hbr.output, Nat.le_trans hbr.size hg4.size, fun k hk _ => (hg4.block k (Nat.lt_of_lt_of_le hk hbr.size) (by intro e; injection e with e; omega)).trans (hbr.block k hk)⟩

set_option maxHeartbeats 1000000 in
theorem divide_long (A : Option Addr) (gx gy : Nat) (prex prey postx posty : List Value) (X Y : List Nat) (c1 c2 n : Nat) (w : World) (hXl : X.length ≤ 4294967296) (hX : llt X) (hY : llt Y) (hYn : Y.length = n + 2) (hXY : Y.length ≤ X.length) (hyt : Y.getD (n + 1) 0 ≠ 0) (hA : Win w A gx prex X postx) (hMy : MB w gy prey Y posty) :
    Calls Tryz.prog 162 #[.slice A X.length c1, .slice (some ⟨gy, prey.length, none⟩) Y.length c2] w (DividePost gx (lval X) (lval Y) X.length Y.length w) := by
  have kt := hMy.at_ (j := n + 1) (by omega)
  have bt := llt_getD hY (n + 1)
  obtain ⟨t, ht⟩ : ∃ t, t = Y.getD (n + 1) 0 := ⟨_, rfl⟩
  rw [← ht] at kt bt hyt
  obtain ⟨hs32, hsI, hs1, hs2⟩ := lz_spec hyt bt
  obtain ⟨s, hs⟩ : ∃ s, s = lz t := ⟨_, rfl⟩
  rw [← hs] at hs32 hsI hs1 hs2
  have e1 : (Y.length : Int) - 1 = ((n + 1 : Nat) : Int) := by omega
  have e2 : ((Y.length : Int) == 1) = false := by simp; omega
  have HYn := Lib.hid hYn
  have Hs1 := Lib.hid hs1
  have Hs2 := Lib.hid hs2
  have Ht := Lib.hid ht
  have HsI := Lib.hid hsI
  have hyl : Y.length = n + 2 := hYn
  have hn1 : n + 2 ≤ Y.length := by omega
  have hn2 : Y.length ≤ n + 2 := by omega
  clear hYn hs1 hs2 ht hs hsI hyl
  go_enter Tryz.func162, Tryz.ntmps162
  go_wp2_with fail
  refine (Tryz.bits_LeadingZeros32 (t : Int) _ (by omega) (by omega)).mono ?_
  rintro e w' ⟨rfl, hw⟩
  obtain rfl : w = w' := hw.symm
  clear hw
  rw [Int.toNat_natCast, HsI.out]
  clear e1
  go_wp2_with fail
  refine (shiftLeft_any A X c1 s _ (by omega) hX hs32 hA.rd).mono ?_
  rintro e w1 ⟨P, hPl, hPt, hPv, g1, hg1, rfl, hP1, hb1⟩
  have HPl := Lib.hid hPl
  have HPv := Lib.hid hPv
  have hPl1 : P.length ≤ X.length + 1 := by omega
  have hPl2 : X.length + 1 ≤ P.length := by omega
  clear hPl hPv
  go_wp2_with fail
  refine (shiftLeft_any _ Y c2 s _ (by omega) hY hs32 (show Rd w1 _ Y from fun _ => ⟨gy, prey, posty, rfl, hMy.keep hb1⟩)).mono ?_
  rintro e w2 ⟨D, hDl, hDt, hDv, g2, hg2, rfl, hD2, hb2⟩
  have hds := divisor_spec hY HYn.out hDt (by rw [hDl, HYn.out]) hDv (by rw [← Ht.out]; exact Hs1.out) (by rw [← Ht.out]; exact Hs2.out)
  have Hds := Lib.hid hds
  have hDl1 : D.length ≤ Y.length + 1 := by omega
  have hDl2 : Y.length + 1 ≤ D.length := by omega
  clear hds hDl hDv
  obtain ⟨m, hm⟩ : ∃ m, m + Y.length = X.length + 1 := ⟨X.length + 1 - Y.length, by omega⟩
  have em : (X.length : Int) - (Y.length : Int) + 1 = (m : Int) := by omega
  have Hm := Lib.hid hm
  have hm1 : m + Y.length ≤ X.length + 1 := by omega
  have hm2 : X.length + 1 ≤ m + Y.length := by omega
  clear hm
  go_wp2_with (at_make; refine wpList_make_blk _ rfl _ _ 133 rfl 142 .u32 4 Tryz.underlying133 row_u32 _ _ _ _ m rfl rfl rfl rfl (by omega) (by omega) ?_; intro w3 hQ hb3 hs3)
  have hg2' : w1.heap.size ≤ g2 := hg2
  have l1 : g1 < w1.heap.size := hP1.lt
  have l2 : g2 < w2.heap.size := hD2.lt
  have l3 : w.heap.size ≤ w1.heap.size := hb1.size
  have l4 : w1.heap.size ≤ w2.heap.size := hb2.size
  obtain ⟨d, hd⟩ : ∃ d, d = lval Y * 2 ^ s := ⟨_, rfl⟩
  have hd1 : d = lval (D.take Y.length) := by rw [hd, ← Hds.out.1, HYn.out]
  have hDtl : (D.take Y.length).length = Y.length := by rw [List.length_take]; omega
  have hD0 : D = D.take Y.length ++ [0] := by rw [HYn.out]; exact Hds.out.2.2.2
  have hDt2 : llt (D.take Y.length) := llt_take hDt _
  have hdn : d < lpow Y.length := by
    have := lval_lt hDt2
    rwa [hDtl, ← hd1] at this
  have htop : 2147483648 ≤ (D.take Y.length).getD (n + 1) 0 := by rw [HYn.out]; exact Hds.out.2.1
  have hdpos : 0 < d := by
    rw [hd1]
    have := top2 (Y := D.take Y.length) (m := n) (by rw [hDtl, HYn.out])
    have := lpow_pos n
    have h5 : lpow n * 1 ≤ lpow n * ((D.take Y.length).getD n 0 + 4294967296 * (D.take Y.length).getD (n + 1) 0) := Nat.mul_le_mul_left _ (by omega)
    omega
  have hstart : lhigh P m < d := div_start hPt HPl.out HPv.out hd1 hDtl htop hDt2 HYn.out Hm.out hs32 hX
  have hP1' : LB w3 g1 (restl P d m) := by
    rw [restl_start hPt hstart (by rw [HPl.out]; omega)]
    exact (Blk.keep hP1 (hb2.mono (Nat.le_refl _))).keep hb3
  have hQ' : LB w3 w2.heap.size (quotl P d m m) := by rw [quotl_start hstart]; exact hQ
  have hD' : LB w3 g2 D := Blk.keep hD2 hb3
  have hbw : Below w.heap.size w w3 := hb1.trans ((hb2.mono l3).trans (hb3.mono (Nat.le_trans l3 l4)))
  have Hd := Lib.hid hd
  have Hd1 := Lib.hid hd1
  have HDtl := Lib.hid hDtl
  have HD0 := Lib.hid hD0
  clear hd hd1 hDtl hD0 hstart hP1 hQ hD2 hs3
  go_loopw [10, 11, 54] (fun _ _ i wr => ∃ j : Nat, j ≤ m ∧ i = .int .i64 j ∧ LB wr g1 (restl P d (m - j)) ∧ LB wr w2.heap.size (quotl P d m (m - j)) ∧ LB wr g2 D ∧ Below w.heap.size w wr) (fun _ _ i _ => m - (intOf i).toNat)
  case atStart => exact ⟨0, Nat.zero_le _, rfl, hP1', hQ', hD', hbw⟩
  case round =>
    obtain ⟨j, hj, rfl, hR, hQ, hD, hbr⟩ := hrel
    clear hP1' hQ' hD' hbw
    by_cases hlt : j < m
    · obtain ⟨k, hk⟩ : ∃ k, k + 1 = m - j := ⟨m - j - 1, by omega⟩
      have ek : (m : Int) - 1 - (j : Int) = (k : Int) := by omega
      have hkm : k < m := by omega
      have hk1 : k + Y.length + 1 ≤ P.length := by omega
      rw [← hk] at hR hQ
      have Hk := Lib.hid hk
      clear hk
      have hround := div_round (n := Y.length) (k := k) hPt (by omega) hdpos (by omega)
      have hwin := restl_win (n := Y.length) (k := k) (P := P) (d := d) (by omega) hdpos (by omega)
      have hwin' := restl_win' (n := Y.length) (k := k) (P := P) (d := d) (by omega) hdpos (by omega)
      rw [hwin] at hR
      have hMB := MB_of_LB hR
      have hDM : MB wr g2 [] (D.take Y.length) (cv .u32 [0]) := by
        have := hD
        rw [HD0.out] at this
        exact MB_of_LB (a := []) this
      have hwl : llt (P.getD k 0 :: lims Y.length (lhigh P (k + 1) % d)) := lt_cons (llt_getD hPt k) (lims_lt _ _)
      obtain ⟨W, hW⟩ : ∃ W, W = P.getD k 0 :: lims Y.length (lhigh P (k + 1) % d) := ⟨_, rfl⟩
      have hWl : W.length = n + 3 := by rw [hW, List.length_cons, lims_length, HYn.out]
      rw [← hW] at hMB hwl hround
      have Hround := Lib.hid hround
      have Hwin' := Lib.hid hwin'
      have HWl := Lib.hid hWl
      have hnW : k + Y.length + 1 - k = W.length := by have := HYn.out; rw [hWl]; omega
      have hpre : k = (cv .u32 (P.take k)).length := by rw [cv_length, List.length_take]; omega
      have hstep := divideStep_at (c1 := P.length - k) (c2 := D.length) (m := n) hpre (show 0 = ([] : List Value).length from rfl) hnW HDtl.out.symm hWl (by rw [HDtl.out, HYn.out]) (by omega) hwl hDt2 hMB hDM (by omega) htop (by rw [← Hd1.out]; exact hround.1)
      have Hstep := Lib.hid hstep
      clear hround hwin hwin' hWl hW hnW hpre hstep hR
      go_wp2_with fail
      refine Hstep.out.mono ?_
      rintro e w4 ⟨rfl, _, hM4, hg4, _⟩
      have hR4 := LB_of_MB (hM4 (ne_nil_of (j := 0) (by rw [HWl.out]; omega)))
      rw [← Hd1.out, Hround.out.2.1, HWl.out, show n + 3 = Y.length + 1 from by rw [HYn.out], ← Hwin'.out] at hR4
      have hQ4 : LB w4 w2.heap.size (quotl P d m (k + 1)) := Blk.grown hQ hg4 (by intro e; injection e with e; omega)
      have hD4 : LB w4 g2 D := Blk.grown hD hg4 (by intro e; injection e with e; omega)
      have hbr4 : Below w.heap.size w w4 := hbr.grown hg4 hbr.size (fun b hb => by injection hb with hb; omega)
      have hcell := hQ4.at_ (j := k) (by rw [quotl_length _ _ _ _ (by omega)]; exact hkm)
      have hfree := hQ4.free (j := k) (by rw [quotl_length _ _ _ _ (by omega)]; exact hkm)
      have hqlt : lval W / d < 4294967296 := (Nat.div_lt_iff_lt_mul hdpos).2 (by rw [Nat.mul_comm]; exact Hround.out.1)
      rw [← Hd1.out]
      clear hM4 hg4 hQ hD hbr hMB hDM
      go_wp2_with fail
      go_roundw
      case rel => exact ⟨j + 1, by omega, by go_num, by rw [show m - (j + 1) = k from by have := Hk.out; omega]; exact Blk.setOther hR4 (show w2.heap.size ≠ g1 by omega) _, by rw [show m - (j + 1) = k from by have := Hk.out; omega, ← quotl_set hkm hqlt Hround.out.2.2]; exact hQ4.set k rfl, Blk.setOther hD4 (show w2.heap.size ≠ g2 by omega) _, hbr4.setCell (show w.heap.size ≤ w2.heap.size by omega) _⟩
      case measure => simp [intOf]; omega
    · obtain rfl : j = m := by omega
      rw [Nat.sub_self] at hR hQ
      rw [restl_end] at hR
      rw [quotl_end] at hQ
      have hshr := shiftRight_any (some ⟨g1, 0, none⟩) g1 [] (lims P.length (lval P % d)) [] P.length s wr (by rw [lims_length]; omega) (lims_lt _ _) hs32 (Win.of_LB hR)
      rw [lims_length] at hshr
      have Hshr := Lib.hid hshr
      clear hshr
      go_wp2_with fail
      refine Hshr.out.mono ?_
      rintro e w4 ⟨rfl, hlen4, hM4, hg4, _⟩
      have Hlen4 := Lib.hid hlen4
      clear hlen4
      go_wp2_with fail
      go_ret2
      exact divide_fin hX hPt HPl.out HPv.out Hd.out HYn.out (by rw [← Ht.out]; exact hyt) (by omega) hQ (by omega) hM4 hbr hg4 (by omega)
end Go.Proofs.YtpmfaommooneiaaGreatDoor

/- nat.Div. -/
namespace Go.Proofs.YtpmfaommooneiaaGreatDoor
open Go.RowKit NM

/-- divide at the limbs of two numbers. -/
theorem divide_any (gx gy : Nat) (M N : Nat) (w : World) (hM : (lim M).length ≤ 4294967296) (hN : (lim N).length ≤ 4294967296) (hN0 : N ≠ 0) (hx : LB w gx (lim M)) (hy : LB w gy (lim N)) :
    Calls Tryz.prog 162 #[.slice (some ⟨gx, 0, none⟩) (lim M).length (lim M).length, .slice (some ⟨gy, 0, none⟩) (lim N).length (lim N).length] w (DividePost gx M N (lim M).length (lim N).length w) := by
  have hl := lim_last hN0
  rw [← lim_length] at hl
  have hMy : MB w gy [] (lim N) [] := by unfold MB; rw [List.nil_append, List.append_nil]; exact hy
  have hne : (lim N) ≠ [] := fun e => hN0 (lim_eq_nil.1 e)
  have hpos : 0 < (lim N).length := List.length_pos_iff.2 hne
  have e1 := lval_lim M
  have e2 := lval_lim N
  rcases (show (lim N).length = 1 ∨ (2 ≤ (lim N).length ∧ (lim M).length < (lim N).length) ∨ (2 ≤ (lim N).length ∧ (lim N).length ≤ (lim M).length) from by omega) with h | ⟨h, h2⟩ | ⟨h, h2⟩
  · have := divide_one (some ⟨gx, 0, none⟩) gx gy [] [] [] [] (lim M) (lim N) (lim M).length (lim N).length w (by omega) (lim_lt _) (lim_lt _) h (by rw [h] at hl; exact hl) (Win.of_LB hx) hMy
    rw [e1, e2] at this
    exact this
  · have hlt : lval (lim M) < N := by
      rw [e1]
      have h3 := lval_lt (lim_lt M)
      rw [e1] at h3
      have h4 := lval_take_succ (lim N) ((lim N).length - 1)
      rw [List.take_of_length_le (by omega), e2] at h4
      have h5 : lpow ((lim N).length - 1) * 1 ≤ lpow ((lim N).length - 1) * (lim N).getD ((lim N).length - 1) 0 := Nat.mul_le_mul_left _ (Nat.pos_of_ne_zero hl)
      have h6 := lpow_le (show (lim M).length ≤ (lim N).length - 1 by omega)
      omega
    have := divide_short (some ⟨gx, 0, none⟩) gx [] [] (some ⟨gy, 0, none⟩) (lim M) (lim M).length (lim N).length N (lim N).length w (lim_lt _) (Nat.le_refl _) (by omega) (by omega) h2 hlt (Win.of_LB hx)
    rw [e1] at this
    exact this
  · obtain ⟨n, hn⟩ : ∃ n, (lim N).length = n + 2 := ⟨(lim N).length - 2, by omega⟩
    have := divide_long (some ⟨gx, 0, none⟩) gx gy [] [] [] [] (lim M) (lim N) (lim M).length (lim N).length n w (by omega) (lim_lt _) (lim_lt _) hn h2 (by rw [hn] at hl; exact hl) (Win.of_LB hx) hMy
    rw [e1, e2] at this
    exact this

set_option maxHeartbeats 1000000 in
theorem Div_any (a b : ByteArray) (w : World) (ha : a.size ≤ 4294967296) (hb : b.size ≤ 4294967296) :
    Calls Tryz.prog 132 #[.string a, .string b] w fun e w' => e = .returned (divVal (nat a) (nat b)) ∧ Below w.heap.size w w' := by
  have la := lim_size a
  have lb := lim_size b
  by_cases hz : nat b = 0
  · rw [divVal_zero hz]
    have hl : (lim (nat b)).length = 0 := by rw [hz]; rfl
    have h0 : (((lim (nat b)).length : Int) == 0) = true := by rw [hl]; rfl
    have Hz := Lib.hid hz
    clear hz hl
    go_enter Tryz.func132, Tryz.ntmps132
    go_wp2_with fail
    refine (limbs_any a _ (by omega)).mono ?_
    rintro e w1 ⟨g1, hg1, rfl, hB1, hb1⟩
    go_wp2_with fail
    refine (limbs_any b _ (by omega)).mono ?_
    rintro e w2 ⟨g2, hg2, rfl, hB2, hb2⟩
    go_wp2_with fail
    go_ret3
    exact ⟨rfl, hb1.trans (hb2.mono hb1.size)⟩
  · rw [divVal_pos hz]
    have hl : 0 < (lim (nat b)).length := List.length_pos_iff.2 (fun e => hz (lim_eq_nil.1 e))
    have h0 : (((lim (nat b)).length : Int) == 0) = false := beq_eq_false_iff_ne.2 (by omega)
    have Hz := Lib.hid hz
    clear hz
    go_enter Tryz.func132, Tryz.ntmps132
    go_wp2_with fail
    refine (limbs_any a _ (by omega)).mono ?_
    rintro e w1 ⟨g1, hg1, rfl, hB1, hb1⟩
    go_wp2_with fail
    refine (limbs_any b _ (by omega)).mono ?_
    rintro e w2 ⟨g2, hg2, rfl, hB2, hb2⟩
    go_wp2_with fail
    refine (divide_any g1 g2 (nat a) (nat b) _ (by omega) (by omega) Hz.out (Blk.keep hB1 hb2) hB2).mono ?_
    rintro e w3 ⟨Aq, cq, Lq, Ar, cr, Lr, gr, prer, postr, rfl, hq1, hq2, hq3, hq4, hr1, hr2, hr3, hr4, hr5, hr6, hg3⟩
    have hb3 : Below w.heap.size w w3 := (hb1.trans (hb2.mono hb1.size)).grown hg3 (Nat.le_trans hb1.size hb2.size) (fun k hk => by injection hk with hk; omega)
    have Hq2 := Lib.hid hq2
    have Hr2 := Lib.hid hr2
    have hlq : Lq.length ≤ 17179869184 := by omega
    have hlr : Lr.length ≤ 17179869184 := by omega
    clear hq2 hr2
    go_wp2_with fail
    refine (magnitude_any Aq Lq cq _ hlq hq1 hq3).mono ?_
    rintro e w4 ⟨rfl, hb4⟩
    go_wp2_with fail
    refine (magnitude_any Ar Lr cr _ hlr hr1 (hr3.keep hb4).rd).mono ?_
    rintro e w5 ⟨rfl, hb5⟩
    rw [Hq2.out, Hr2.out]
    go_wp2_with fail
    go_ret3
    exact ⟨rfl, hb3.trans ((hb4.mono hb3.size).trans (hb5.mono (Nat.le_trans hb3.size hb4.size)))⟩
end Go.Proofs.YtpmfaommooneiaaGreatDoor

/- slices.Reverse and slices.IndexFunc at []byte. -/
namespace Go.Proofs.YtpmfaommooneiaaGreatDoor
open Go.RowKit NM

/-- The list behind i exchanges. -/
def RevAt (L M : List Nat) (i : Nat) : Prop := M.length = L.length ∧ ∀ t, t < L.length → M.getD t 0 = if t < i ∨ L.length ≤ t + i then L.getD (L.length - 1 - t) 0 else L.getD t 0
theorem RevAt.start (L : List Nat) : RevAt L L 0 := ⟨rfl, fun t ht => by rw [if_neg (by omega)]⟩
theorem RevAt.here {L M : List Nat} {i t : Nat} (h : RevAt L M i) (ht : t < L.length) (h1 : i ≤ t) (h2 : t + i < L.length) : M.getD t 0 = L.getD t 0 := by
  rw [h.2 t ht, if_neg (by omega)]
theorem getD_set {l : List Nat} {i j x : Nat} (h : i < l.length) : (l.set i x).getD j 0 = if i = j then x else l.getD j 0 := by
  by_cases e : i = j
  · subst e
    rw [if_pos rfl, List.getD_eq_getElem?_getD, List.getElem?_set_self h]
    rfl
  · rw [if_neg e, getD_set_ne e]
theorem RevAt.step {L M : List Nat} {i j : Nat} (h : RevAt L M i) (hj : j + i + 1 = L.length) (hij : i < j) : RevAt L ((M.set i (L.getD j 0)).set j (L.getD i 0)) (i + 1) := by
  refine ⟨by rw [List.length_set, List.length_set]; exact h.1, fun t ht => ?_⟩
  have hl := h.1
  rw [getD_set (by rw [List.length_set]; omega), getD_set (by omega)]
  by_cases e1 : j = t
  · subst e1
    rw [if_pos rfl, if_pos (by omega)]
    congr 1
    omega
  · rw [if_neg e1]
    by_cases e2 : i = t
    · subst e2
      rw [if_pos rfl, if_pos (by omega)]
      congr 1
      omega
    · rw [if_neg e2, h.2 t ht]
      by_cases e3 : t < i ∨ L.length ≤ t + i
      · rw [if_pos e3, if_pos (by omega)]
      · rw [if_neg e3, if_neg (by omega)]
theorem RevAt.end_ {L M : List Nat} {i : Nat} (h : RevAt L M i) (hi : L.length ≤ i + i + 1) : M = L.reverse := by
  apply list_ext (by rw [h.1, List.length_reverse])
  intro t
  by_cases ht : t < L.length
  · have e : L.reverse.getD t 0 = L.getD (L.length - 1 - t) 0 := by
      rw [List.getD_eq_getElem?_getD, List.getElem?_reverse ht, ← List.getD_eq_getElem?_getD]
    rw [e, h.2 t ht]
    by_cases e3 : t < i ∨ L.length ≤ t + i
    · rw [if_pos e3]
    · rw [if_neg e3]
      congr 1
      omega
  · rw [List.getD_eq_getElem?_getD, List.getElem?_eq_none (by rw [h.1]; omega), List.getD_eq_getElem?_getD, List.getElem?_eq_none (by rw [List.length_reverse]; omega)]

theorem pre_at {k : IntKind} {l : List Nat} {post : List Value} {j : Nat} (hj : j < l.length) : (cv k l ++ post)[j]? = some (.int k (l.getD j 0 : Nat)) := by
  rw [List.getElem?_append_left (by rw [cv_length]; exact hj), cv_getElem? _ _ _ hj]
theorem pre_set {k : IntKind} {l : List Nat} {post : List Value} {j d : Nat} (hj : j < l.length) : (cv k l ++ post).set j (.int k (d : Int)) = cv k (l.set j d) ++ post := by
  rw [List.set_append_left _ _ (by rw [cv_length]; exact hj), cv_set]

/-- What Reverse leaves. -/
def RevPost (g : Nat) (E : TypeId) (L : List Nat) (post : List Value) (w : World) (e : Ending) (w' : World) : Prop := e = .returned (.tuple #[]) ∧ Blk w' g E (cv .u8 L.reverse ++ post) ∧ w.grownBy w' (some g)

set_option maxHeartbeats 1000000 in
theorem Reverse_any (g : Nat) (E : TypeId) (L : List Nat) (post : List Value) (n c : Nat) (w : World) (hn : n = L.length) (hL : L.length ≤ 1099511627776) (hB : Blk w g E (cv .u8 L ++ post)) :
    Calls Tryz.prog 151 #[.slice (some ⟨g, 0, none⟩) n c] w (RevPost g E L post w) := by
  subst hn
  go_enter Tryz.func151, Tryz.ntmps151
  go_wp2
  go_loopw [2, 3] (fun i j wr => ∃ (k : Nat) (M : List Nat), i = .int .i64 k ∧ j = .int .i64 ((L.length : Int) - 1 - k) ∧ k ≤ L.length ∧ RevAt L M k ∧ Blk wr g E (cv .u8 M ++ post) ∧ w.grownBy wr (some g)) (fun i j _ => (intOf j - intOf i).toNat)
  case atStart => exact ⟨0, L, rfl, by go_num, Nat.zero_le _, RevAt.start L, hB, World.grownBy.refl _ _⟩
  case round =>
    obtain ⟨i, M, rfl, rfl, hi, hM, hBr, hg⟩ := hrel
    by_cases hlt : i + i + 1 < L.length
    · obtain ⟨j, hj⟩ : ∃ j : Nat, j + i + 1 = L.length := ⟨L.length - 1 - i, by omega⟩
      have e : (L.length : Int) - 1 - (i : Int) = (j : Int) := by omega
      have hij : i < j := by omega
      have hil : i < L.length := by omega
      have hjl : j < L.length := by omega
      have c1 := hBr.cell (pre_at (by rw [hM.1]; exact hil))
      have c2 := hBr.cell (pre_at (by rw [hM.1]; exact hjl))
      have f1 := hBr.free (j := i) (by simp [cv_length, hM.1]; omega)
      have f2 := hBr.free (j := j) (by simp [cv_length, hM.1]; omega)
      rw [hM.here hil (by omega) (by omega)] at c1
      rw [hM.here hjl (by omega) (by omega)] at c2
      have HM := Lib.hid hM
      have Hj := Lib.hid hj
      rw [e]
      clear hM hj
      obtain ⟨x, hx⟩ : ∃ x, x = L.getD i 0 := ⟨_, rfl⟩
      obtain ⟨y, hy⟩ : ∃ y, y = L.getD j 0 := ⟨_, rfl⟩
      rw [← hx] at c1
      rw [← hy] at c2
      have Hx := Lib.hid hx
      have Hy := Lib.hid hy
      clear hx hy
      go_wp2
      go_region
      go_wp2
      go_roundw
      case rel => exact ⟨i + 1, (M.set i y).set j x, by go_num, by have := Hj.out; go_num, by omega, by rw [Hx.out, Hy.out]; exact HM.out.step Hj.out hij, by rw [← pre_set (by rw [List.length_set, HM.out.1]; exact hjl), ← pre_set (by rw [HM.out.1]; exact hil)]; exact ((hBr.set i _).set j _).drew, gb_drewN (gb_set (gb_set hg _ _) _ _) 1⟩
      case measure => simp [intOf]; omega
    · go_wp2
      go_end0
      exact ⟨rfl, by rw [← hM.end_ (by omega)]; exact hBr, hg⟩

set_option maxHeartbeats 400000 in
theorem Format1_any (d : Nat) (w : World) : Calls Tryz.prog 153 #[.int .u8 (d : Int)] w fun e w' => e = .returned (.bool ((d : Int) != 48)) ∧ w = w' := by
  go_enter Tryz.func153, Tryz.ntmps153
  go_wp2
  go_ret
  exact ⟨rfl, rfl⟩

set_option maxHeartbeats 1000000 in
/-- IndexFunc at Format's own test: the first place that is not the digit 0. -/
theorem IndexFunc_any (g : Nat) (E : TypeId) (L : List Nat) (post : List Value) (n c f : Nat) (F : Value) (w : World) (hF : F = .func (.func 153) #[] #[]) (hn : n = L.length) (hL : L.length ≤ 1099511627776) (hB : Blk w g E (cv .u8 L ++ post)) (hf : f < L.length) (hz : ∀ j, j < f → L.getD j 0 = 48) (hnz : L.getD f 0 ≠ 48) :
    Calls Tryz.prog 152 #[.slice (some ⟨g, 0, none⟩) n c, F] w fun e w' => e = .returned (.int .i64 (f : Int)) ∧ Below w.heap.size w w' := by
  subst hn hF
  have Hz := Lib.hid hz
  have Hnz := Lib.hid hnz
  clear hz hnz
  go_enter Tryz.func152, Tryz.ntmps152
  go_wp2
  go_loopw [8] (fun i wr => ∃ k : Nat, k ≤ f ∧ i = .int .i64 k ∧ Below w.heap.size w wr) (fun i _ => L.length - (intOf i).toNat)
  case atStart => exact ⟨0, Nat.zero_le _, rfl, Below.refl _ _⟩
  case round =>
    obtain ⟨k, hk, rfl, hb⟩ := hrel
    have hkl : k < L.length := by omega
    have hc := (hB.keep hb).cell (pre_at hkl)
    by_cases hkf : k = f
    · have hd : L.getD k 0 ≠ 48 := by rw [hkf]; exact Hnz.out
      have Hkf := Lib.hid hkf
      clear hkf
      generalize L.getD k 0 = d at hc hd
      have ht : ((d : Int) != 48) = true := by simp; omega
      go_wp2_with (go_at_call 153; refine (Format1_any d _).mono ?_; rintro e w' ⟨rfl, rfl⟩)
      go_ret
      exact ⟨ret_int (by rw [Hkf.out]), hb⟩
    · have hd := Hz.out k (by omega)
      rw [hd] at hc
      clear hd
      go_wp2_with (go_at_call 153; refine (Format1_any 48 _).mono ?_; rintro e w' ⟨rfl, rfl⟩)
      go_roundw
      case rel => exact ⟨k + 1, by omega, by go_num, hb⟩
      case measure => simp [intOf]; omega
end Go.Proofs.YtpmfaommooneiaaGreatDoor

/- nat.Format. -/
namespace Go.Proofs.YtpmfaommooneiaaGreatDoor
open Go.RowKit NM

/-- The decimal digits of a number as bytes, and its decimal string. -/
def decs (n : Nat) : List Nat := if n = 0 then [48] else ((dig 10 n).map (48 + ·)).reverse
def dec (n : Nat) : ByteArray := ofBts (decs n)

/-- k digits of n, least significant first, as bytes. -/
def tens (k n : Nat) : List Nat := (digs 10 k n).map (48 + ·)
theorem tens_length (k n : Nat) : (tens k n).length = k := by unfold tens; rw [List.length_map, digs_length]
theorem tens_succ (k n : Nat) : tens (k + 1) n = tens k n ++ [48 + n / 10 ^ k % 10] := by unfold tens; rw [digs_succ, List.map_append]; rfl
theorem digs_more {B k j n : Nat} (hB : 1 < B) (h : n < B ^ k) : digs B (k + j) n = digs B k n ++ List.replicate j 0 := by
  have hz : NM.lt B (List.replicate j 0) := fun x hx => by
    rw [List.mem_replicate] at hx
    omega
  apply val_inj hB (digs_lt (by omega) _ _) (lt_append (digs_lt (by omega) _ _) hz) (by rw [List.length_append, digs_length, digs_length, List.length_replicate])
  have h1 : B ^ k ≤ B ^ (k + j) := Nat.pow_le_pow_right (by omega) (by omega)
  rw [val_append_zeros, val_digs, val_digs, Nat.mod_eq_of_lt h, Nat.mod_eq_of_lt (by omega)]
/-- The digits from above: zeros, then the number's. -/
theorem tens_rev {K n : Nat} (hn : n ≠ 0) (hK : n < 10 ^ K) : (tens K n).reverse = List.replicate (K - len 10 n) 48 ++ decs n ∧ len 10 n ≤ K ∧ (decs n).length = len 10 n ∧ (decs n).getD 0 0 ≠ 48 := by
  have h1 : len 10 n ≤ K := (len_le_iff (by omega) K n).2 hK
  have e : tens K n = (dig 10 n).map (48 + ·) ++ List.replicate (K - len 10 n) 48 := by
    unfold tens dig
    rw [show K = len 10 n + (K - len 10 n) from by omega, digs_more (by omega) (lt_pow_len (by omega) n), List.map_append, List.map_replicate]
    congr 2
    omega
  have hd : decs n = ((dig 10 n).map (48 + ·)).reverse := if_neg hn
  refine ⟨by rw [e, List.reverse_append, List.reverse_replicate, hd], h1, by rw [hd, List.length_reverse, List.length_map, dig_length], ?_⟩
  have hp : 0 < len 10 n := by rw [len_pos (by omega) hn]; omega
  have hl : (dig 10 n).length = len 10 n := dig_length _ _
  rw [hd, List.getD_eq_getElem?_getD, List.getElem?_reverse (by rw [List.length_map, hl]; exact hp), List.length_map, List.getElem?_map, hl, Nat.sub_zero]
  have hdg : (dig 10 n)[len 10 n - 1]? = some (n / 10 ^ (len 10 n - 1) % 10) := digs_getElem? _ _ _ _ (by omega)
  rw [hdg]
  have h2 := pow_len_le (B := 10) (by omega) hn
  have h3 := lt_pow_len (B := 10) (by omega) n
  have h4 : n / 10 ^ (len 10 n - 1) < 10 := by
    rw [Nat.div_lt_iff_lt_mul (Nat.pow_pos (by omega)), Nat.mul_comm, ← Nat.pow_succ, Nat.succ_eq_add_one, Nat.sub_add_cancel hp]
    exact h3
  have h5 : 0 < n / 10 ^ (len 10 n - 1) := Nat.div_pos h2 (Nat.pow_pos (by omega))
  show 48 + n / 10 ^ (len 10 n - 1) % 10 ≠ 48
  omega
/-- A digit of a group of nine. -/
theorem group_digit {n t k : Nat} (hk : k < 9) : n / 10 ^ (9 * t) % 1000000000 / 10 ^ k % 10 = n / 10 ^ (9 * t + k) % 10 := by
  rw [Nat.pow_add, ← Nat.div_div_eq_div_mul]
  generalize n / 10 ^ (9 * t) = M
  rcases (show k = 0 ∨ k = 1 ∨ k = 2 ∨ k = 3 ∨ k = 4 ∨ k = 5 ∨ k = 6 ∨ k = 7 ∨ k = 8 from by omega) with e | e | e | e | e | e | e | e | e <;> rw [e] <;> simp only [Nat.pow_zero, Nat.pow_one, Nat.reducePow] <;> omega

/-- How long a slice is. -/
def lenOf : Value → Nat | .slice _ n _ => n | _ => 0
theorem Own.len {w : World} {base : Nat} {E : TypeId} {k : IntKind} {v : Value} {L : List Nat} (h : Own w base E k v L) : lenOf v = L.length := by
  obtain ⟨_, h⟩ := h
  rcases h with ⟨rfl, hn⟩ | ⟨g, cap, cur, rfl, _⟩
  · rw [hn]; rfl
  · rfl
theorem Own.blk {w : World} {base : Nat} {E : TypeId} {k : IntKind} {v : Value} {L : List Nat} (h : Own w base E k v L) (hne : 0 < L.length) : ∃ g cap post, v = .slice (some ⟨g, 0, none⟩) L.length cap ∧ base ≤ g ∧ Blk w g E (cv k L ++ post) ∧ L.length ≤ cap := by
  obtain ⟨_, h⟩ := h
  rcases h with ⟨_, hn⟩ | ⟨g, cap, cur, rfl, hb, hg, hn, _, hsz, ht⟩
  · omega
  · refine ⟨g, cap, cur.toList.drop (L.length * 1), rfl, hb, ?_, hn⟩
    rw [← ht, List.take_append_drop]
    refine ⟨(0, 0), by rw [hg], fun j _ => ?_⟩
    unfold World.frozen?
    rw [hg]
    simp
/-- The string of a part of a block. -/
theorem run_str_mid {P : Program} {w : World} {g : Nat} {T E src dst : TypeId} {l : List Nat} {post : List Value} {pre : List Nat} (hB : Blk w g T (cv .u8 (pre ++ l) ++ post)) (off n c : Nat) (hoff : off = pre.length) (hn : n = l.length) (hs : P.underlying src = some (.slice E)) (he : P.underlying E = some (.int .u8)) (hd : P.underlying dst = some .string) :
    (convert src dst (.slice (some ⟨g, off, none⟩) n c)).run P w = .ok (.string (ofBts l)) w := by
  have h := run_convert_bytes_arg (P := P) w src E hs he g off n c (l.map fun (x : Nat) => (x : Int)) (by simp [hn]) (fun i hi => by
    have hil : i < l.length := by omega
    rw [hB.cell (v := .int .u8 (l.getD i 0 : Nat)) (by
      rw [pre_at (by rw [List.length_append]; omega), hoff]
      congr 3
      rw [List.getD_eq_getElem?_getD, List.getElem?_append_right (by omega), Nat.add_sub_cancel_left, ← List.getD_eq_getElem?_getD])]
    simp [hil]) dst hd
  rw [h]
  simp [strOfNums, ofBts, List.map_map, Function.comp_def]

theorem Own.grown {w w' : World} {base : Nat} {E : TypeId} {k : IntKind} {v : Value} {L : List Nat} {g : Nat} (h : Own w base E k v L) (hg : w.grownBy w' (some g)) (hb : g < base) : Own w' base E k v L := by
  refine World.ownsRow.kept (row := some g) h hg ?_
  cases hv : v.ownBlock with
  | none => exact .inl rfl
  | some b =>
    right
    intro e
    have := (World.ownsRow.lt h b hv).1
    injection e with e
    omega
theorem lenOf_own {w : World} {base : Nat} {E : TypeId} {k : IntKind} {v : Value} {n t : Nat} (h : Own w base E k v (tens t n)) : lenOf v = t := by rw [h.len, tens_length]
theorem fmt_next {M N t : Nat} (h : M = N / 10 ^ (9 * t)) : M / 1000000000 = N / 10 ^ (9 * (t + 1)) := by
  rw [h, Nat.mul_add, Nat.pow_add, Nat.div_div_eq_div_mul]
theorem fmt_more {t N : Nat} (h : 0 < N / 10 ^ (9 * t)) : 9 * t < len 10 N := by
  rcases Nat.lt_or_ge (9 * t) (len 10 N) with h1 | h1
  · exact h1
  · have := (len_le_iff (B := 10) (by omega) _ _).1 h1
    rw [Nat.div_eq_of_lt this] at h
    omega

set_option maxHeartbeats 2000000 in
theorem Format_any (a : ByteArray) (w : World) (ha : a.size ≤ 1073741824) :
    Calls Tryz.prog 124 #[.string a] w fun e w' => e = .returned (.string (dec (nat a))) ∧ Below w.heap.size w w' := by
  have la := lim_size a
  by_cases hz : nat a = 0
  · have hl : (lim (nat a)).length = 0 := by rw [hz]; rfl
    have h0 : (((lim (nat a)).length : Int) == 0) = true := by rw [hl]; rfl
    rw [show dec (nat a) = ⟨#[48]⟩ from by rw [hz]; rfl]
    clear hz hl
    go_enter Tryz.func124, Tryz.ntmps124
    go_wp2_with fail
    refine (limbs_any a _ (by omega)).mono ?_
    rintro e w1 ⟨g1, hg1, rfl, hB1, hb1⟩
    go_wp2_with fail
    go_ret
    exact ⟨rfl, hb1⟩
  · have hl : 0 < (lim (nat a)).length := List.length_pos_iff.2 (fun e => hz (lim_eq_nil.1 e))
    have h0 : (((lim (nat a)).length : Int) == 0) = false := beq_eq_false_iff_ne.2 (by omega)
    have h10 : len 10 (nat a) ≤ 3221225472 := by
      have : len 10 (nat a) ≤ 3 * a.size := by
        refine (len_le_iff (by omega) _ _).2 ?_
        have h1 := nat_lt a
        have h2 : 256 ^ a.size ≤ (10 ^ 3) ^ a.size := Nat.pow_le_pow_left (by omega) _
        rw [← Nat.pow_mul] at h2
        omega
      omega
    obtain ⟨N, hN⟩ : ∃ N, N = nat a := ⟨_, rfl⟩
    rw [← hN] at hl h0 hz h10 la ⊢
    have HN := Lib.hid hN
    have Hz := Lib.hid hz
    clear hN hz
    go_enter Tryz.func124, Tryz.ntmps124
    go_wp2_with fail
    refine (limbs_any a _ (by omega)).mono ?_
    rw [← HN.out]
    rintro e w1 ⟨g1, hg1, rfl, hB1, hb1⟩
    have l1 : g1 < w1.heap.size := hB1.lt
    go_wp2_with fail
    go_loopw [3, 4] (fun xv v wr => ∃ (t : Nat) (A : Option Addr) (c : Nat) (post : List Value), xv = .slice A (lim (N / 10 ^ (9 * t))).length c ∧ Win wr A g1 [] (lim (N / 10 ^ (9 * t))) post ∧ (lim (N / 10 ^ (9 * t))).length ≤ c ∧ 9 * t < len 10 N + 9 ∧ Own wr w1.heap.size 5 .u8 v (tens (9 * t) N) ∧ w1.heap.size ≤ wr.heap.size ∧ Below w.heap.size w wr) (fun _ v _ => len 10 N + 9 - lenOf v)
    case atStart => exact ⟨0, _, _, [], by rw [Nat.mul_zero, Nat.pow_zero, Nat.div_one], by rw [Nat.mul_zero, Nat.pow_zero, Nat.div_one]; exact Win.of_LB hB1, by rw [Nat.mul_zero, Nat.pow_zero, Nat.div_one]; exact Nat.le_refl _, by omega, Own.nil _ _ _ _, Nat.le_refl _, hb1⟩
    case round =>
      obtain ⟨t, A, c, post, rfl, hW, hc, ht, hown, hws, hbr⟩ := hrel
      obtain ⟨M, hM⟩ : ∃ M, M = N / 10 ^ (9 * t) := ⟨_, rfl⟩
      rw [← hM] at hW hc ⊢
      have hMN : M ≤ N := by rw [hM]; exact Nat.div_le_self _ _
      have hml : (lim M).length ≤ (lim N).length := by
        rw [lim_length, lim_length]
        exact len_mono (by omega) hMN
      by_cases hpos : 0 < M
      · have hlM : 0 < (lim M).length := List.length_pos_iff.2 (fun e => by have := lim_eq_nil.1 e; omega)
        have ht2 := fmt_more (t := t) (N := N) (by rw [← hM]; exact hpos)
        have hdl := divideByLimb_any A g1 [] (lim M) post c 1000000000 wr (by omega) (lim_lt _) (by omega) (by omega) hW
        have Hdl := Lib.hid hdl
        have HM := Lib.hid hM
        clear hdl hM hW
        have hlv := lenOf_own hown
        have Hlv := Lib.hid hlv
        clear hlv
        go_wp2_with fail
        refine Hdl.out.mono ?_
        rintro e w2 ⟨rfl, _, hM2, hg2, hA2⟩
        have hA : A = some ⟨g1, 0, none⟩ := hA2 (List.length_pos_iff.1 hlM)
        have hMB := hM2 (List.length_pos_iff.1 hlM)
        have hown2 := Own.grown hown hg2 l1
        have hbr2 : Below w.heap.size w w2 := hbr.grown hg2 hbr.size (fun k hk => by injection hk with hk; omega)
        rw [lval_lim] at hMB ⊢
        have hlt1 : lval (lims (lim M).length (M / 1000000000)) = M / 1000000000 := by
          rw [lval_lims, Nat.mod_eq_of_lt]
          have := lval_lt (lim_lt M)
          rw [lval_lim] at this
          omega
        have htr := trim_any A (lims (lim M).length (M / 1000000000)) c w2 (by rw [lims_length]; omega) (by rw [lims_length]; exact hc) (lims_lt _ _) (fun _ => ⟨g1, [], post, hA, hMB⟩)
        have hpad := (lim_pad (lims_lt (lim M).length (M / 1000000000))).2
        rw [hlt1, lims_length] at hpad
        rw [lims_length, hlt1] at htr
        have hMB2 : MB w2 g1 [] (lim (M / 1000000000)) (cv .u32 (List.replicate ((lim M).length - llen (M / 1000000000)) 0) ++ post) := by
          unfold MB at hMB ⊢
          rw [hpad, cv_append] at hMB
          simpa using hMB
        have Htr := Lib.hid htr
        have HA := Lib.hid hA
        clear htr hpad hlt1 hMB hM2 hA hown hbr
        go_wp2_with fail
        refine Htr.out.mono ?_
        rintro e w3 ⟨A', c', rfl, hA', hc', rfl⟩
        have hW2 : Win w2 A' g1 [] (lim (M / 1000000000)) (cv .u32 (List.replicate ((lim M).length - llen (M / 1000000000)) 0) ++ post) := fun h => ⟨by rw [hA' h, HA.out]; rfl, hMB2⟩
        clear hA' hMB2
        go_wp2_with fail
        have hws2 : w1.heap.size ≤ w2.heap.size := Nat.le_trans hws hg2.size
        have hr0 : Value.int .u32 ((M % 1000000000 : Nat) : Int) = .int .u32 ((M % 1000000000 / 10 ^ 0 : Nat) : Int) := by rw [Nat.pow_zero, Nat.div_one]
        have Hr0 := Lib.hid hr0
        clear hr0
        go_loopw [4, 5, 19] (fun v gr i wr => ∃ k : Nat, k ≤ 9 ∧ i = .int .i64 k ∧ gr = .int .u32 (M % 1000000000 / 10 ^ k : Nat) ∧ Own wr w1.heap.size 5 .u8 v (tens (9 * t + k) N) ∧ Below w1.heap.size w2 wr) (fun _ _ i _ => 9 - (intOf i).toNat)
        case atStart => exact ⟨0, Nat.zero_le _, rfl, Hr0.out, hown2, Below.refl _ _⟩
        case round =>
          obtain ⟨k, hk, rfl, rfl, hown3, hb3⟩ := hrel
          have hws3 : w1.heap.size ≤ _ := Nat.le_trans hws2 hb3.size
          by_cases hk9 : k < 9
          · have hts := tens_succ (9 * t + k) N
            rw [← group_digit hk9, ← HM.out] at hts
            have hq : M % 1000000000 / 10 ^ (k + 1) = M % 1000000000 / 10 ^ k / 10 := by rw [Nat.pow_succ, ← Nat.div_div_eq_div_mul]
            have hgl : M % 1000000000 / 10 ^ k < 1000000000 := Nat.lt_of_le_of_lt (Nat.div_le_self _ _) (Nat.mod_lt _ (by omega))
            have hll : (tens (9 * t + k) N).length ≤ 17179869184 := by rw [tens_length]; omega
            have Hts := Lib.hid hts
            have Hq := Lib.hid hq
            clear hts hq hown2
            generalize M % 1000000000 / 10 ^ k = G at hgl Hts Hq ⊢
            go_wp2_with (at_builtin; refine wpList_push _ rfl _ _ 103 rfl w1.heap.size 5 .u8 1 Tryz.underlying103 row_u8 _ (tens (9 * t + k) N) rfl (hown3.alloc _) ⟨_, 0, none⟩ 1 rfl (48 + G % 10) (((Blk.new _ _ _).cell (j := 0) rfl).trans (congrArg some (by go_num))) hll (by omega) (by simp; omega) ?_; intro v2 w4 hown4 _ hb4)
            go_roundw
            case rel => exact ⟨k + 1, by omega, by go_num, by rw [Hq.out]; go_num, by rw [← Nat.add_assoc, Hts.out]; exact hown4, (hb3.alloc hws3 _).trans hb4⟩
            case measure => simp [intOf]; omega
          · obtain rfl : k = 9 := by omega
            go_wp2
            go_roundw
            case rel => exact ⟨t + 1, A', c', _, by rw [fmt_next HM.out], by rw [← fmt_next HM.out]; exact fun h => ⟨(hW2 h).1, Blk.below (hW2 h).2 hb3 l1⟩, by rw [← fmt_next HM.out]; exact hc', by omega, hown3, hws3, hbr2.trans (hb3.mono hb1.size)⟩
            case measure => rw [Hlv.out, lenOf_own hown3]; omega
      · obtain rfl : M = 0 := by omega
        have hK : N < 10 ^ (9 * t) := by
          rcases Nat.div_eq_zero_iff.1 hM.symm with h | h
          · have := Nat.pow_pos (n := 9 * t) (show 0 < 10 by omega)
            omega
          · exact h
        obtain ⟨hrev, hlen, hdl, hd0⟩ := tens_rev Hz.out hK
        have hlen1 : 0 < len 10 N := by rw [len_pos (by omega) Hz.out]; omega
        obtain ⟨g, cap, post2, rfl, hg, hB, hcap⟩ := hown.blk (by rw [tens_length]; omega)
        rw [tens_length] at hcap ⊢
        have hRev := Reverse_any g 5 (tens (9 * t) N) post2 (9 * t) cap wr (tens_length _ _).symm (by rw [tens_length]; omega) hB
        have HRev := Lib.hid hRev
        have Hrev := Lib.hid hrev
        have Hdl := Lib.hid hdl
        have Hd0 := Lib.hid hd0
        have hx0 : (((lim 0).length : Int) > 0) = False := by simp [lim_zero]
        clear hRev hrev hdl hd0 hM hW hc hown hB hK
        rw [show (lim 0).length = 0 from rfl]
        go_wp2_with fail
        refine HRev.out.mono ?_
        rintro e w2 ⟨rfl, hB2, hg2⟩
        rw [Hrev.out] at hB2
        have hb2 : Below w.heap.size w w2 := hbr.grown hg2 hbr.size (fun k hk => by injection hk with hk; have := hb1.size; omega)
        have hidx := fun F hF => IndexFunc_any g 5 (List.replicate (9 * t - len 10 N) 48 ++ decs N) post2 (9 * t) cap (9 * t - len 10 N) F w2 hF (by rw [List.length_append, List.length_replicate, Hdl.out]; omega) (by rw [List.length_append, List.length_replicate, Hdl.out]; omega) hB2 (by rw [List.length_append, List.length_replicate, Hdl.out]; omega) (fun j hj => by rw [List.getD_eq_getElem?_getD, List.getElem?_append_left (by rw [List.length_replicate]; exact hj), List.getElem?_replicate, if_pos hj]; rfl) (by rw [List.getD_eq_getElem?_getD, List.getElem?_append_right (by rw [List.length_replicate]; exact Nat.le_refl _), List.length_replicate, Nat.sub_self, ← List.getD_eq_getElem?_getD]; exact Hd0.out)
        have Hidx := Lib.hid hidx
        clear hidx
        go_wp2_with fail
        refine (Hidx.out _ rfl).mono ?_
        rintro e w3 ⟨rfl, hb3⟩
        obtain ⟨f, hf⟩ : ∃ f, f = 9 * t - len 10 N := ⟨_, rfl⟩
        rw [← hf] at hB2 ⊢
        have hft : f ≤ 9 * t := by omega
        have hfc : f < cap := by omega
        have hst := run_str_mid (P := Tryz.prog) (src := 103) (dst := 9) (hB2.keep hb3) f (9 * t - f) (cap - f) (by rw [List.length_replicate]) (by rw [Hdl.out]; omega) Tryz.underlying103 Tryz.underlying5 Tryz.underlying9
        clear hf hB2 hlen
        go_wp2
        go_ret
        exact ⟨rfl, hb2.trans (hb3.mono hb2.size)⟩
end Go.Proofs.YtpmfaommooneiaaGreatDoor

/- nat.gcdOfWords, and nat.Gcd where both numbers fit into a word. -/
namespace Go.Proofs.YtpmfaommooneiaaGreatDoor
open Go.RowKit NM

theorem gcd_less {p q : Nat} (h : 0 < q) : (intOf (.int .u64 ((p : Int) % (q : Int)))).toNat < (intOf (.int .u64 (q : Int))).toNat := by
  have h1 := Nat.mod_lt p h
  have e : (p : Int) % (q : Int) = ((p % q : Nat) : Int) := rfl
  rw [e]
  generalize p % q = r at h1
  simp [intOf]
  exact h1
theorem ret_u64 {a b : Nat} (h : a = b) : Ending.returned (.int .u64 (a : Int)) = .returned (.int .u64 (b : Int)) := by rw [h]

set_option maxHeartbeats 400000 in
theorem gcdOfWords_any (m n : Nat) (w : World) (hm : m < 18446744073709551616) (hn : n < 18446744073709551616) :
    Calls Tryz.prog 160 #[.int .u64 (m : Int), .int .u64 (n : Int)] w fun e w' => e = .returned (.int .u64 (Nat.gcd m n : Nat)) ∧ Below w.heap.size w w' := by
  have Hm := Lib.hid hm
  have Hn := Lib.hid hn
  clear hm hn
  go_enter Tryz.func160, Tryz.ntmps160
  go_wp2
  go_loopw [0, 1] (fun x y wr => ∃ p q : Nat, x = .int .u64 p ∧ y = .int .u64 q ∧ p < 18446744073709551616 ∧ q < 18446744073709551616 ∧ Nat.gcd p q = Nat.gcd m n ∧ Below w.heap.size w wr) (fun _ y _ => (intOf y).toNat)
  case atStart => exact ⟨m, n, rfl, rfl, Hm.out, Hn.out, rfl, Below.refl _ _⟩
  case round =>
    obtain ⟨p, q, rfl, rfl, hp, hq, hg, hb⟩ := hrel
    have Hg := Lib.hid hg
    clear hg
    by_cases hz : q = 0
    · subst hz
      go_wp2
      go_ret
      exact ⟨ret_u64 (by rw [← Hg.out, Nat.gcd_zero_right]), hb⟩
    · have hq0 : ((q : Int) != 0) = true := by simp; omega
      have hpos : 0 < q := Nat.pos_of_ne_zero hz
      clear hz
      go_wp2
      go_quiet (fail)
      go_wp2
      go_roundw
      case rel => exact ⟨q, p % q, rfl, rfl, hq, by have := Nat.mod_lt p hpos; omega, by rw [← Hg.out, Nat.gcd_comm q, ← Nat.gcd_rec, Nat.gcd_comm], below_drewN hb _⟩
      case measure => exact gcd_less hpos

theorem gcd_lt {m n B : Nat} (hm : m < B) (hn : n < B) : Nat.gcd m n < B := by
  rcases Nat.eq_zero_or_pos m with h | h
  · rw [h, Nat.gcd_zero_left]
    exact hn
  · exact Nat.lt_of_le_of_lt (Nat.gcd_le_left n h) hm

set_option maxHeartbeats 400000 in
theorem Gcd_word (a b : ByteArray) (w : World) (ha : a.size ≤ maxLen) (hb : b.size ≤ maxLen) (h1 : nat a < 18446744073709551616) (h2 : nat b < 18446744073709551616) :
    Calls Tryz.prog 131 #[.string a, .string b] w fun e w' => e = .returned (.string (can (Nat.gcd (nat a) (nat b)))) ∧ Below w.heap.size w w' := by
  have Hg := Lib.hid (gcd_lt h1 h2)
  have H1 := Lib.hid h1
  have H2 := Lib.hid h2
  clear h1 h2
  go_enter Tryz.func131, Tryz.ntmps131
  go_wp2_with fail
  refine (Uint64_any a _ ha).mono ?_
  rintro e w1 ⟨rfl, rfl⟩
  rw [u64Val_lt H1.out]
  go_wp2_with fail
  refine (Uint64_any b _ hb).mono ?_
  rintro e w1 ⟨rfl, rfl⟩
  rw [u64Val_lt H2.out]
  go_wp2_with fail
  refine (gcdOfWords_any _ _ _ H1.out H2.out).mono ?_
  rintro e w1 ⟨rfl, hb1⟩
  go_wp2_with fail
  refine (FromUint64_any _ _ Hg.out).mono ?_
  rintro e w2 ⟨rfl, hb2⟩
  go_wp2_with fail
  go_ret
  exact ⟨rfl, hb1.trans (hb2.mono hb1.size)⟩
end Go.Proofs.YtpmfaommooneiaaGreatDoor

/- voussoirlaw01.natAlive returns true. -/
namespace Go.Proofs.YtpmfaommooneiaaGreatDoor
open Go.RowKit NM

/-- One call behind another. -/
theorem then_ {a b c : World} (h : Below a.heap.size a b) (k : Below b.heap.size b c) : Below a.heap.size a c := Below.trans h (Below.mono k h.size)

end Go.Proofs.YtpmfaommooneiaaGreatDoor

/- voussoirlaw01.wide: whether some string is longer than 40 bytes. -/
namespace Go.Proofs.YtpmfaommooneiaaGreatDoor
open Go.RowKit

end Go.Proofs.YtpmfaommooneiaaGreatDoor

/- The walks of voussoirlaw01.NatMuls, NatDivides, NatRing. -/
namespace Go.Proofs.YtpmfaommooneiaaGreatDoor
open Go.RowKit NM

attribute [local go_sem] nat_can
end Go.Proofs.YtpmfaommooneiaaGreatDoor

/- nat.multiplyAdd, nat.Parse, voussoirref01.Parse, voussoirref01.Text. -/
namespace Go.Proofs.YtpmfaommooneiaaGreatDoor
open Go.RowKit NM

theorem Own.form {w : World} {base : Nat} {E : TypeId} {k : IntKind} {v : Value} {L : List Nat} (h : Own w base E k v L) : ∃ A c, v = .slice A L.length c ∧ (L ≠ [] → ∃ g, A = some ⟨g, 0, none⟩ ∧ base ≤ g) := by
  obtain ⟨_, h⟩ := h
  rcases h with ⟨rfl, hn⟩ | ⟨g, cap, cur, rfl, hb, _⟩
  · refine ⟨none, 0, by rw [hn], fun h => ?_⟩
    exact absurd (List.eq_nil_of_length_eq_zero hn) h
  · exact ⟨some ⟨g, 0, none⟩, cap, rfl, fun _ => ⟨g, rfl, hb⟩⟩
theorem Own.at_ {w : World} {base : Nat} {E : TypeId} {k : IntKind} {L : List Nat} {g n c j : Nat} (h : Own w base E k (.slice (some ⟨g, 0, none⟩) n c) L) (hn : n = L.length) (hj : j < L.length) : w.cell? ⟨g, j, none⟩ = some (.int k (L.getD j 0 : Nat)) := by
  subst hn
  have := World.ownsRow.cellAt h j (by omega)
  rw [this, cv_getElem? _ _ _ hj]
theorem Own.free {w : World} {base : Nat} {E : TypeId} {k : IntKind} {L : List Nat} {g n c : Nat} (h : Own w base E k (.slice (some ⟨g, 0, none⟩) n c) L) (hn : n = L.length) (j : Nat) : w.frozen? ⟨g, j, none⟩ = false := by
  subst hn
  exact World.ownsRow.frozenAt h j
theorem Own.set {w : World} {base : Nat} {E : TypeId} {k : IntKind} {L : List Nat} {g n c : Nat} (h : Own w base E k (.slice (some ⟨g, 0, none⟩) n c) L) (hn : n = L.length) (j : Nat) {v : Value} {d : Nat} (hv : v = .int k (d : Int)) : Own (w.setCell ⟨g, j, none⟩ v) base E k (.slice (some ⟨g, 0, none⟩) n c) (L.set j d) := by
  subst hn hv
  have := (World.ownsRow.stored h j (.int k (d : Int))).1
  rw [cv_set] at this
  unfold Own
  rw [List.length_set]
  exact this
theorem Own.rd {w : World} {base : Nat} {A : Option Addr} {n c : Nat} {L : List Nat} (h : Own w base 142 .u32 (.slice A n c) L) (_hn : n = L.length) : Rd w A L := by
  intro hne
  obtain ⟨g, cap, post, e, _, hB, _⟩ := h.blk (List.length_pos_iff.2 hne)
  injection e with e1 e2 e3
  exact ⟨g, [], post, e1, by rw [List.nil_append]; exact hB⟩

/-- What multiplyAdd leaves: a slice of the call's own with value N. -/
def MulAddPost (base : Nat) (n N : Nat) (w : World) (e : Ending) (w' : World) : Prop := ∃ v X', e = .returned v ∧ Own w' base 142 .u32 v X' ∧ llt X' ∧ lval X' = N ∧ X'.length ≤ n + 1 ∧ Below base w w'

theorem muladd_step {L X : List Nat} {k f s c d c' x : Nat} (hL : L.length = k) (hx : x = X.getD k 0) (hv : lval L + lpow k * c = f * lval (X.take k) + s) (h : d + 4294967296 * c' = c + x * f) :
    lval (L ++ [d]) + lpow (k + 1) * c' = f * lval (X.take (k + 1)) + s := by
  rw [lval_snoc, lval_take_succ, hL, lpow_succ, Nat.mul_add f, Nat.mul_assoc, ← hx]
  have e : lpow k * (d + 4294967296 * c') = lpow k * (c + x * f) := by rw [h]
  rw [Nat.mul_add, Nat.mul_add] at e
  have e2 : f * (lpow k * x) = lpow k * (x * f) := by rw [Nat.mul_left_comm, Nat.mul_comm f]
  rw [e2]
  omega

set_option maxHeartbeats 1000000 in
theorem multiplyAdd_any (base : Nat) (v : Value) (X : List Nat) (f s : Nat) (w : World) (hX : llt X) (hXl : X.length ≤ 4294967296) (hf : f < 4294967296) (hs : s < 4294967296) (hown : Own w base 142 .u32 v X) (hbase : base ≤ w.heap.size) :
    Calls Tryz.prog 148 #[v, .int .u32 (f : Int), .int .u32 (s : Int)] w (MulAddPost base X.length (f * lval X + s) w) := by
  obtain ⟨A, c, rfl, hA⟩ := hown.form
  go_enter Tryz.func148, Tryz.ntmps148
  go_wp2
  go_loopw [7, 13] (fun cy i wr => ∃ (k : Nat) (L : List Nat) (r : Nat), k ≤ X.length ∧ i = .int .i64 k ∧ cy = .int .u64 r ∧ r < 4294967296 ∧ L.length = k ∧ llt L ∧ lval L + lpow k * r = f * lval (X.take k) + s ∧ Own wr base 142 .u32 (.slice A X.length c) (L ++ X.drop k) ∧ base ≤ wr.heap.size ∧ Below base w wr) (fun _ i _ => X.length - (intOf i).toNat)
  case atStart => exact ⟨0, [], s, Nat.zero_le _, rfl, rfl, hs, rfl, llt_nil, by rw [List.take_zero, lval_nil, Nat.mul_zero, lpow_zero]; omega, hown, hbase, Below.refl _ _⟩
  case round =>
    obtain ⟨k, L, r, hk, rfl, rfl, hr, hLk, hLl, hv, ho, hbs, hb⟩ := hrel
    have HLk := Lib.hid hLk
    have Hv := Lib.hid hv
    have hal := app_len hLk hk
    by_cases hlt : k < X.length
    · obtain ⟨g, rfl, hg⟩ := hA (ne_nil_of hlt)
      have hxc := ho.at_ (j := k) hal.symm (by omega)
      have hxf := ho.free hal.symm k
      rw [app_at hLk] at hxc
      have hx1 := llt_getD hX k
      obtain ⟨x, hx⟩ : ∃ x, x = X.getD k 0 := ⟨_, rfl⟩
      rw [← hx] at hxc hx1
      have hpb := mul_bound hx1 hf
      obtain ⟨p, hp⟩ : ∃ p, p = x * f := ⟨_, rfl⟩
      rw [← hp] at hpb
      have hpe : (x : Int) * (f : Int) = (p : Int) := by rw [hp]; simp
      have Hp := Lib.hid hp
      have Hx := Lib.hid hx
      have Hal := Lib.hid hal
      clear hLk hv hp hx hal hA
      go_wp2
      go_roundw
      case rel => exact ⟨k + 1, L ++ [(r + p) % 4294967296], (r + p) / 4294967296, by omega, by go_num, by go_num, by omega, by rw [List.length_append, HLk.out]; rfl, llt_snoc hLl (by omega), muladd_step HLk.out Hx.out Hv.out (by rw [← Hp.out]; omega), by rw [← app_set HLk.out hlt]; exact ho.set Hal.out.symm k (by go_num), by simpa [World.setCell] using hbs, hb.setCell hg _⟩
      case measure => simp [intOf]; omega
    · obtain rfl : k = X.length := by omega
      have hd : L ++ X.drop X.length = L := by rw [List.drop_of_length_le (Nat.le_refl _), List.append_nil]
      rw [hd] at ho
      rw [List.take_of_length_le (Nat.le_refl _)] at hv
      have Hv2 := Lib.hid hv
      have hll : L.length ≤ 17179869184 := by omega
      clear hv hal hd Hv
      by_cases hr0 : r = 0
      · subst hr0
        clear hLk
        go_wp2
        go_ret
        exact ⟨_, L, rfl, ho, hLl, by have := Hv2.out; rw [Nat.mul_zero, Nat.add_zero] at this; exact this, by rw [HLk.out]; omega, hb⟩
      · have hrb : ((r : Int) == 0) = false := beq_eq_false_iff_ne.2 (by omega)
        clear hLk
        go_wp2_with (at_builtin; refine wpList_push _ rfl _ _ 133 rfl base 142 .u32 4 Tryz.underlying133 row_u32 _ L rfl (ho.alloc _) ⟨_, 0, none⟩ 1 rfl r (((Blk.new _ _ _).cell (j := 0) rfl).trans (congrArg some (by go_num))) hll (by omega) (by simp; omega) ?_; intro v2 w2 ho2 _ hb2)
        go_ret
        exact ⟨v2, L ++ [r], rfl, ho2, llt_snoc hLl hr, by rw [lval_snoc, HLk.out]; exact Hv2.out, by rw [List.length_append, HLk.out]; exact Nat.le_refl _, (hb.alloc hbs _).trans hb2⟩

/-- The value of a list of decimal digits. -/
def decVal (l : List Nat) : Nat := l.foldl (fun v d => 10 * v + (d - 48)) 0
theorem decVal_snoc (l : List Nat) (d : Nat) : decVal (l ++ [d]) = 10 * decVal l + (d - 48) := by unfold decVal; rw [List.foldl_append]; rfl
theorem decVal_take {l : List Nat} {k : Nat} (h : k < l.length) : decVal (l.take (k + 1)) = 10 * decVal (l.take k) + (l.getD k 0 - 48) := by
  rw [List.take_succ_eq_append_getElem h, decVal_snoc, List.getD_eq_getElem?_getD, List.getElem?_eq_getElem h]
  rfl
/-- Every byte is a decimal digit. -/
def Digits (s : ByteArray) : Prop := ∀ j, j < s.size → 48 ≤ (bts s).getD j 0 ∧ (bts s).getD j 0 ≤ 57
/-- The strings that Parse accepts. -/
def Decimal (s : ByteArray) : Prop := s.size ≠ 0 ∧ Digits s ∧ ((bts s).getD 0 0 ≠ 48 ∨ s.size = 1)
noncomputable def parseS (s : ByteArray) : ByteArray := @ite _ (Decimal s) (Classical.propDecidable _) (can (decVal (bts s))) ⟨#[]⟩
noncomputable def parseB (s : ByteArray) : Bool := @decide (Decimal s) (Classical.propDecidable _)
noncomputable def parseVal (s : ByteArray) : Value := .tuple #[.string (parseS s), .bool (parseB s)]
theorem parseVal_yes {s : ByteArray} (h : Decimal s) : parseVal s = .tuple #[.string (can (decVal (bts s))), .bool true] := by
  unfold parseVal parseS parseB
  rw [@if_pos _ (Classical.propDecidable _) h, @decide_eq_true _ (Classical.propDecidable _) h]
theorem parseVal_no {s : ByteArray} (h : ¬ Decimal s) : parseVal s = .tuple #[.string ⟨#[]⟩, .bool false] := by
  unfold parseVal parseS parseB
  rw [@if_neg _ (Classical.propDecidable _) h, @decide_eq_false _ (Classical.propDecidable _) h]

/-- How many digits of the group have been read when k of n digits have. -/
def grp (n k : Nat) : Nat := (9 - (n - k) % 9) % 9
theorem grp_le (n k : Nat) : grp n k ≤ 8 := by unfold grp; omega
theorem grp_next {n k : Nat} (hk : k < n) (h : ¬ (n - 1 - k) % 9 = 0) : grp n (k + 1) = grp n k + 1 := by unfold grp; omega
theorem grp_end {n k : Nat} (hk : k < n) (h : (n - 1 - k) % 9 = 0) : grp n k = 8 ∧ grp n (k + 1) = 0 := by unfold grp; omega
theorem grp_n (n : Nat) : grp n n = 0 := by unfold grp; omega
theorem ten_pow_le {e : Nat} (h : e ≤ 8) : 10 ^ e ≤ 100000000 := Nat.pow_le_pow_right (n := 10) (by omega) h

theorem isEmpty_str {s : ByteArray} : s.toList.isEmpty = decide (s.size = 0) := by
  rw [ByteArray.toList_eq, ← bts_length]
  unfold bts
  cases s.data.toList with
  | nil => rfl
  | cons x l => rfl
theorem beq_zero {s : ByteArray} (h : 0 < s.size) (h48 : s[0].toNat = 48) : (s.toList == [48]) = decide (s.size = 1) := by
  have hb := bts_getD s 0 h
  rw [ByteArray.toList_eq, ← bts_length]
  unfold bts at hb ⊢
  cases hl : s.data.toList with
  | nil =>
    have := bts_length s
    unfold bts at this
    rw [hl] at this
    simp at this
    omega
  | cons x l =>
    rw [hl, h48] at hb
    have hx : x = 48 := UInt8.toNat_inj.1 (by simpa using hb)
    subst hx
    cases l with
    | nil => rfl
    | cons y l => simp

theorem parse_no {s : ByteArray} (h : ¬ Decimal s) : Ending.returned (.tuple #[.string ⟨#[]⟩, .bool false]) = .returned (parseVal s) := by rw [parseVal_no h]
theorem parse_bad {s : ByteArray} {k : Nat} (hk : k < s.size) (hd : s[k].toNat < 48 ∨ 57 < s[k].toNat) : ¬ Decimal s := fun h => by
  have := h.2.1 k hk
  rw [bts_getD s k hk] at this
  omega
theorem parse_val {s : ByteArray} {k G e : Nat} {X : List Nat} (hk : k < s.size) (hd : 48 ≤ s[k].toNat) (hv : decVal ((bts s).take k) = lval X * 10 ^ e + G) : decVal ((bts s).take (k + 1)) = lval X * 10 ^ (e + 1) + (G * 10 + (s[k].toNat - 48)) := by
  have := hd
  rw [decVal_take (by rw [bts_length]; exact hk), hv, bts_getD s k hk, Nat.pow_succ, ← Nat.mul_assoc]
  omega

theorem parse_fin {s : ByteArray} {G v : Nat} (hpos : 0 < s.size) (hd : ∀ j, j < s.size → 48 ≤ (bts s).getD j 0 ∧ (bts s).getD j 0 ≤ 57) (hg : (bts s).getD 0 0 ≠ 48 ∨ s.size = 1) (hv : decVal ((bts s).take s.size) = v * 10 ^ grp s.size s.size + G) (hG : G < 10 ^ grp s.size s.size) :
    Ending.returned (.tuple #[.string (can v), .bool true]) = .returned (parseVal s) := by
  rw [grp_n, Nat.pow_zero] at hv hG
  rw [List.take_of_length_le (by rw [bts_length]; exact Nat.le_refl _)] at hv
  rw [parseVal_yes ⟨by omega, hd, hg⟩, hv]
  congr 3
  rw [show G = 0 from by omega, Nat.mul_one, Nat.add_zero]

set_option maxHeartbeats 4000000 in
theorem Parse_any (s : ByteArray) (w : World) (hs : s.size ≤ 4294967296) :
    Calls Tryz.prog 122 #[.string s] w fun e w' => e = .returned (parseVal s) ∧ Below w.heap.size w w' := by
  by_cases h0 : s.size = 0
  · rw [parseVal_no (fun h => h.1 h0)]
    have he : s.toList.isEmpty = true := by rw [isEmpty_str, decide_eq_true h0]
    clear h0
    go_enter Tryz.func122, Tryz.ntmps122
    go_wp2
    go_ret2
    exact ⟨rfl, Below.refl _ _⟩
  · have hpos : 0 < s.size := Nat.pos_of_ne_zero h0
    have he : s.toList.isEmpty = false := by rw [isEmpty_str, decide_eq_false h0]
    have hb0 := bts_getD s 0 hpos
    by_cases hbad : s[0].toNat = 48 ∧ s.size ≠ 1
    · obtain ⟨h48, h1⟩ := hbad
      have hno : ¬ Decimal s := fun h => by
        rcases h.2.2 with h | h
        · exact h (by rw [hb0]; exact h48)
        · exact h1 h
      rw [parseVal_no hno]
      have h48' : ((s[0].toNat : Int) == 48) = true := by rw [h48]; rfl
      have hz : (s.toList == [48]) = false := by rw [beq_zero hpos h48, decide_eq_false h1]
      clear h0 hb0 h48 hno h1
      go_enter Tryz.func122, Tryz.ntmps122
      go_wp2
      go_ret2
      exact ⟨rfl, Below.refl _ _⟩
    · have hgood : (bts s).getD 0 0 ≠ 48 ∨ s.size = 1 := by rw [hb0]; omega
      have hcase : ((s[0].toNat : Int) == 48) = false ∨ (((s[0].toNat : Int) == 48) = true ∧ (s.toList == [48]) = true) := by
        by_cases h48 : s[0].toNat = 48
        · right
          exact ⟨by rw [h48]; rfl, by rw [beq_zero hpos h48, decide_eq_true (by omega)]⟩
        · left
          exact beq_eq_false_iff_ne.2 (by omega)
      have Hgood := Lib.hid hgood
      have Hpos := Lib.hid hpos
      clear hgood hb0 hbad h0
      rcases hcase with h1 | ⟨h1, h2⟩
      all_goals
        go_enter Tryz.func122, Tryz.ntmps122
        go_wp2
        go_loopw [4, 5, 20] (fun x gr i wr => ∃ (k G : Nat) (X : List Nat), k ≤ s.size ∧ i = .int .i64 k ∧ gr = .int .u32 G ∧ G < 10 ^ grp s.size k ∧ (∀ j, j < k → 48 ≤ (bts s).getD j 0 ∧ (bts s).getD j 0 ≤ 57) ∧ decVal ((bts s).take k) = lval X * 10 ^ grp s.size k + G ∧ Own wr w.heap.size 142 .u32 x X ∧ llt X ∧ X.length ≤ k ∧ w.heap.size ≤ wr.heap.size ∧ Below w.heap.size w wr) (fun _ _ i _ => s.size - (intOf i).toNat)
        case atStart => exact ⟨0, 0, [], Nat.zero_le _, rfl, rfl, Nat.pow_pos (by omega), fun j hj => by omega, by rw [List.take_zero, lval_nil, Nat.zero_mul]; rfl, Own.nil _ _ _ _, llt_nil, Nat.le_refl _, Nat.le_refl _, Below.refl _ _⟩
        case round =>
          obtain ⟨k, G, X, hk, rfl, rfl, hG, hdg, hv, hown, hXl, hXk, hbs, hb⟩ := hrel
          have Hdg := Lib.hid hdg
          have Hv := Lib.hid hv
          have HG := Lib.hid hG
          have hG8 : G < 100000000 := by have := ten_pow_le (grp_le s.size k); omega
          clear hdg hv hG
          by_cases hlt : k < s.size
          · have hbd := UInt8.toNat_lt s[k]
            by_cases hlo : s[k].toNat < 48
            · go_wp2
              go_ret2
              exact ⟨parse_no (parse_bad hlt (.inl hlo)), hb⟩
            · by_cases hhi : 57 < s[k].toNat
              · go_wp2
                go_ret2
                exact ⟨parse_no (parse_bad hlt (.inr hhi)), hb⟩
              · obtain ⟨m, hm⟩ : ∃ m, m = s.size - 1 - k := ⟨_, rfl⟩
                have em : (s.size : Int) - 1 - (k : Int) = (m : Int) := by omega
                have Hm := Lib.hid hm
                clear hm
                have hdg' : ∀ j, j < k + 1 → 48 ≤ (bts s).getD j 0 ∧ (bts s).getD j 0 ≤ 57 := fun j hj => by
                  rcases Nat.lt_or_ge j k with h | h
                  · exact Hdg.out j h
                  · obtain rfl : j = k := by omega
                    rw [bts_getD s j hlt]
                    omega
                have Hdg' := Lib.hid hdg'
                have hv' := parse_val hlt (by omega) Hv.out
                have Hv' := Lib.hid hv'
                clear hdg' hv'
                by_cases h9 : m % 9 = 0
                · have h9' : ((m : Int) % 9 == 0) = true := beq_iff_eq.2 (by omega)
                  have hge := grp_end hlt (by rw [← Hm.out]; exact h9)
                  have Hge := Lib.hid hge
                  have H9 := Lib.hid h9
                  clear hge h9
                  go_wp2_with fail
                  rw [show (G : Int) * 10 + ((s[k].toNat : Int) - 48) = ((G * 10 + (s[k].toNat - 48) : Nat) : Int) from by omega]
                  refine (multiplyAdd_any w.heap.size _ X 1000000000 (G * 10 + (s[k].toNat - 48)) _ hXl (by omega) (by omega) (by omega) hown hbs).mono ?_
                  rintro e w2 ⟨v2, X2, rfl, hown2, hX2, hXv, hXl2, hb2⟩
                  have hws2 : w.heap.size ≤ w2.heap.size := Nat.le_trans hbs hb2.size
                  have HXv := Lib.hid hXv
                  clear hXv
                  go_wp2_with fail
                  go_roundw
                  case rel => exact ⟨k + 1, 0, X2, by omega, by go_num, rfl, Nat.pow_pos (by omega), Hdg'.out, by rw [Hv'.out, HXv.out, Hge.out.1, Hge.out.2]; omega, hown2, hX2, by omega, hws2, hb.trans hb2⟩
                  case measure => simp [intOf]; omega
                · have h9' : ((m : Int) % 9 == 0) = false := beq_eq_false_iff_ne.2 (by omega)
                  have hge := grp_next hlt (by rw [← Hm.out]; exact h9)
                  have Hge := Lib.hid hge
                  have H9 := Lib.hid h9
                  clear hge h9
                  go_wp2_with fail
                  go_roundw
                  case rel => exact ⟨k + 1, G * 10 + (s[k].toNat - 48), X, by omega, by go_num, by go_num, by rw [Hge.out, Nat.pow_succ]; have := HG.out; omega, Hdg'.out, by rw [Hv'.out, Hge.out], hown, hXl, by omega, hbs, hb⟩
                  case measure => simp [intOf]; omega
          · obtain rfl : k = s.size := by omega
            have hfin := parse_fin Hpos.out Hdg.out Hgood.out Hv.out HG.out
            have Hfin := Lib.hid hfin
            clear hfin
            have hrd := hown
            obtain ⟨A, c, hAc, hA⟩ := hown.form
            rw [hAc] at hrd ⊢
            clear hAc hA
            go_wp2_with fail
            refine (magnitude_any A X c _ (by omega) hXl (Own.rd hrd rfl)).mono ?_
            rintro e w2 ⟨rfl, hb2⟩
            go_wp2_with fail
            go_ret2
            exact ⟨Hfin.out, hb.trans (hb2.mono hbs)⟩
end Go.Proofs.YtpmfaommooneiaaGreatDoor

/- Decimal strings and numbers: each is the other's inverse. -/
namespace Go.Proofs.YtpmfaommooneiaaGreatDoor
open Go.RowKit NM

theorem decVal_rev (l : List Nat) : decVal ((l.map (48 + ·)).reverse) = val 10 l := by
  induction l with
  | nil => rfl
  | cons d t ih =>
    rw [List.map_cons, List.reverse_cons, decVal_snoc, ih]
    show 10 * val 10 t + (48 + d - 48) = d + 10 * val 10 t
    omega
theorem decVal_decs (n : Nat) : decVal (decs n) = n := by
  unfold decs
  by_cases h : n = 0
  · subst h
    rfl
  · rw [if_neg h, decVal_rev, val_dig (by omega)]
theorem decs_mem {n x : Nat} (hx : x ∈ decs n) : 48 ≤ x ∧ x ≤ 57 := by
  unfold decs at hx
  by_cases h : n = 0
  · rw [if_pos h] at hx
    simp at hx
    omega
  · rw [if_neg h, List.mem_reverse, List.mem_map] at hx
    obtain ⟨y, hy, rfl⟩ := hx
    have := dig_lt (B := 10) (by omega) n y hy
    omega
theorem bts_dec (n : Nat) : bts (dec n) = decs n := bts_ofBts (fun x hx => by have := decs_mem hx; omega)
theorem dec_decimal (n : Nat) : Decimal (dec n) := by
  by_cases h : n = 0
  · subst h
    refine ⟨by decide +kernel, ?_, .inr (by decide +kernel)⟩
    intro j hj
    have h1 : (dec 0).size = 1 := by decide +kernel
    obtain rfl : j = 0 := by omega
    decide +kernel
  · have h1 := tens_rev h (lt_pow_len (B := 10) (by omega) n)
    have h2 := len_pos (B := 10) (by omega) h
    have hs : (dec n).size = (decs n).length := size_ofBts _
    refine ⟨by rw [hs, h1.2.2.1]; omega, ?_, .inl (by rw [bts_dec]; exact h1.2.2.2)⟩
    intro j hj
    rw [bts_dec]
    rw [hs] at hj
    rw [List.getD_eq_getElem?_getD, List.getElem?_eq_getElem hj]
    exact decs_mem (List.getElem_mem hj)
theorem dec_decVal {s : ByteArray} (h : Decimal s) : dec (decVal (bts s)) = s := by
  obtain ⟨h0, hd, hl⟩ := h
  unfold Digits at hd
  apply bts_inj
  rw [bts_dec]
  have hlen := bts_length s
  generalize bts s = l at *
  have hmem : ∀ x ∈ l, 48 ≤ x ∧ x ≤ 57 := fun x hx => by
    obtain ⟨j, hj, rfl⟩ := List.getElem_of_mem hx
    have := hd j (by omega)
    rwa [List.getD_eq_getElem?_getD, List.getElem?_eq_getElem hj] at this
  obtain ⟨D, hD⟩ : ∃ D, D = (l.map (· - 48)).reverse := ⟨_, rfl⟩
  have hl2 : l = (D.map (48 + ·)).reverse := by
    rw [hD, List.map_reverse, List.reverse_reverse, List.map_map]
    conv => lhs; rw [← List.map_id l]
    apply List.map_congr_left
    intro x hx
    have := hmem x hx
    simp
    omega
  have hv : decVal l = val 10 D := by rw [hl2, decVal_rev]
  by_cases h48 : l.getD 0 0 = 48
  · have h1 : l.length = 1 := by
      rcases hl with h | h
      · exact absurd h48 h
      · omega
    match l, h1 with
    | [x], _ =>
      have hx : x = 48 := h48
      subst hx
      rfl
  · have hlt : NM.lt 10 D := fun x hx => by
      rw [hD, List.mem_reverse, List.mem_map] at hx
      obtain ⟨y, hy, rfl⟩ := hx
      have := hmem y hy
      omega
    have hdig := dig_val (B := 10) (by omega) hlt (fun x hx => by
      rw [hD, List.getLast?_reverse] at hx
      cases l with
      | nil => simp at hx
      | cons y t =>
        simp at hx
        have h3 := hmem y (by simp)
        have h4 : y ≠ 48 := h48
        omega)
    have hne : val 10 D ≠ 0 := fun e => by
      rw [e, dig_zero] at hdig
      rw [← hdig] at hl2
      rw [hl2] at hlen
      simp at hlen
      omega
    rw [hv]
    unfold decs
    rw [if_neg hne, hdig]
    exact hl2.symm
end Go.Proofs.YtpmfaommooneiaaGreatDoor

/- voussoirref01.Text. -/
namespace Go.Proofs.YtpmfaommooneiaaGreatDoor
open Go.RowKit NM
attribute [local go_sem] nat_can

/-- The bytes of a string value. -/
def strOf : Value → ByteArray | .string s => s | _ => ⟨#[]⟩
theorem refDiv_ten (M : Nat) (w : World) (ha : (can M).size ≤ 1073741824) :
    Calls Tryz.prog 109 #[.string (can M), .string ⟨#[10]⟩] w fun e w' => e = .returned (.tuple #[.string (can (M / 10)), .string (can (M % 10)), .bool true]) ∧ Below w.heap.size w w' := by
  have h := refDiv_any (can M) ⟨#[10]⟩ w ha (by show 1 ≤ _; omega)
  rw [show nat ⟨#[10]⟩ = 10 from rfl, nat_can, divVal_pos (by omega)] at h
  exact h
theorem Num_digit (d : Nat) (w : World) (hd : d < 10) :
    Calls Tryz.prog 156 #[.string (can d)] w fun e w' => e = .returned (.tuple #[.int .u64 (d : Int), .bool true]) ∧ w = w' := by
  have h := Num_any (can d) w (by have := can_size_le (k := 1) (n := d) (by omega); simp [maxLen]; omega)
  rw [nat_can, u64Val_lt (by omega)] at h
  exact h
theorem ofBts_append (l m : List Nat) : ofBts l ++ ofBts m = ofBts (l ++ m) := by
  apply ByteArray.ext
  simp [ofBts, ByteArray.data_append]
theorem text_step {N t : Nat} : Value.string (ofBts [48 + N / 10 ^ t % 10] ++ ofBts (tens t N).reverse) = .string (ofBts (tens (t + 1) N).reverse) := by
  rw [ofBts_append, tens_succ, List.reverse_append]
  rfl
theorem text_more {N t : Nat} (h : ¬ N / 10 ^ t = 0) : t + 1 ≤ len 10 N := by
  rcases Nat.lt_or_ge t (len 10 N) with h1 | h1
  · exact h1
  · exact absurd (Nat.div_eq_of_lt ((len_le_iff (by omega) t N).1 h1)) h
theorem text_len {N t k : Nat} (ht : t ≤ len 10 N) (hN : N < 256 ^ k) (hk : k ≤ 1073741824) : t ≤ 3221225472 := by
  have h : len 10 N ≤ 3 * k := (len_le_iff (by omega) _ _).2 (by
    rw [Nat.pow_mul]
    exact Nat.lt_of_lt_of_le hN (Nat.pow_le_pow_left (by omega) _))
  omega
theorem text_less {N t d : Nat} (h : ¬ N / 10 ^ t = 0) : len 10 N - (strOf (.string (ofBts [d] ++ ofBts (tens t N).reverse))).size < len 10 N - (strOf (.string (ofBts (tens t N).reverse))).size := by
  have := text_more h
  simp only [strOf]
  rw [ofBts_append, size_ofBts, size_ofBts, List.length_append, List.length_reverse, tens_length]
  simp only [List.length_cons, List.length_nil]
  omega
theorem text_fin {N t : Nat} (h0 : N ≠ 0) (hz : N / 10 ^ t = 0) (ht : t ≤ len 10 N) : ofBts (tens t N).reverse = dec N := by
  have h1 : N < 10 ^ t := by
    rcases Nat.lt_or_ge N (10 ^ t) with h | h
    · exact h
    · exact absurd hz (Nat.ne_of_gt (Nat.div_pos h (Nat.pow_pos (by omega))))
  have h2 := (tens_rev h0 h1).1
  rw [show t - len 10 N = 0 from by omega] at h2
  rw [h2]
  rfl
theorem dec_size_pos {N : Nat} (h : N ≠ 0) : decide ((dec N).size = 0) = false := by
  have h1 := (tens_rev h (lt_pow_len (B := 10) (by omega) N)).2.2.1
  have h2 := len_pos (B := 10) (by omega) h
  unfold dec
  rw [size_ofBts]
  exact decide_eq_false (by omega)

set_option maxHeartbeats 4000000 in
theorem refText_any (a : ByteArray) (w : World) (ha : a.size ≤ 1073741824) :
    Calls Tryz.prog 128 #[.string a] w fun e w' => e = .returned (.string (dec (nat a))) ∧ Below w.heap.size w w' := by
  have hN := nat_lt a
  obtain ⟨N, eN⟩ : ∃ N, N = nat a := ⟨_, rfl⟩
  rw [← eN] at hN ⊢
  have hst := fun (W : World) (d : Nat) => run_str_blk (P := Tryz.prog) (src := 103) (dst := 9) (l := [48 + d]) (post := []) (Blk.new W #[.int .u8 (48 + (d : Int))] 5) 1 1 rfl Tryz.underlying103 Tryz.underlying5 Tryz.underlying9
  have Hst := Lib.hid hst
  have HN := Lib.hid hN
  clear hst hN
  go_enter Tryz.func128, Tryz.ntmps128
  go_wp2_with (go_at_call 98; refine (Norm_any _ _ (by simp [maxLen]; omega)).mono ?_; rintro e w' ⟨rfl, rfl⟩)
  rw [← eN]
  clear eN
  go_loopw [3, 4] (fun x o wr => ∃ t : Nat, x = .string (can (N / 10 ^ t)) ∧ o = .string (ofBts (tens t N).reverse) ∧ t ≤ len 10 N ∧ Below w.heap.size w wr) (fun _ o _ => len 10 N - (strOf o).size)
  case atStart => exact ⟨0, by rw [Nat.pow_zero, Nat.div_one], rfl, Nat.zero_le _, Below.refl _ _⟩
  case round =>
    obtain ⟨t, rfl, rfl, ht, hb⟩ := hrel
    have hsz : (can (N / 10 ^ t)).size ≤ 1073741824 := Nat.le_trans (can_size_le (Nat.lt_of_le_of_lt (Nat.div_le_self _ _) HN.out)) ha
    by_cases hz : N / 10 ^ t = 0
    · by_cases h0 : N = 0
      · subst h0
        obtain rfl : t = 0 := by rw [len_zero] at ht; omega
        have hc := isEmpty_pos hz
        have hne : (ofBts (tens 0 0).reverse).toList.isEmpty = true := by decide +kernel
        go_wp2
        go_ret
        exact ⟨rfl, hb⟩
      · have e := text_fin h0 hz ht
        have hne : (dec N).toList.isEmpty = false := by rw [isEmpty_str, dec_size_pos h0]
        rw [e]
        have hc := isEmpty_pos hz
        clear e hz
        go_wp2
        go_ret
        exact ⟨rfl, hb⟩
    · have hc := isEmpty_neg hz
      have hd : N / 10 ^ t % 10 < 10 := Nat.mod_lt _ (by omega)
      obtain ⟨d, ed⟩ : ∃ d, d = N / 10 ^ t % 10 := ⟨_, rfl⟩
      have Hd := Lib.hid ed
      clear ed
      rw [← Hd.out] at hd
      have hz' := Lib.hid hz
      have l1 : (ofBts [48 + d]).size = 1 := size_ofBts _
      have l2 : (ofBts (tens t N).reverse).size = t := by rw [size_ofBts, List.length_reverse, tens_length]
      have l3 := text_len ht HN.out ha
      clear hz
      go_wp2_with (first
        | (go_at_call 109; refine (refDiv_ten _ _ hsz).mono ?_; rintro e w1 ⟨rfl, hb1⟩; replace hb := then_ hb hb1; clear hb1; rw [← Hd.out])
        | (go_at_call 156; refine (Num_digit _ _ hd).mono ?_; rintro e w2 ⟨rfl, rfl⟩; have hs1 := Hst.out w1 d; have hb2 := hb.alloc hb.size (Obj.cells #[Value.int IntKind.u8 (48 + (d : Int))] 5)))
      all_goals (refine ⟨⟨t + 1, by rw [Nat.div_div_eq_div_mul, Nat.pow_succ], by rw [Hd.out]; exact text_step, text_more hz'.out, by first | exact hb2 | exact below_drewN hb2 _⟩, ?_⟩; exact text_less hz'.out)
end Go.Proofs.YtpmfaommooneiaaGreatDoor

/- voussoirref01.Parse and Text. -/
namespace Go.Proofs.YtpmfaommooneiaaGreatDoor
open Go.RowKit NM

theorem decVal_lt (l : List Nat) (hl : ∀ x ∈ l, x ≤ 57) : decVal l < 10 ^ l.length := by
  have h : ∀ (l : List Nat) (v : Nat), (∀ x ∈ l, x ≤ 57) → l.foldl (fun v d => 10 * v + (d - 48)) v < (v + 1) * 10 ^ l.length := by
    intro l
    induction l with
    | nil => intro v _; simp
    | cons x l ih =>
      intro v hx
      have h1 := ih (10 * v + (x - 48)) (fun y hy => hx y (by simp [hy]))
      have h2 := hx x (by simp)
      rw [List.foldl_cons, List.length_cons, Nat.pow_succ, Nat.mul_comm (10 ^ l.length) 10, ← Nat.mul_assoc]
      exact Nat.lt_of_lt_of_le h1 (Nat.mul_le_mul_right _ (by omega))
  have := h l 0 hl
  unfold decVal
  omega
theorem dec_size {s : ByteArray} {k : Nat} (hk : k ≤ s.size) (hd : ∀ j, j < k → 48 ≤ (bts s).getD j 0 ∧ (bts s).getD j 0 ≤ 57) : (can (decVal ((bts s).take k))).size ≤ k := by
  refine can_size_le ?_
  have h1 := decVal_lt ((bts s).take k) (fun x hx => by
    obtain ⟨j, hj, rfl⟩ := List.getElem_of_mem hx
    rw [List.length_take] at hj
    have := (hd j (by omega)).2
    rw [List.getD_eq_getElem?_getD, List.getElem?_eq_getElem (by omega)] at this
    rw [List.getElem_take]
    exact this)
  rw [List.length_take, bts_length, Nat.min_eq_left hk] at h1
  have h2 : 10 ^ k ≤ 256 ^ k := Nat.pow_le_pow_left (by omega) _
  omega

theorem refparse_fin {s : ByteArray} (hpos : 0 < s.size) (hd : ∀ j, j < s.size → 48 ≤ (bts s).getD j 0 ∧ (bts s).getD j 0 ≤ 57) (hg : (bts s).getD 0 0 ≠ 48 ∨ s.size = 1) :
    Ending.returned (.tuple #[.string (can (decVal ((bts s).take s.size))), .bool true]) = .returned (parseVal s) := by
  rw [List.take_of_length_le (by rw [bts_length]; exact Nat.le_refl _), parseVal_yes ⟨by omega, hd, hg⟩]
theorem small_ten (a : ByteArray) (w : World) (ha : a.size ≤ 4294967296) :
    Calls Tryz.prog 142 #[.string a, .int .i64 10] w fun e w' => e = .returned (.string (can (nat a * 10))) ∧ Below w.heap.size w w' := small_any a 10 w ha (by omega)
theorem Of_conv (d : Nat) (w : World) (hd : d ≤ 9) :
    Calls Tryz.prog 107 #[.int .u64 (IntKind.u64.wrap (IntKind.u8.wrap (d : Int)))] w fun e w' => e = .returned (.string (can d)) ∧ Below w.heap.size w w' := by
  rw [show IntKind.u64.wrap (IntKind.u8.wrap (d : Int)) = (d : Int) from by simp [IntKind.wrap, IntKind.bits, IntKind.signed] <;> omega]
  exact Of_any d w (by omega)
theorem then_d {a b c : World} (h : Below a.heap.size a b) (k : Below b.drew.heap.size b.drew c) : Below a.heap.size a c := then_ h.drew k
theorem then_dN {a b c : World} {n : Nat} (h : Below a.heap.size a b) (k : Below (b.drewN n).heap.size (b.drewN n) c) : Below a.heap.size a c := then_ (below_drewN h n) k

attribute [local go_sem] nat_can
set_option maxHeartbeats 4000000 in
theorem refParse_any (s : ByteArray) (w : World) (hs : s.size ≤ 1073741824) :
    Calls Tryz.prog 123 #[.string s] w fun e w' => e = .returned (parseVal s) ∧ Below w.heap.size w w' := by
  by_cases h0 : s.size = 0
  · rw [parseVal_no (fun h => h.1 h0)]
    have he : ((s.size : Int) == 0) = true := beq_iff_eq.2 (by omega)
    clear h0
    go_enter Tryz.func123, Tryz.ntmps123
    go_wp2
    go_ret2
    exact ⟨rfl, Below.refl _ _⟩
  · have hpos : 0 < s.size := Nat.pos_of_ne_zero h0
    have he : ((s.size : Int) == 0) = false := beq_eq_false_iff_ne.2 (by omega)
    have hb0 := bts_getD s 0 hpos
    by_cases hbad : s[0].toNat = 48 ∧ s.size ≠ 1
    · obtain ⟨h48, h1⟩ := hbad
      have hno : ¬ Decimal s := fun h => by
        rcases h.2.2 with h | h
        · exact h (by rw [hb0]; exact h48)
        · exact h1 h
      rw [parseVal_no hno]
      have h48' : ((s[0].toNat : Int) == 48) = true := by rw [h48]; rfl
      have hz : 1 < s.size := by omega
      clear h0 hb0 h48 hno h1
      go_enter Tryz.func123, Tryz.ntmps123
      go_wp2
      go_ret2
      exact ⟨rfl, Below.refl _ _⟩
    · have hgood : (bts s).getD 0 0 ≠ 48 ∨ s.size = 1 := by rw [hb0]; omega
      have hcase : ((s[0].toNat : Int) == 48) = false ∨ (((s[0].toNat : Int) == 48) = true ∧ ¬ 1 < s.size) := by
        by_cases h48 : s[0].toNat = 48
        · right
          exact ⟨by rw [h48]; rfl, by omega⟩
        · left
          exact beq_eq_false_iff_ne.2 (by omega)
      have Hgood := Lib.hid hgood
      have Hpos := Lib.hid hpos
      clear hgood hb0 hbad h0
      rcases hcase with h1 | ⟨h1, h2⟩
      all_goals
        go_enter Tryz.func123, Tryz.ntmps123
        go_wp2
        go_loopw [4, 5] (fun x i wr => ∃ k : Nat, k ≤ s.size ∧ i = .int .i64 k ∧ x = .string (can (decVal ((bts s).take k))) ∧ (∀ j, j < k → 48 ≤ (bts s).getD j 0 ∧ (bts s).getD j 0 ≤ 57) ∧ Below w.heap.size w wr) (fun _ i _ => s.size - (intOf i).toNat)
        case atStart => exact ⟨0, Nat.zero_le _, rfl, rfl, fun j hj => by omega, Below.refl _ _⟩
        case round =>
          obtain ⟨k, hk, rfl, rfl, hdg, hb⟩ := hrel
          have hsz := dec_size hk hdg
          have Hdg := Lib.hid hdg
          clear hdg
          by_cases hlt : k < s.size
          · have hbd := UInt8.toNat_lt s[k]
            by_cases hlo : s[k].toNat < 48
            · go_wp2
              go_ret2
              exact ⟨parse_no (parse_bad hlt (.inl hlo)), hb⟩
            · by_cases hhi : 57 < s[k].toNat
              · go_wp2
                go_ret2
                exact ⟨parse_no (parse_bad hlt (.inr hhi)), hb⟩
              · have hdg' : ∀ j, j < k + 1 → 48 ≤ (bts s).getD j 0 ∧ (bts s).getD j 0 ≤ 57 := fun j hj => by
                  rcases Nat.lt_or_ge j k with h | h
                  · exact Hdg.out j h
                  · obtain rfl : j = k := by omega
                    rw [bts_getD s j hlt]
                    omega
                have Hdg' := Lib.hid hdg'
                have hv : decVal ((bts s).take (k + 1)) = decVal ((bts s).take k) * 10 + (s[k].toNat - 48) := by
                  rw [decVal_take (by rw [bts_length]; exact hlt), bts_getD s k hlt]
                  omega
                have Hv := Lib.hid hv
                clear hdg' hv
                obtain ⟨d, hd⟩ : ∃ d, d = s[k].toNat - 48 := ⟨_, rfl⟩
                have ed : (s[k].toNat : Int) - 48 = (d : Int) := by omega
                have hd9 : d ≤ 9 := by omega
                have Hd := Lib.hid hd
                clear hd
                have hV : decVal ((bts s).take k) < 256 ^ k := by
                  have h4 := (len_le_iff (B := 256) (by omega) k (decVal ((bts s).take k))).1 (by rw [← can_size]; exact hsz)
                  exact h4
                have s1 : (can (decVal ((bts s).take k) * 10)).size ≤ k + 1 := can_size_le (by rw [Nat.pow_succ]; omega)
                have s2 : (can d).size ≤ 1 := can_size_le (by omega)
                clear hV
                generalize decVal ((bts s).take k) = V at hsz s1 Hv ⊢
                go_wp2
                go_region_with (first
                  | (go_at_call 142; refine (small_ten _ _ (by omega)).mono ?_; rintro e wn ⟨rfl, hbn⟩; (first | replace hb := then_ hb hbn | replace hb := then_d hb hbn | replace hb := then_dN hb hbn); clear hbn)
                  | (go_at_call 107; refine (Of_conv _ _ hd9).mono ?_; rintro e wn ⟨rfl, hbn⟩; (first | replace hb := then_ hb hbn | replace hb := then_d hb hbn | replace hb := then_dN hb hbn); clear hbn)
                  | (go_at_call 115; refine (refAdd_any _ _ _ (by omega) (by omega)).mono ?_; rintro e wn ⟨rfl, hbn⟩; (first | replace hb := then_ hb hbn | replace hb := then_d hb hbn | replace hb := then_dN hb hbn); clear hbn))
                go_wp2
                all_goals (refine ⟨⟨k + 1, by omega, by go_num, by rw [Hv.out, Hd.out], Hdg'.out, hb⟩, ?_⟩; simp only [intOf]; omega)
          · obtain rfl : k = s.size := by omega
            go_wp2
            go_ret2
            exact ⟨refparse_fin Hpos.out Hdg.out Hgood.out, hb⟩
end Go.Proofs.YtpmfaommooneiaaGreatDoor
