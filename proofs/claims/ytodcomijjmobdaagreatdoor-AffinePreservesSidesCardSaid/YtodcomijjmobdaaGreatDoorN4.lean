/- nat.divide and nat.Div. -/
import Derived.Test.YtodcomijjmobdaaGreatDoorN3
import Derived.Test.YtodcomijjmobdaaGreatDoorShelf
import Derived.RegionTactic
import Derived.BigRegion
import Derived.Test.YtodcomijjmobdaaGreatDoorN2
import Derived.Test.YtodcomijjmobdaaGreatDoorN1
import Derived.Deep.RegionWith
set_option linter.unusedVariables false
set_option linter.unusedSimpArgs false
namespace Go.Proofs.YtodcomijjmobdaaGreatDoor
open Go.RowKit NM

/-- What divide returns: the limbs of the quotient and of the remainder. -/
def DividePost (gx X Y lx ly : Nat) (w : World) (e : Ending) (w' : World) : Prop :=
  ∃ Aq cq Lq Ar cr Lr gr prer postr, e = .returned (.tuple #[.slice Aq (List.length Lq) cq, .slice Ar (List.length Lr) cr]) ∧ llt Lq ∧ lval Lq = X / Y ∧ Rd w' Aq Lq ∧ Lq.length ≤ lx ∧
    llt Lr ∧ lval Lr = X % Y ∧ Win w' Ar gr prer Lr postr ∧ (gr = gx ∨ w.heap.size ≤ gr) ∧ Lr.length ≤ cr ∧ Lr.length ≤ lx + ly + 1 ∧ w.grownBy w' (some gx)

set_option maxHeartbeats 1000000 in
theorem divide_one (A : Option Addr) (gx gy : Nat) (prex prey postx posty : List Value) (X Y : List Nat) (c1 c2 : Nat) (w : World) (hXl : X.length ≤ 8589934592) (hX : llt X) (hY : llt Y) (hy1 : Y.length = 1) (hy0 : Y.getD 0 0 ≠ 0) (hA : Win w A gx prex X postx) (hMy : MB w gy prey Y posty) :
    Calls Tryz.prog 149 #[.slice A X.length c1, .slice (some ⟨gy, prey.length, none⟩) Y.length c2] w (DividePost gx (lval X) (lval Y) X.length Y.length w) := by
  have k0 := hMy.at_ (j := 0) (by omega)
  have b0 := llt_getD hY 0
  have hv : lval Y = Y.getD 0 0 := by
    have := lval_take_succ Y 0
    rw [List.take_of_length_le (show Y.length ≤ 0 + 1 by omega), List.take_zero, lval_nil, lpow_zero] at this
    omega
  rw [hv, hy1]
  rw [Nat.add_zero] at k0
  obtain ⟨y, hy⟩ : ∃ y, y = Y.getD 0 0 := ⟨_, rfl⟩
  rw [← hy] at k0 b0 hy0 ⊢
  clear hy1 hv hy hMy hY
  go_enter Tryz.func149, Tryz.ntmps149
  go_wp2_with (go_at_call 155; refine (divideByLimb_any A gx prex X postx c1 y _ (by omega) hX (by omega) b0 hA).mono ?_; rintro e w1 ⟨rfl, hlen, hM, hg, hA2⟩)
  go_ret2
  have hr : lval X % y < 4294967296 := by have := Nat.mod_lt (lval X) (show 0 < y by omega); omega
  refine ⟨A, c1, lims X.length (lval X / y), some ⟨w1.heap.size, 0, none⟩, 1, [lval X % y], w1.heap.size, [], [], ?_, lims_lt _ _, ?_, ?_, by rw [hlen]; exact Nat.le_refl _, llt_snoc (l := []) llt_nil hr, ?_, ?_, .inr hg.size, Nat.le_refl _, by simp, ?_⟩
  · rw [hlen]
    rfl
  · rw [lval_lims, Nat.mod_eq_of_lt (Nat.lt_of_le_of_lt (Nat.div_le_self _ _) (lval_lt hX))]
  · intro h
    have hx : X ≠ [] := fun e => by subst e; exact h rfl
    exact ⟨gx, prex, postx, hA2 hx, Blk.alloc (hM hx) _⟩
  · simp [lval, val]
  · exact fun _ => ⟨rfl, Blk.new w1 _ _⟩
  · exact gb_trans hg (World.grownBy_alloc w1 _ _)

set_option maxHeartbeats 400000 in
theorem divide_short (A : Option Addr) (gx : Nat) (prex postx : List Value) (B : Option Addr) (X : List Nat) (c1 c2 N ly : Nat) (w : World) (hX : llt X) (hc : X.length ≤ c1) (hly : ly ≤ 8589934592) (hy1 : ly ≠ 1) (hlt : X.length < ly) (hN : lval X < N) (hA : Win w A gx prex X postx) :
    Calls Tryz.prog 149 #[.slice A X.length c1, .slice B ly c2] w (DividePost gx (lval X) N X.length ly w) := by
  have h1 : ((ly : Int) == 1) = false := by simp; omega
  have H := Lib.hid hA
  have Hy := Lib.hid hy1
  have HN := Lib.hid hN
  clear hA hy1 hN
  go_enter Tryz.func149, Tryz.ntmps149
  go_wp2
  go_ret2
  exact ⟨none, 0, [], A, c1, X, gx, prex, postx, rfl, llt_nil, by rw [Nat.div_eq_of_lt HN.out]; rfl, Rd.nil _ _, Nat.zero_le _, hX, by rw [Nat.mod_eq_of_lt HN.out], H.out, .inl rfl, hc, by omega, World.grownBy.refl _ _⟩

theorem MB_of_LB {w : World} {g : Nat} {a b c : List Nat} (h : LB w g (a ++ b ++ c)) : MB w g (cv .u32 a) b (cv .u32 c) := by
  unfold LB at h
  rw [cv_append, cv_append] at h
  exact h
theorem LB_of_MB {w : World} {g : Nat} {a b c : List Nat} (h : MB w g (cv .u32 a) b (cv .u32 c)) : LB w g (a ++ b ++ c) := by
  unfold LB
  rw [cv_append, cv_append]
  exact h
/-- The highest limbs of the shifted dividend are less than the divisor. -/
theorem div_start {P X Y D : List Nat} {n m s d : Nat} (hP : llt P) (hPl : P.length = X.length + 1) (hPv : lval P = lval X * 2 ^ s) (hd : d = lval (D.take Y.length)) (hDl : (D.take Y.length).length = Y.length) (htop : 2147483648 ≤ (D.take Y.length).getD (n + 1) 0) (hDt : llt (D.take Y.length))
    (hYn : Y.length = n + 2) (hm : m + Y.length = X.length + 1) (hs : s < 32) (hX : llt X) : lhigh P m < d := by
  have h1 : lval P < lpow X.length * 2 ^ s := by
    rw [hPv]
    exact Nat.mul_lt_mul_of_pos_right (lval_lt hX) (two_pow_pos' s)
  have h2 := lval_split P m (by omega)
  have h3 : lpow X.length = lpow m * lpow (n + 1) := by rw [← lpow_add]; congr 1; omega
  have h4 : lhigh P m < lpow (n + 1) * 2147483648 := by
    rcases Nat.lt_or_ge (lhigh P m) (lpow (n + 1) * 2147483648) with h | h
    · exact h
    · exfalso
      have h5 : lpow m * (lpow (n + 1) * 2147483648) ≤ lpow m * lhigh P m := Nat.mul_le_mul_left _ h
      have h6 : lpow m * lpow (n + 1) * 2 ^ s ≤ lpow m * lpow (n + 1) * 2147483648 := Nat.mul_le_mul_left _ (two_pow_le hs)
      rw [← Nat.mul_assoc] at h5
      rw [h3] at h1
      omega
  have h7 := lval_take_succ (D.take Y.length) (n + 1)
  rw [List.take_of_length_le (show (D.take Y.length).length ≤ n + 1 + 1 by omega), ← hd] at h7
  have h8 : lpow (n + 1) * 2147483648 ≤ lpow (n + 1) * (D.take Y.length).getD (n + 1) 0 := Nat.mul_le_mul_left _ htop
  have := hP
  have := hDt
  omega

theorem divide_fin {X Y P : List Nat} {n s d j g1 g3 gx : Nat} {w wr w4 : World} (hX : llt X) (hPt : llt P) (hPl : P.length = X.length + 1) (hPv : lval P = lval X * 2 ^ s) (hd : d = lval Y * 2 ^ s) (hYn : Y.length = n + 2) (hyt : Y.getD (n + 1) 0 ≠ 0) (hj : j + Y.length = X.length + 1)
    (hQ : LB wr g3 (lims j (lval P / d))) (h31 : g3 ≠ g1) (hM4 : lims P.length (lval P % d) ≠ [] → MB w4 g1 [] (lims (lims P.length (lval P % d)).length (lval (lims P.length (lval P % d)) / 2 ^ s)) [])
    (hbr : Below w.heap.size w wr) (hg4 : wr.grownBy w4 (some g1)) (hg1 : w.heap.size ≤ g1) :
    DividePost gx (lval X) (lval Y) X.length Y.length w (.returned (.tuple #[.slice (some ⟨g3, 0, none⟩) j j, .slice (some ⟨g1, 0, none⟩) P.length P.length])) w4 := by
  have hs := two_pow_pos' s
  have e1 : lval P / d = lval X / lval Y := by rw [hPv, hd, Nat.mul_div_mul_right _ _ hs]
  have e2 : lval P % d = lval X % lval Y * 2 ^ s := by rw [hPv, hd, Nat.mul_mod_mul_right]
  have t1 := lval_take_succ Y (n + 1)
  rw [List.take_of_length_le (show Y.length ≤ n + 1 + 1 by omega)] at t1
  have t2 : lpow (n + 1) * 1 ≤ lpow (n + 1) * Y.getD (n + 1) 0 := Nat.mul_le_mul_left _ (Nat.pos_of_ne_zero hyt)
  have hYp : 0 < lval Y := by have := lpow_pos (n + 1); omega
  have hXlt := lval_lt hX
  have hq : lval X / lval Y < lpow j := by
    rw [Nat.div_lt_iff_lt_mul hYp]
    have e3 : lpow X.length = lpow j * lpow (n + 1) := by rw [← lpow_add]; congr 1; omega
    have : lpow j * lpow (n + 1) ≤ lpow j * lval Y := Nat.mul_le_mul_left _ (by omega)
    omega
  have hrlt : lval X % lval Y < lpow P.length := by
    have := Nat.mod_le (lval X) (lval Y)
    have := lpow_le (show X.length ≤ P.length by omega)
    omega
  have hr2 : lval P % d < lpow P.length := by
    have h1 := Nat.mod_le (lval P) d
    have h2 := lval_lt hPt
    omega
  have e4 : lval (lims P.length (lval P % d)) / 2 ^ s = lval X % lval Y := by
    rw [lval_lims, Nat.mod_eq_of_lt hr2, e2, Nat.mul_div_cancel _ hs]
  have hM := hM4 (ne_nil_of (j := 0) (by rw [lims_length]; omega))
  rw [e4, lims_length] at hM
  rw [e1] at hQ
  refine ⟨some ⟨g3, 0, none⟩, j, lims j (lval X / lval Y), some ⟨g1, 0, none⟩, P.length, lims P.length (lval X % lval Y), g1, [], [], ?_, lims_lt _ _, ?_, ?_, ?_, lims_lt _ _, ?_, fun _ => ⟨rfl, hM⟩, .inr hg1, ?_, ?_, ?_⟩
  · rw [lims_length, lims_length]
  · rw [lval_lims, Nat.mod_eq_of_lt hq]
  · exact Rd.of_LB (Blk.grown hQ hg4 (by intro e; injection e with e; exact h31 e))
  · rw [lims_length]; omega
  · rw [lval_lims, Nat.mod_eq_of_lt hrlt]
  · rw [lims_length]; exact Nat.le_refl _
  · rw [lims_length]; omega
  · exact ⟨hg4.os.trans hbr.os, hg4.tape.trans hbr.tape, hg4.output.trans hbr.output, Nat.le_trans hbr.size hg4.size, fun k hk _ => (hg4.block k (Nat.lt_of_lt_of_le hk hbr.size) (by intro e; injection e with e; omega)).trans (hbr.block k hk)⟩

set_option maxHeartbeats 1000000 in
theorem divide_long (A : Option Addr) (gx gy : Nat) (prex prey postx posty : List Value) (X Y : List Nat) (c1 c2 n : Nat) (w : World) (hXl : X.length ≤ 4294967296) (hX : llt X) (hY : llt Y) (hYn : Y.length = n + 2) (hXY : Y.length ≤ X.length) (hyt : Y.getD (n + 1) 0 ≠ 0) (hA : Win w A gx prex X postx) (hMy : MB w gy prey Y posty) :
    Calls Tryz.prog 149 #[.slice A X.length c1, .slice (some ⟨gy, prey.length, none⟩) Y.length c2] w (DividePost gx (lval X) (lval Y) X.length Y.length w) := by
  have kt := hMy.at_ (j := n + 1) (by omega)
  have bt := llt_getD hY (n + 1)
  obtain ⟨t, ht⟩ : ∃ t, t = Y.getD (n + 1) 0 := ⟨_, rfl⟩
  rw [← ht] at kt bt hyt
  obtain ⟨hs32, hsI, hs1, hs2⟩ := lz_spec hyt bt
  obtain ⟨s, hs⟩ : ∃ s, s = lz t := ⟨_, rfl⟩
  rw [← hs] at hs32 hsI hs1 hs2
  have e1 : (Y.length : Int) - 1 = ((n + 1 : Nat) : Int) := by omega
  have e2 : ((Y.length : Int) == 1) = false := by simp; omega
  have HYn := Lib.hid hYn
  have Hs1 := Lib.hid hs1
  have Hs2 := Lib.hid hs2
  have Ht := Lib.hid ht
  have HsI := Lib.hid hsI
  have hyl : Y.length = n + 2 := hYn
  have hn1 : n + 2 ≤ Y.length := by omega
  have hn2 : Y.length ≤ n + 2 := by omega
  clear hYn hs1 hs2 ht hs hsI hyl
  go_enter Tryz.func149, Tryz.ntmps149
  go_wp2_with fail
  refine (Tryz.bits_LeadingZeros32 (t : Int) _ (by omega) (by omega)).mono ?_
  rintro e w' ⟨rfl, hw⟩
  obtain rfl : w = w' := hw.symm
  clear hw
  rw [Int.toNat_natCast, HsI.out]
  clear e1
  go_wp2_with fail
  refine (shiftLeft_any A X c1 s _ (by omega) hX hs32 hA.rd).mono ?_
  rintro e w1 ⟨P, hPl, hPt, hPv, g1, hg1, rfl, hP1, hb1⟩
  have HPl := Lib.hid hPl
  have HPv := Lib.hid hPv
  have hPl1 : P.length ≤ X.length + 1 := by omega
  have hPl2 : X.length + 1 ≤ P.length := by omega
  clear hPl hPv
  go_wp2_with fail
  refine (shiftLeft_any _ Y c2 s _ (by omega) hY hs32 (show Rd w1 _ Y from fun _ => ⟨gy, prey, posty, rfl, hMy.keep hb1⟩)).mono ?_
  rintro e w2 ⟨D, hDl, hDt, hDv, g2, hg2, rfl, hD2, hb2⟩
  have hds := divisor_spec hY HYn.out hDt (by rw [hDl, HYn.out]) hDv (by rw [← Ht.out]; exact Hs1.out) (by rw [← Ht.out]; exact Hs2.out)
  have Hds := Lib.hid hds
  have hDl1 : D.length ≤ Y.length + 1 := by omega
  have hDl2 : Y.length + 1 ≤ D.length := by omega
  clear hds hDl hDv
  obtain ⟨m, hm⟩ : ∃ m, m + Y.length = X.length + 1 := ⟨X.length + 1 - Y.length, by omega⟩
  have em : (X.length : Int) - (Y.length : Int) + 1 = (m : Int) := by omega
  have Hm := Lib.hid hm
  have hm1 : m + Y.length ≤ X.length + 1 := by omega
  have hm2 : X.length + 1 ≤ m + Y.length := by omega
  clear hm
  go_wp2_with (at_make; refine wpList_make_blk _ rfl _ _ 133 rfl 143 .u32 4 Tryz.underlying133 row_u32 _ _ _ _ m rfl rfl rfl rfl (by omega) (by omega) ?_; intro w3 hQ hb3 hs3)
  have hg2' : w1.heap.size ≤ g2 := hg2
  have l1 : g1 < w1.heap.size := hP1.lt
  have l2 : g2 < w2.heap.size := hD2.lt
  have l3 : w.heap.size ≤ w1.heap.size := hb1.size
  have l4 : w1.heap.size ≤ w2.heap.size := hb2.size
  obtain ⟨d, hd⟩ : ∃ d, d = lval Y * 2 ^ s := ⟨_, rfl⟩
  have hd1 : d = lval (D.take Y.length) := by rw [hd, ← Hds.out.1, HYn.out]
  have hDtl : (D.take Y.length).length = Y.length := by rw [List.length_take]; omega
  have hD0 : D = D.take Y.length ++ [0] := by rw [HYn.out]; exact Hds.out.2.2.2
  have hDt2 : llt (D.take Y.length) := llt_take hDt _
  have hdn : d < lpow Y.length := by
    have := lval_lt hDt2
    rwa [hDtl, ← hd1] at this
  have htop : 2147483648 ≤ (D.take Y.length).getD (n + 1) 0 := by rw [HYn.out]; exact Hds.out.2.1
  have hdpos : 0 < d := by
    rw [hd1]
    have := top2 (Y := D.take Y.length) (m := n) (by rw [hDtl, HYn.out])
    have := lpow_pos n
    have h5 : lpow n * 1 ≤ lpow n * ((D.take Y.length).getD n 0 + 4294967296 * (D.take Y.length).getD (n + 1) 0) := Nat.mul_le_mul_left _ (by omega)
    omega
  have hstart : lhigh P m < d := div_start hPt HPl.out HPv.out hd1 hDtl htop hDt2 HYn.out Hm.out hs32 hX
  have hP1' : LB w3 g1 (restl P d m) := by
    rw [restl_start hPt hstart (by rw [HPl.out]; omega)]
    exact (Blk.keep hP1 (hb2.mono (Nat.le_refl _))).keep hb3
  have hQ' : LB w3 w2.heap.size (quotl P d m m) := by rw [quotl_start hstart]; exact hQ
  have hD' : LB w3 g2 D := Blk.keep hD2 hb3
  have hbw : Below w.heap.size w w3 := hb1.trans ((hb2.mono l3).trans (hb3.mono (Nat.le_trans l3 l4)))
  have Hd := Lib.hid hd
  have Hd1 := Lib.hid hd1
  have HDtl := Lib.hid hDtl
  have HD0 := Lib.hid hD0
  clear hd hd1 hDtl hD0 hstart hP1 hQ hD2 hs3
  go_loopw [10, 11, 54] (fun _ _ i wr => ∃ j : Nat, j ≤ m ∧ i = .int .i64 j ∧ LB wr g1 (restl P d (m - j)) ∧ LB wr w2.heap.size (quotl P d m (m - j)) ∧ LB wr g2 D ∧ Below w.heap.size w wr) (fun _ _ i _ => m - (intOf i).toNat)
  case atStart => exact ⟨0, Nat.zero_le _, rfl, hP1', hQ', hD', hbw⟩
  case round =>
    obtain ⟨j, hj, rfl, hR, hQ, hD, hbr⟩ := hrel
    clear hP1' hQ' hD' hbw
    by_cases hlt : j < m
    · obtain ⟨k, hk⟩ : ∃ k, k + 1 = m - j := ⟨m - j - 1, by omega⟩
      have ek : (m : Int) - 1 - (j : Int) = (k : Int) := by omega
      have hkm : k < m := by omega
      have hk1 : k + Y.length + 1 ≤ P.length := by omega
      rw [← hk] at hR hQ
      have Hk := Lib.hid hk
      clear hk
      have hround := div_round (n := Y.length) (k := k) hPt (by omega) hdpos (by omega)
      have hwin := restl_win (n := Y.length) (k := k) (P := P) (d := d) (by omega) hdpos (by omega)
      have hwin' := restl_win' (n := Y.length) (k := k) (P := P) (d := d) (by omega) hdpos (by omega)
      rw [hwin] at hR
      have hMB := MB_of_LB hR
      have hDM : MB wr g2 [] (D.take Y.length) (cv .u32 [0]) := by
        have := hD
        rw [HD0.out] at this
        exact MB_of_LB (a := []) this
      have hwl : llt (P.getD k 0 :: lims Y.length (lhigh P (k + 1) % d)) := lt_cons (llt_getD hPt k) (lims_lt _ _)
      obtain ⟨W, hW⟩ : ∃ W, W = P.getD k 0 :: lims Y.length (lhigh P (k + 1) % d) := ⟨_, rfl⟩
      have hWl : W.length = n + 3 := by rw [hW, List.length_cons, lims_length, HYn.out]
      rw [← hW] at hMB hwl hround
      have Hround := Lib.hid hround
      have Hwin' := Lib.hid hwin'
      have HWl := Lib.hid hWl
      have hnW : k + Y.length + 1 - k = W.length := by have := HYn.out; rw [hWl]; omega
      have hpre : k = (cv .u32 (P.take k)).length := by rw [cv_length, List.length_take]; omega
      have hstep := divideStep_at (c1 := P.length - k) (c2 := D.length) (m := n) hpre (show 0 = ([] : List Value).length from rfl) hnW HDtl.out.symm hWl (by rw [HDtl.out, HYn.out]) (by omega) hwl hDt2 hMB hDM (by omega) htop (by rw [← Hd1.out]; exact hround.1)
      have Hstep := Lib.hid hstep
      clear hround hwin hwin' hWl hW hnW hpre hstep hR
      go_wp2_with fail
      refine Hstep.out.mono ?_
      rintro e w4 ⟨rfl, _, hM4, hg4, _⟩
      have hR4 := LB_of_MB (hM4 (ne_nil_of (j := 0) (by rw [HWl.out]; omega)))
      rw [← Hd1.out, Hround.out.2.1, HWl.out, show n + 3 = Y.length + 1 from by rw [HYn.out], ← Hwin'.out] at hR4
      have hQ4 : LB w4 w2.heap.size (quotl P d m (k + 1)) := Blk.grown hQ hg4 (by intro e; injection e with e; omega)
      have hD4 : LB w4 g2 D := Blk.grown hD hg4 (by intro e; injection e with e; omega)
      have hbr4 : Below w.heap.size w w4 := hbr.grown hg4 hbr.size (fun b hb => by injection hb with hb; omega)
      have hcell := hQ4.at_ (j := k) (by rw [quotl_length _ _ _ _ (by omega)]; exact hkm)
      have hfree := hQ4.free (j := k) (by rw [quotl_length _ _ _ _ (by omega)]; exact hkm)
      have hqlt : lval W / d < 4294967296 := (Nat.div_lt_iff_lt_mul hdpos).2 (by rw [Nat.mul_comm]; exact Hround.out.1)
      rw [← Hd1.out]
      clear hM4 hg4 hQ hD hbr hMB hDM
      go_wp2_with fail
      go_roundw
      case rel => exact ⟨j + 1, by omega, by go_num, by rw [show m - (j + 1) = k from by have := Hk.out; omega]; exact Blk.setOther hR4 (show w2.heap.size ≠ g1 by omega) _, by rw [show m - (j + 1) = k from by have := Hk.out; omega, ← quotl_set hkm hqlt Hround.out.2.2]; exact hQ4.set k rfl, Blk.setOther hD4 (show w2.heap.size ≠ g2 by omega) _, hbr4.setCell (show w.heap.size ≤ w2.heap.size by omega) _⟩
      case measure => simp [intOf]; omega
    · obtain rfl : j = m := by omega
      rw [Nat.sub_self] at hR hQ
      rw [restl_end] at hR
      rw [quotl_end] at hQ
      have hshr := shiftRight_any (some ⟨g1, 0, none⟩) g1 [] (lims P.length (lval P % d)) [] P.length s wr (by rw [lims_length]; omega) (lims_lt _ _) hs32 (Win.of_LB hR)
      rw [lims_length] at hshr
      have Hshr := Lib.hid hshr
      clear hshr
      go_wp2_with fail
      refine Hshr.out.mono ?_
      rintro e w4 ⟨rfl, hlen4, hM4, hg4, _⟩
      have Hlen4 := Lib.hid hlen4
      clear hlen4
      go_wp2_with fail
      go_ret2
      exact divide_fin hX hPt HPl.out HPv.out Hd.out HYn.out (by rw [← Ht.out]; exact hyt) (by omega) hQ (by omega) hM4 hbr hg4 (by omega)
end Go.Proofs.YtodcomijjmobdaaGreatDoor

/- nat.Div. -/
namespace Go.Proofs.YtodcomijjmobdaaGreatDoor
open Go.RowKit NM

/-- divide at the limbs of two numbers. -/
theorem divide_any (gx gy : Nat) (M N : Nat) (w : World) (hM : (lim M).length ≤ 4294967296) (hN : (lim N).length ≤ 4294967296) (hN0 : N ≠ 0) (hx : LB w gx (lim M)) (hy : LB w gy (lim N)) :
    Calls Tryz.prog 149 #[.slice (some ⟨gx, 0, none⟩) (lim M).length (lim M).length, .slice (some ⟨gy, 0, none⟩) (lim N).length (lim N).length] w (DividePost gx M N (lim M).length (lim N).length w) := by
  have hl := lim_last hN0
  rw [← lim_length] at hl
  have hMy : MB w gy [] (lim N) [] := by unfold MB; rw [List.nil_append, List.append_nil]; exact hy
  have hne : (lim N) ≠ [] := fun e => hN0 (lim_eq_nil.1 e)
  have hpos : 0 < (lim N).length := List.length_pos_iff.2 hne
  have e1 := lval_lim M
  have e2 := lval_lim N
  rcases (show (lim N).length = 1 ∨ (2 ≤ (lim N).length ∧ (lim M).length < (lim N).length) ∨ (2 ≤ (lim N).length ∧ (lim N).length ≤ (lim M).length) from by omega) with h | ⟨h, h2⟩ | ⟨h, h2⟩
  · have := divide_one (some ⟨gx, 0, none⟩) gx gy [] [] [] [] (lim M) (lim N) (lim M).length (lim N).length w (by omega) (lim_lt _) (lim_lt _) h (by rw [h] at hl; exact hl) (Win.of_LB hx) hMy
    rw [e1, e2] at this
    exact this
  · have hlt : lval (lim M) < N := by
      rw [e1]
      have h3 := lval_lt (lim_lt M)
      rw [e1] at h3
      have h4 := lval_take_succ (lim N) ((lim N).length - 1)
      rw [List.take_of_length_le (by omega), e2] at h4
      have h5 : lpow ((lim N).length - 1) * 1 ≤ lpow ((lim N).length - 1) * (lim N).getD ((lim N).length - 1) 0 := Nat.mul_le_mul_left _ (Nat.pos_of_ne_zero hl)
      have h6 := lpow_le (show (lim M).length ≤ (lim N).length - 1 by omega)
      omega
    have := divide_short (some ⟨gx, 0, none⟩) gx [] [] (some ⟨gy, 0, none⟩) (lim M) (lim M).length (lim N).length N (lim N).length w (lim_lt _) (Nat.le_refl _) (by omega) (by omega) h2 hlt (Win.of_LB hx)
    rw [e1] at this
    exact this
  · obtain ⟨n, hn⟩ : ∃ n, (lim N).length = n + 2 := ⟨(lim N).length - 2, by omega⟩
    have := divide_long (some ⟨gx, 0, none⟩) gx gy [] [] [] [] (lim M) (lim N) (lim M).length (lim N).length n w (by omega) (lim_lt _) (lim_lt _) hn h2 (by rw [hn] at hl; exact hl) (Win.of_LB hx) hMy
    rw [e1, e2] at this
    exact this

set_option maxHeartbeats 1000000 in
theorem Div_any (a b : ByteArray) (w : World) (ha : a.size ≤ 4294967296) (hb : b.size ≤ 4294967296) :
    Calls Tryz.prog 138 #[.string a, .string b] w fun e w' => e = .returned (divVal (nat a) (nat b)) ∧ Below w.heap.size w w' := by
  have la := lim_size a
  have lb := lim_size b
  by_cases hz : nat b = 0
  · rw [divVal_zero hz]
    have hl : (lim (nat b)).length = 0 := by rw [hz]; rfl
    have h0 : (((lim (nat b)).length : Int) == 0) = true := by rw [hl]; rfl
    have Hz := Lib.hid hz
    clear hz hl
    go_enter Tryz.func138, Tryz.ntmps138
    go_wp2_with fail
    refine (limbs_any a _ (by omega)).mono ?_
    rintro e w1 ⟨g1, hg1, rfl, hB1, hb1⟩
    go_wp2_with fail
    refine (limbs_any b _ (by omega)).mono ?_
    rintro e w2 ⟨g2, hg2, rfl, hB2, hb2⟩
    go_wp2_with fail
    go_ret3
    exact ⟨rfl, hb1.trans (hb2.mono hb1.size)⟩
  · rw [divVal_pos hz]
    have hl : 0 < (lim (nat b)).length := List.length_pos_iff.2 (fun e => hz (lim_eq_nil.1 e))
    have h0 : (((lim (nat b)).length : Int) == 0) = false := beq_eq_false_iff_ne.2 (by omega)
    have Hz := Lib.hid hz
    clear hz
    go_enter Tryz.func138, Tryz.ntmps138
    go_wp2_with fail
    refine (limbs_any a _ (by omega)).mono ?_
    rintro e w1 ⟨g1, hg1, rfl, hB1, hb1⟩
    go_wp2_with fail
    refine (limbs_any b _ (by omega)).mono ?_
    rintro e w2 ⟨g2, hg2, rfl, hB2, hb2⟩
    go_wp2_with fail
    refine (divide_any g1 g2 (nat a) (nat b) _ (by omega) (by omega) Hz.out (Blk.keep hB1 hb2) hB2).mono ?_
    rintro e w3 ⟨Aq, cq, Lq, Ar, cr, Lr, gr, prer, postr, rfl, hq1, hq2, hq3, hq4, hr1, hr2, hr3, hr4, hr5, hr6, hg3⟩
    have hb3 : Below w.heap.size w w3 := (hb1.trans (hb2.mono hb1.size)).grown hg3 (Nat.le_trans hb1.size hb2.size) (fun k hk => by injection hk with hk; omega)
    have Hq2 := Lib.hid hq2
    have Hr2 := Lib.hid hr2
    have hlq : Lq.length ≤ 17179869184 := by omega
    have hlr : Lr.length ≤ 17179869184 := by omega
    clear hq2 hr2
    go_wp2_with fail
    refine (magnitude_any Aq Lq cq _ hlq hq1 hq3).mono ?_
    rintro e w4 ⟨rfl, hb4⟩
    go_wp2_with fail
    refine (magnitude_any Ar Lr cr _ hlr hr1 (hr3.keep hb4).rd).mono ?_
    rintro e w5 ⟨rfl, hb5⟩
    rw [Hq2.out, Hr2.out]
    go_wp2_with fail
    go_ret3
    exact ⟨rfl, hb3.trans ((hb4.mono hb3.size).trans (hb5.mono (Nat.le_trans hb3.size hb4.size)))⟩
end Go.Proofs.YtodcomijjmobdaaGreatDoor

/- slices.Reverse and slices.IndexFunc at []byte. -/
namespace Go.Proofs.YtodcomijjmobdaaGreatDoor
open Go.RowKit NM

/-- The list behind i exchanges. -/
def RevAt (L M : List Nat) (i : Nat) : Prop := M.length = L.length ∧ ∀ t, t < L.length → M.getD t 0 = if t < i ∨ L.length ≤ t + i then L.getD (L.length - 1 - t) 0 else L.getD t 0
theorem RevAt.start (L : List Nat) : RevAt L L 0 := ⟨rfl, fun t ht => by rw [if_neg (by omega)]⟩
theorem getD_set {l : List Nat} {i j x : Nat} (h : i < l.length) : (l.set i x).getD j 0 = if i = j then x else l.getD j 0 := by
  by_cases e : i = j
  · subst e
    rw [if_pos rfl, List.getD_eq_getElem?_getD, List.getElem?_set_self h]
    rfl
  · rw [if_neg e, getD_set_ne e]
theorem RevAt.step {L M : List Nat} {i j : Nat} (h : RevAt L M i) (hj : j + i + 1 = L.length) (hij : i < j) : RevAt L ((M.set i (L.getD j 0)).set j (L.getD i 0)) (i + 1) := by
  refine ⟨by rw [List.length_set, List.length_set]; exact h.1, fun t ht => ?_⟩
  have hl := h.1
  rw [getD_set (by rw [List.length_set]; omega), getD_set (by omega)]
  by_cases e1 : j = t
  · subst e1
    rw [if_pos rfl, if_pos (by omega)]
    congr 1
    omega
  · rw [if_neg e1]
    by_cases e2 : i = t
    · subst e2
      rw [if_pos rfl, if_pos (by omega)]
      congr 1
      omega
    · rw [if_neg e2, h.2 t ht]
      by_cases e3 : t < i ∨ L.length ≤ t + i
      · rw [if_pos e3, if_pos (by omega)]
      · rw [if_neg e3, if_neg (by omega)]
end Go.Proofs.YtodcomijjmobdaaGreatDoor

/- nat.Format. -/
namespace Go.Proofs.YtodcomijjmobdaaGreatDoor
open Go.RowKit NM

/-- How long a slice is. -/
def lenOf : Value → Nat | .slice _ n _ => n | _ => 0
theorem Own.len {w : World} {base : Nat} {E : TypeId} {k : IntKind} {v : Value} {L : List Nat} (h : Own w base E k v L) : lenOf v = L.length := by
  obtain ⟨_, h⟩ := h
  rcases h with ⟨rfl, hn⟩ | ⟨g, cap, cur, rfl, _⟩
  · rw [hn]; rfl
  · rfl
theorem Own.blk {w : World} {base : Nat} {E : TypeId} {k : IntKind} {v : Value} {L : List Nat} (h : Own w base E k v L) (hne : 0 < L.length) : ∃ g cap post, v = .slice (some ⟨g, 0, none⟩) L.length cap ∧ base ≤ g ∧ Blk w g E (cv k L ++ post) ∧ L.length ≤ cap := by
  obtain ⟨_, h⟩ := h
  rcases h with ⟨_, hn⟩ | ⟨g, cap, cur, rfl, hb, hg, hn, _, hsz, ht⟩
  · omega
  · refine ⟨g, cap, cur.toList.drop (L.length * 1), rfl, hb, ?_, hn⟩
    rw [← ht, List.take_append_drop]
    refine ⟨(0, 0), by rw [hg], fun j _ => ?_⟩
    unfold World.frozen?
    rw [hg]
    simp
theorem Own.grown {w w' : World} {base : Nat} {E : TypeId} {k : IntKind} {v : Value} {L : List Nat} {g : Nat} (h : Own w base E k v L) (hg : w.grownBy w' (some g)) (hb : g < base) : Own w' base E k v L := by
  refine World.ownsRow.kept (row := some g) h hg ?_
  cases hv : v.ownBlock with
  | none => exact .inl rfl
  | some b =>
    right
    intro e
    have := (World.ownsRow.lt h b hv).1
    injection e with e
    omega
end Go.Proofs.YtodcomijjmobdaaGreatDoor

/- nat.gcdOfWords, and nat.Gcd where both numbers fit into a word. -/
namespace Go.Proofs.YtodcomijjmobdaaGreatDoor
open Go.RowKit NM

theorem gcd_less {p q : Nat} (h : 0 < q) : (intOf (.int .u64 ((p : Int) % (q : Int)))).toNat < (intOf (.int .u64 (q : Int))).toNat := by
  have h1 := Nat.mod_lt p h
  have e : (p : Int) % (q : Int) = ((p % q : Nat) : Int) := rfl
  rw [e]
  generalize p % q = r at h1
  simp [intOf]
  exact h1
theorem ret_u64 {a b : Nat} (h : a = b) : Ending.returned (.int .u64 (a : Int)) = .returned (.int .u64 (b : Int)) := by rw [h]

set_option maxHeartbeats 400000 in
theorem gcdOfWords_any (m n : Nat) (w : World) (hm : m < 18446744073709551616) (hn : n < 18446744073709551616) :
    Calls Tryz.prog 151 #[.int .u64 (m : Int), .int .u64 (n : Int)] w fun e w' => e = .returned (.int .u64 (Nat.gcd m n : Nat)) ∧ Below w.heap.size w w' := by
  have Hm := Lib.hid hm
  have Hn := Lib.hid hn
  clear hm hn
  go_enter Tryz.func151, Tryz.ntmps151
  go_wp2
  go_loopw [0, 1] (fun x y wr => ∃ p q : Nat, x = .int .u64 p ∧ y = .int .u64 q ∧ p < 18446744073709551616 ∧ q < 18446744073709551616 ∧ Nat.gcd p q = Nat.gcd m n ∧ Below w.heap.size w wr) (fun _ y _ => (intOf y).toNat)
  case atStart => exact ⟨m, n, rfl, rfl, Hm.out, Hn.out, rfl, Below.refl _ _⟩
  case round =>
    obtain ⟨p, q, rfl, rfl, hp, hq, hg, hb⟩ := hrel
    have Hg := Lib.hid hg
    clear hg
    by_cases hz : q = 0
    · subst hz
      go_wp2
      go_ret
      exact ⟨ret_u64 (by rw [← Hg.out, Nat.gcd_zero_right]), hb⟩
    · have hq0 : ((q : Int) != 0) = true := by simp; omega
      have hpos : 0 < q := Nat.pos_of_ne_zero hz
      clear hz
      go_wp2
      go_quiet (fail)
      go_wp2
      go_roundw
      case rel => exact ⟨q, p % q, rfl, rfl, hq, by have := Nat.mod_lt p hpos; omega, by rw [← Hg.out, Nat.gcd_comm q, ← Nat.gcd_rec, Nat.gcd_comm], below_drewN hb _⟩
      case measure => exact gcd_less hpos

theorem gcd_lt {m n B : Nat} (hm : m < B) (hn : n < B) : Nat.gcd m n < B := by
  rcases Nat.eq_zero_or_pos m with h | h
  · rw [h, Nat.gcd_zero_left]
    exact hn
  · exact Nat.lt_of_le_of_lt (Nat.gcd_le_left n h) hm

set_option maxHeartbeats 400000 in
theorem Gcd_word (a b : ByteArray) (w : World) (ha : a.size ≤ maxLen) (hb : b.size ≤ maxLen) (h1 : nat a < 18446744073709551616) (h2 : nat b < 18446744073709551616) :
    Calls Tryz.prog 145 #[.string a, .string b] w fun e w' => e = .returned (.string (can (Nat.gcd (nat a) (nat b)))) ∧ Below w.heap.size w w' := by
  have Hg := Lib.hid (gcd_lt h1 h2)
  have H1 := Lib.hid h1
  have H2 := Lib.hid h2
  clear h1 h2
  go_enter Tryz.func145, Tryz.ntmps145
  go_wp2_with fail
  refine (Uint64_any a _ ha).mono ?_
  rintro e w1 ⟨rfl, rfl⟩
  rw [u64Val_lt H1.out]
  go_wp2_with fail
  refine (Uint64_any b _ hb).mono ?_
  rintro e w1 ⟨rfl, rfl⟩
  rw [u64Val_lt H2.out]
  go_wp2_with fail
  refine (gcdOfWords_any _ _ _ H1.out H2.out).mono ?_
  rintro e w1 ⟨rfl, hb1⟩
  go_wp2_with fail
  refine (FromUint64_any _ _ Hg.out).mono ?_
  rintro e w2 ⟨rfl, hb2⟩
  go_wp2_with fail
  go_ret
  exact ⟨rfl, hb1.trans (hb2.mono hb1.size)⟩
end Go.Proofs.YtodcomijjmobdaaGreatDoor

/- voussoirlaw01.natAlive returns true. -/
namespace Go.Proofs.YtodcomijjmobdaaGreatDoor
open Go.RowKit NM

/-- One call behind another. -/
theorem then_ {a b c : World} (h : Below a.heap.size a b) (k : Below b.heap.size b c) : Below a.heap.size a c := Below.trans h (Below.mono k h.size)

end Go.Proofs.YtodcomijjmobdaaGreatDoor

/- voussoirlaw01.wide: whether some string is longer than 40 bytes. -/
namespace Go.Proofs.YtodcomijjmobdaaGreatDoor
open Go.RowKit

end Go.Proofs.YtodcomijjmobdaaGreatDoor

/- The walks of voussoirlaw01.NatMuls, NatDivides, NatRing. -/
namespace Go.Proofs.YtodcomijjmobdaaGreatDoor
open Go.RowKit NM

attribute [local go_sem] nat_can
end Go.Proofs.YtodcomijjmobdaaGreatDoor

/- nat.multiplyAdd, nat.Parse, voussoirref01.Parse, voussoirref01.Text. -/
namespace Go.Proofs.YtodcomijjmobdaaGreatDoor
open Go.RowKit NM

theorem Own.form {w : World} {base : Nat} {E : TypeId} {k : IntKind} {v : Value} {L : List Nat} (h : Own w base E k v L) : ∃ A c, v = .slice A L.length c ∧ (L ≠ [] → ∃ g, A = some ⟨g, 0, none⟩ ∧ base ≤ g) := by
  obtain ⟨_, h⟩ := h
  rcases h with ⟨rfl, hn⟩ | ⟨g, cap, cur, rfl, hb, _⟩
  · refine ⟨none, 0, by rw [hn], fun h => ?_⟩
    exact absurd (List.eq_nil_of_length_eq_zero hn) h
  · exact ⟨some ⟨g, 0, none⟩, cap, rfl, fun _ => ⟨g, rfl, hb⟩⟩
theorem Own.at_ {w : World} {base : Nat} {E : TypeId} {k : IntKind} {L : List Nat} {g n c j : Nat} (h : Own w base E k (.slice (some ⟨g, 0, none⟩) n c) L) (hn : n = L.length) (hj : j < L.length) : w.cell? ⟨g, j, none⟩ = some (.int k (L.getD j 0 : Nat)) := by
  subst hn
  have := World.ownsRow.cellAt h j (by omega)
  rw [this, cv_getElem? _ _ _ hj]
theorem Own.free {w : World} {base : Nat} {E : TypeId} {k : IntKind} {L : List Nat} {g n c : Nat} (h : Own w base E k (.slice (some ⟨g, 0, none⟩) n c) L) (hn : n = L.length) (j : Nat) : w.frozen? ⟨g, j, none⟩ = false := by
  subst hn
  exact World.ownsRow.frozenAt h j
theorem Own.set {w : World} {base : Nat} {E : TypeId} {k : IntKind} {L : List Nat} {g n c : Nat} (h : Own w base E k (.slice (some ⟨g, 0, none⟩) n c) L) (hn : n = L.length) (j : Nat) {v : Value} {d : Nat} (hv : v = .int k (d : Int)) : Own (w.setCell ⟨g, j, none⟩ v) base E k (.slice (some ⟨g, 0, none⟩) n c) (L.set j d) := by
  subst hn hv
  have := (World.ownsRow.stored h j (.int k (d : Int))).1
  rw [cv_set] at this
  unfold Own
  rw [List.length_set]
  exact this
theorem Own.rd {w : World} {base : Nat} {A : Option Addr} {n c : Nat} {L : List Nat} (h : Own w base 143 .u32 (.slice A n c) L) (_hn : n = L.length) : Rd w A L := by
  intro hne
  obtain ⟨g, cap, post, e, _, hB, _⟩ := h.blk (List.length_pos_iff.2 hne)
  injection e with e1 e2 e3
  exact ⟨g, [], post, e1, by rw [List.nil_append]; exact hB⟩

end Go.Proofs.YtodcomijjmobdaaGreatDoor

/- Decimal strings and numbers: each is the other's inverse. -/
namespace Go.Proofs.YtodcomijjmobdaaGreatDoor
open Go.RowKit NM

end Go.Proofs.YtodcomijjmobdaaGreatDoor

/- voussoirref01.Text. -/
namespace Go.Proofs.YtodcomijjmobdaaGreatDoor
open Go.RowKit NM
attribute [local go_sem] nat_can

/-- The bytes of a string value. -/
def strOf : Value → ByteArray | .string s => s | _ => ⟨#[]⟩
end Go.Proofs.YtodcomijjmobdaaGreatDoor

/- voussoirref01.Parse and Text. -/
namespace Go.Proofs.YtodcomijjmobdaaGreatDoor
open Go.RowKit NM

attribute [local go_sem] nat_can
end Go.Proofs.YtodcomijjmobdaaGreatDoor
