/- nat.estimateLimb, subtractMultiple, addBack, divideStep. -/
import Derived.Test.YtmfinfnjamgboaaDoorKnuth
import Derived.Test.YtmfinfnjamgboaaDoorShift
namespace Go.Proofs.YtmfinfnjamgboaaDoor
open Go.RowKit NM

/-- What estimateLimb returns. -/
def EstPost (q x1 x2 x3 y1 y2 : Nat) (w : World) (e : Ending) (w' : World) : Prop := ∃ t : Nat, e = .returned (.int .u64 (t : Int)) ∧ EstEnd q x1 x2 x3 y1 y2 t ∧ Below w.heap.size w w'

theorem est_quot {top x y : Nat} (h : top = x) (hle : x / y ≤ 4294967297) : Value.int .u64 (IntKind.u64.wrap ((top : Int) / (y : Int))) = .int .u64 ((x / y : Nat) : Int) := by
  subst h
  have e : (top : Int) / (y : Int) = ((top / y : Nat) : Int) := rfl
  rw [e]
  generalize top / y = q at hle
  rw [IntKind.wrap_u64, Int.emod_eq_of_lt (by omega) (by omega)]
theorem est_rem {top x y : Nat} (h : top = x) : Value.int .u64 ((top : Int) % (y : Int)) = .int .u64 ((x % y : Nat) : Int) := by
  subst h
  rfl
theorem est_ret {t : Nat} (h : 0 < t) : Ending.returned (.int .u64 ((t : Int) - 1)) = .returned (.int .u64 ((t - 1 : Nat) : Int)) := by
  congr 2
  omega

set_option maxHeartbeats 2000000 in
theorem estimateLimb_any (gx gy : Nat) (prex prey postx posty : List Value) (X Y : List Nat) (c1 c2 m q x1 x2 x3 y1 y2 : Nat) (w : World) (hX : X.length = m + 3) (hY : Y.length = m + 2) (hm : m ≤ 8589934592)
    (hx1 : x1 = X.getD m 0) (hx2 : x2 = X.getD (m + 1) 0) (hx3 : x3 = X.getD (m + 2) 0) (hy2 : y2 = Y.getD m 0) (hy1 : y1 = Y.getD (m + 1) 0) (hXl : llt X) (hYl : llt Y) (hMx : MB w gx prex X postx) (hMy : MB w gy prey Y posty)
    (hq32 : q < 4294967296) (hq : q * (y2 + 4294967296 * y1) ≤ x1 + 4294967296 * (x2 + 4294967296 * x3)) (h3 : x3 ≤ y1) (hy : 2147483648 ≤ y1) :
    Calls Tryd.prog 72 #[.slice (some ⟨gx, prex.length, none⟩) X.length c1, .slice (some ⟨gy, prey.length, none⟩) Y.length c2] w (EstPost q x1 x2 x3 y1 y2 w) := by
  have k1 := hMx.at_ (j := m) (by omega)
  have k2 := hMx.at_ (j := m + 1) (by omega)
  have k3 := hMx.at_ (j := m + 2) (by omega)
  have k4 := hMy.at_ (j := m) (by omega)
  have k5 := hMy.at_ (j := m + 1) (by omega)
  have b1 := llt_getD hXl m
  have b2 := llt_getD hXl (m + 1)
  have b3 := llt_getD hXl (m + 2)
  have b4 := llt_getD hYl m
  have b5 := llt_getD hYl (m + 1)
  rw [← hx1] at k1 b1
  rw [← hx2] at k2 b2
  rw [← hx3] at k3 b3
  rw [← hy2] at k4 b4
  rw [← hy1] at k5 b5
  rw [hX, hY]
  clear hx1 hx2 hx3 hy1 hy2 hX hY hMx hMy hXl hYl
  have hor := shl_or b2 b3
  have hst := Est.start hy b5 b2 h3 hq b1
  have Hst := Lib.hid hst
  have Hq := Lib.hid hq
  obtain ⟨top, htop⟩ : ∃ t, t = x2 + 4294967296 * x3 := ⟨_, rfl⟩
  rw [← htop] at hor
  have Htop := Lib.hid htop
  have htop2 : top < 18446744073709551616 := by omega
  clear hst hq htop
  have e1 : (m : Int) + 2 - 1 = (m : Int) + 1 := by omega
  go_enter Tryd.func72, Tryd.ntmps72
  go_wp2
  go_quiet (fail)
  go_wp2
  go_quiet (fail)
  go_wp2
  go_quiet (fail)
  go_wp2
  go_loopw [9, 10] (fun e r wr => ∃ t s n : Nat, e = .int .u64 t ∧ r = .int .u64 s ∧ Est q x1 x2 x3 y1 y2 t s ∧ wr = w.drewN n) (fun e _ _ => (intOf e).toNat)
  case atStart => exact ⟨(x2 + 4294967296 * x3) / y1, (x2 + 4294967296 * x3) % y1, _, est_quot Htop.out Hst.out.le, est_rem Htop.out, Hst.out, by first | rfl | (simp only [World.drewN_drewN]; rfl)⟩
  case round =>
    obtain ⟨t, s, n, rfl, rfl, hE, rfl⟩ := hrel
    have hs := hE.rest
    have hle := hE.le
    have ht0 := hE.ge
    have HE := Lib.hid hE
    clear hE Hst
    by_cases hbig : 4294967295 < t
    · have hm := HE.out.more hq32 Hq.out (.inl hbig)
      have hbd : decide (4294967295 < (t : Int)) = true := decide_eq_true (by omega)
      by_cases hbr : 4294967295 < s + y1
      · go_wp2
        go_ret
        exact ⟨t - 1, est_ret (by omega), HE.out.break_ hm b2 h3 b4 (by omega), below_drewN (Below.refl _ _) _⟩
      · go_wp2
        go_roundw
        case rel => exact ⟨t - 1, s + y1, n, by go_num, by go_num, HE.out.next hm (by omega), rfl⟩
        case measure => simp [intOf]; omega
    · have hor2 := shl_or b1 hs
      have hbd : decide (4294967295 < (t : Int)) = false := decide_eq_false (by omega)
      have hpb := mul_bound (show t < 4294967296 by omega) b4
      obtain ⟨p, hp⟩ : ∃ p, p = t * y2 := ⟨_, rfl⟩
      rw [← hp] at hpb
      have hpe : (t : Int) * (y2 : Int) = (p : Int) := by rw [hp]; simp
      have Hp := Lib.hid hp
      clear hp
      by_cases hcmp : x1 + 4294967296 * s < p
      · have hm := HE.out.more hq32 Hq.out (.inr (by rw [← Hp.out]; exact hcmp))
        by_cases hbr : 4294967295 < s + y1
        · go_wp2
          go_ret
          exact ⟨t - 1, est_ret (by omega), HE.out.break_ hm b2 h3 b4 (by omega), below_drewN (Below.refl _ _) _⟩
        · go_wp2
          go_roundw
          case rel => exact ⟨t - 1, s + y1, n, by go_num, by go_num, HE.out.next hm (by omega), rfl⟩
          case measure => simp [intOf]; omega
      · go_wp2
        go_ret
        exact ⟨t, rfl, HE.out.stop hbig (by rw [← Hp.out]; exact hcmp), below_drewN (Below.refl _ _) _⟩

/-- What subtractMultiple leaves. -/
def SubmPost (A : Option Addr) (g : Nat) (pre : List Value) (X : List Nat) (post : List Value) (f N : Nat) (w : World) (e : Ending) (w' : World) : Prop :=
  ∃ X', e = .returned (.bool (decide (lval X < f * N))) ∧ llt X' ∧ lval X' + f * N = lval X + (if lval X < f * N then lpow X.length else 0) ∧ Chg A g pre X post X' w w'

theorem subm_end {L X Y : List Nat} {m f c xn d n : Nat} (hX : X.length = n + 1) (hY : Y.length = n) (hL : L.length = n) (hLl : llt L) (hXl : llt X) (hxn : xn = X.getD n 0) (hd : d < 4294967296) (hm : m ≤ 1) (h : d + c = xn + 4294967296 * m) (hc : (xn < c) = (m = 1))
    (hv : lval L + f * lval (Y.take n) = lval (X.take n) + lpow n * c) :
    llt (L ++ [d]) ∧ lval (L ++ [d]) + f * lval Y = lval X + (if lval X < f * lval Y then lpow X.length else 0) ∧ (lval X < f * lval Y ↔ xn < c) := by
  rw [List.take_of_length_le (show Y.length ≤ n by omega)] at hv
  have h1 := lval_take_succ X n
  rw [List.take_of_length_le (show X.length ≤ n + 1 by omega), ← hxn] at h1
  have h2 : lval (L ++ [d]) = lval L + lpow n * d := by rw [lval_snoc, hL]
  have h3 : lpow n * (d + c) = lpow n * (xn + 4294967296 * m) := by rw [h]
  rw [Nat.mul_add, Nat.mul_add, ← Nat.mul_assoc] at h3
  have h4 : lpow (n + 1) = lpow n * 4294967296 := lpow_succ n
  have h5 : lval (L ++ [d]) < lpow (n + 1) := by
    have := lval_lt (llt_snoc hLl hd)
    rwa [List.length_append, hL] at this
  have h6 : lval X < lpow (n + 1) := by
    have := lval_lt hXl
    rwa [hX] at this
  have h7 : lval (L ++ [d]) + f * lval Y = lval X + lpow (n + 1) * m := by rw [h2, h4]; omega
  have hiff : lval X < f * lval Y ↔ xn < c := by
    rw [hc]
    rcases (show m = 0 ∨ m = 1 by omega) with e | e
    · rw [e] at h7
      omega
    · rw [e] at h7
      omega
  refine ⟨llt_snoc hLl hd, ?_, hiff⟩
  rcases (show m = 0 ∨ m = 1 by omega) with e | e
  · have : ¬ lval X < f * lval Y := by rw [hiff, hc]; omega
    rw [if_neg this]
    rw [e] at h7
    omega
  · have : lval X < f * lval Y := by rw [hiff, hc]; exact e
    rw [if_pos this, hX]
    rw [e] at h7
    omega

theorem subm_ret {a b : Nat} {x c : Nat} (h : a < b ↔ x < c) (hx : x < c) : Ending.returned (.bool true) = .returned (.bool (decide (a < b))) := by rw [decide_eq_true (h.2 hx)]
theorem subm_ret' {a b : Nat} {x c : Nat} (h : a < b ↔ x < c) (hx : ¬ x < c) : Ending.returned (.bool false) = .returned (.bool (decide (a < b))) := by rw [decide_eq_false (fun e => hx (h.1 e))]
theorem app_one {L X : List Nat} {k d : Nat} (hL : L.length = k) (hX : X.length = k + 1) : (L ++ X.drop k).set k d = L ++ [d] := by
  rw [app_set hL (by omega), List.drop_of_length_le (by omega), List.append_nil]

set_option maxHeartbeats 2000000 in
theorem subtractMultiple_any (g gy : Nat) (pre prey post posty : List Value) (X Y : List Nat) (c1 c2 f n : Nat) (w : World) (hX : X.length = n + 1) (hY : Y.length = n) (hn : n ≤ 8589934592) (hf : f < 4294967296)
    (hXl : llt X) (hYl : llt Y) (hMx : MB w g pre X post) (hMy : MB w gy prey Y posty) (hne : g ≠ gy) :
    Calls Tryd.prog 73 #[.slice (some ⟨g, pre.length, none⟩) X.length c1, .slice (some ⟨gy, prey.length, none⟩) Y.length c2, .int .u64 (f : Int)] w (SubmPost (some ⟨g, pre.length, none⟩) g pre X post f (lval Y) w) := by
  have HX := Lib.hid hX
  have HY := Lib.hid hY
  rw [hX, hY]
  clear hX hY
  go_enter Tryd.func73, Tryd.ntmps73
  go_wp2
  go_loopw [7, 13] (fun c i wr => ∃ (k : Nat) (L : List Nat) (cy : Nat), k ≤ n ∧ i = .int .i64 k ∧ c = .int .u64 cy ∧ cy < 4294967296 ∧ L.length = k ∧ llt L ∧ lval L + f * lval (Y.take k) = lval (X.take k) + lpow k * cy ∧ MB wr g pre (L ++ X.drop k) post ∧ w.grownBy wr (some g)) (fun _ i _ => n - (intOf i).toNat)
  case atStart => exact ⟨0, [], 0, Nat.zero_le _, rfl, rfl, by omega, rfl, llt_nil, by rw [List.take_zero, List.take_zero, lval_nil, Nat.mul_zero, Nat.mul_zero], hMx, World.grownBy.refl _ _⟩
  case round =>
    obtain ⟨k, L, cy, hk, rfl, rfl, hcy, hLk, hLl, hv, hM, hg⟩ := hrel
    have HLk := Lib.hid hLk
    have Hv := Lib.hid hv
    have hxc := hM.at_ (j := k) (by rw [app_len hLk (by rw [HX.out]; omega), HX.out]; omega)
    have hxf := hM.free (j := k) (by rw [app_len hLk (by rw [HX.out]; omega), HX.out]; omega)
    rw [app_at hLk] at hxc
    have hx1 := llt_getD hXl k
    clear hLk hv
    by_cases hlt : k < n
    · have hyc := (Blk.grown hMy hg (by intro e; exact hne (Option.some.inj e).symm)).cell (mid_at (pre := prey) (post := posty) (l := Y) (j := k) (by rw [HY.out]; exact hlt))
      have hy1 := llt_getD hYl k
      obtain ⟨x, hx⟩ : ∃ x, x = X.getD k 0 := ⟨_, rfl⟩
      obtain ⟨y, hy⟩ : ∃ y, y = Y.getD k 0 := ⟨_, rfl⟩
      rw [← hx] at hxc hx1
      rw [← hy] at hyc hy1
      have hpb := mul_bound hf hy1
      obtain ⟨p, hp⟩ : ∃ p, p = f * y := ⟨_, rfl⟩
      rw [← hp] at hpb
      have hpe : (f : Int) * (y : Int) = (p : Int) := by rw [hp]; simp
      have Hp := Lib.hid hp
      have Hx := Lib.hid hx
      have Hy := Lib.hid hy
      clear hp hx hy
      by_cases hb : x < (cy + p) % 4294967296
      · go_wp2
        go_roundw
        case rel => exact ⟨k + 1, L ++ [x + 4294967296 - (cy + p) % 4294967296], (cy + p) / 4294967296 + 1, by omega, by go_num, by go_num, by omega, by rw [List.length_append, HLk.out]; rfl, llt_snoc hLl (by omega), subm_step HLk.out Hv.out (by rw [← Hx.out, ← Hy.out, ← Hp.out]; omega), by rw [← app_set HLk.out (by rw [HX.out]; omega)]; exact hM.set (by rw [app_len HLk.out (by rw [HX.out]; omega), HX.out]; omega) (by go_num), gb_set hg _ _⟩
        case measure => simp [intOf]; omega
      · go_wp2
        go_roundw
        case rel => exact ⟨k + 1, L ++ [x - (cy + p) % 4294967296], (cy + p) / 4294967296, by omega, by go_num, by go_num, by omega, by rw [List.length_append, HLk.out]; rfl, llt_snoc hLl (by omega), subm_step HLk.out Hv.out (by rw [← Hx.out, ← Hy.out, ← Hp.out]; omega), by rw [← app_set HLk.out (by rw [HX.out]; omega)]; exact hM.set (by rw [app_len HLk.out (by rw [HX.out]; omega), HX.out]; omega) (by go_num), gb_set hg _ _⟩
        case measure => simp [intOf]; omega
    · obtain rfl : k = n := by omega
      obtain ⟨x, hx⟩ : ∃ x, x = X.getD k 0 := ⟨_, rfl⟩
      rw [← hx] at hxc hx1
      have Hx := Lib.hid hx
      clear hx
      by_cases hb : x < cy
      · have hend := subm_end (m := 1) (d := x + 4294967296 - cy) HX.out HY.out HLk.out hLl hXl Hx.out (by omega) (by omega) (by omega) (by simp; omega) Hv.out
        have Hend := Lib.hid hend
        clear hend
        go_wp2
        go_ret
        exact ⟨L ++ [x + 4294967296 - cy], subm_ret Hend.out.2.2 hb, Hend.out.1, Hend.out.2.1, by rw [List.length_append, HLk.out, HX.out]; rfl, fun _ => by rw [← app_one HLk.out HX.out]; exact hM.set (by rw [app_len HLk.out (by rw [HX.out]; omega), HX.out]; omega) (by go_num), gb_set hg _ _, fun _ => rfl⟩
      · have hend := subm_end (m := 0) (d := x - cy) HX.out HY.out HLk.out hLl hXl Hx.out (by omega) (by omega) (by omega) (by simp; omega) Hv.out
        have Hend := Lib.hid hend
        clear hend
        go_wp2
        go_ret
        exact ⟨L ++ [x - cy], subm_ret' Hend.out.2.2 hb, Hend.out.1, Hend.out.2.1, by rw [List.length_append, HLk.out, HX.out]; rfl, fun _ => by rw [← app_one HLk.out HX.out]; exact hM.set (by rw [app_len HLk.out (by rw [HX.out]; omega), HX.out]; omega) (by go_num), gb_set hg _ _, fun _ => rfl⟩

/-- What addBack leaves. -/
def AddbPost (A : Option Addr) (g : Nat) (pre : List Value) (X : List Nat) (post : List Value) (N : Nat) (w : World) (e : Ending) (w' : World) : Prop :=
  e = .returned (.tuple #[]) ∧ Chg A g pre X post (lims X.length (lval X + N)) w w'
theorem addb_end {L X Y : List Nat} {n cy xn d : Nat} (hX : X.length = n + 1) (hY : Y.length = n) (hL : L.length = n) (hLl : llt L) (hxn : xn = X.getD n 0) (hd : d = (xn + cy) % 4294967296) (hv : lval L + lpow n * cy = lval (X.take n) + lval (Y.take n)) :
    L ++ [d] = lims X.length (lval X + lval Y) := by
  rw [List.take_of_length_le (show Y.length ≤ n by omega)] at hv
  have h1 := lval_take_succ X n
  rw [List.take_of_length_le (show X.length ≤ n + 1 by omega), ← hxn] at h1
  have hdl : d < 4294967296 := by rw [hd]; exact Nat.mod_lt _ (by omega)
  apply lval_inj (llt_snoc hLl hdl) (lims_lt _ _) (by rw [lims_length, List.length_append, hL, hX]; rfl)
  rw [lval_lims, lval_snoc, hL, hX, lpow_succ]
  have h3 : lval X + lval Y = lval L + lpow n * (xn + cy) := by rw [Nat.mul_add]; omega
  have h4 : lval L < lpow n := by have := lval_lt hLl; rwa [hL] at this
  rw [h3, Nat.mod_mul, Nat.add_mul_mod_self_left, Nat.mod_eq_of_lt h4, Nat.add_mul_div_left _ _ (lpow_pos n), Nat.div_eq_of_lt h4, Nat.zero_add, hd]

set_option maxHeartbeats 2000000 in
theorem addBack_any (g gy : Nat) (pre prey post posty : List Value) (X Y : List Nat) (c1 c2 n : Nat) (w : World) (hX : X.length = n + 1) (hY : Y.length = n) (hn : n ≤ 8589934592)
    (hXl : llt X) (hYl : llt Y) (hMx : MB w g pre X post) (hMy : MB w gy prey Y posty) (hne : g ≠ gy) :
    Calls Tryd.prog 74 #[.slice (some ⟨g, pre.length, none⟩) X.length c1, .slice (some ⟨gy, prey.length, none⟩) Y.length c2] w (AddbPost (some ⟨g, pre.length, none⟩) g pre X post (lval Y) w) := by
  have HX := Lib.hid hX
  have HY := Lib.hid hY
  rw [hX, hY]
  clear hX hY
  go_enter Tryd.func74, Tryd.ntmps74
  go_wp2
  go_loopw [4, 8] (fun c i wr => ∃ (k : Nat) (L : List Nat) (cy : Nat), k ≤ n ∧ i = .int .i64 k ∧ c = .int .u64 cy ∧ cy ≤ 1 ∧ L.length = k ∧ llt L ∧ lval L + lpow k * cy = lval (X.take k) + lval (Y.take k) ∧ MB wr g pre (L ++ X.drop k) post ∧ w.grownBy wr (some g)) (fun _ i _ => n - (intOf i).toNat)
  case atStart => exact ⟨0, [], 0, Nat.zero_le _, rfl, rfl, by omega, rfl, llt_nil, by rw [List.take_zero, List.take_zero, lval_nil, Nat.mul_zero], hMx, World.grownBy.refl _ _⟩
  case round =>
    obtain ⟨k, L, cy, hk, rfl, rfl, hcy, hLk, hLl, hv, hM, hg⟩ := hrel
    have HLk := Lib.hid hLk
    have Hv := Lib.hid hv
    have hxc := hM.at_ (j := k) (by rw [app_len hLk (by rw [HX.out]; omega), HX.out]; omega)
    have hxf := hM.free (j := k) (by rw [app_len hLk (by rw [HX.out]; omega), HX.out]; omega)
    rw [app_at hLk] at hxc
    have hx1 := llt_getD hXl k
    obtain ⟨x, hx⟩ : ∃ x, x = X.getD k 0 := ⟨_, rfl⟩
    rw [← hx] at hxc hx1
    have Hx := Lib.hid hx
    clear hLk hv hx
    by_cases hlt : k < n
    · have hyc := (Blk.grown hMy hg (by intro e; exact hne (Option.some.inj e).symm)).cell (mid_at (pre := prey) (post := posty) (l := Y) (j := k) (by rw [HY.out]; exact hlt))
      have hy1 := llt_getD hYl k
      obtain ⟨y, hy⟩ : ∃ y, y = Y.getD k 0 := ⟨_, rfl⟩
      rw [← hy] at hyc hy1
      have Hy := Lib.hid hy
      clear hy
      go_wp2
      go_quiet (fail)
      go_wp2
      go_roundw
      case rel => exact ⟨k + 1, L ++ [(cy + (x + y)) % 4294967296], (cy + (x + y)) / 4294967296, by omega, by go_num, by go_num, by omega, by rw [List.length_append, HLk.out]; rfl, llt_snoc hLl (by omega), addb_step HLk.out Hv.out (by rw [← Hx.out, ← Hy.out]; omega), by rw [← app_set HLk.out (by rw [HX.out]; omega)]; exact (hM.drewN _).set (by rw [app_len HLk.out (by rw [HX.out]; omega), HX.out]; omega) (by go_num), gb_set (gb_drewN hg _) _ _⟩
      case measure => simp [intOf]; omega
    · obtain rfl : k = n := by omega
      have hend := addb_end (d := (x + cy) % 4294967296) HX.out HY.out HLk.out hLl Hx.out rfl Hv.out
      have Hend := Lib.hid hend
      clear hend
      go_wp2
      go_end0
      exact ⟨rfl, lims_length _ _, fun _ => by rw [← Hend.out, ← app_one HLk.out HX.out]; exact hM.set (by rw [app_len HLk.out (by rw [HX.out]; omega), HX.out]; omega) (by go_num), gb_set hg _ _, fun _ => rfl⟩
end Go.Proofs.YtmfinfnjamgboaaDoor
