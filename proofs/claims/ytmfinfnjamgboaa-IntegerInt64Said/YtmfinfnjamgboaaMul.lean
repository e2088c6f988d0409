/- nat.multiply and nat.Mul. -/
import Derived.Test.YtmfinfnjamgboaaLimbs
namespace Go.Proofs.Ytmfinfnjamgboaa
open Go.RowKit NM

theorem LB.lt {w : World} {g : Nat} {l : List Nat} (h : LB w g l) : g < w.heap.size := Blk.lt h
theorem LB.at_ {w : World} {g : Nat} {l : List Nat} (h : LB w g l) {j : Nat} (hj : j < l.length) : w.cell? ⟨g, j, none⟩ = some (.int .u32 (l.getD j 0 : Nat)) := Blk.cell h (cv_getElem? _ _ _ hj)
theorem LB.free {w : World} {g : Nat} {l : List Nat} (h : LB w g l) {j : Nat} (hj : j < l.length) : w.frozen? ⟨g, j, none⟩ = false := Blk.free h (by rw [cv_length]; exact hj)
theorem LB.set {w : World} {g : Nat} {l : List Nat} (h : LB w g l) (j : Nat) {v : Value} {d : Nat} (hv : v = .int .u32 (d : Int)) : LB (w.setCell ⟨g, j, none⟩ v) g (l.set j d) := by
  subst hv
  have := Blk.set h j (.int .u32 (d : Int))
  rw [cv_set] at this
  exact this
theorem LB.drewN {w : World} {g : Nat} {l : List Nat} (h : LB w g l) (n : Nat) : LB (w.drewN n) g l := h

theorem lim_size (a : ByteArray) : (lim (nat a)).length ≤ a.size := by
  rw [lim_length, llen_can]
  have := can_size_le_size a
  omega
/-- A new slice of n limbs of value N. -/
def MulPost (n N : Nat) (w : World) (e : Ending) (w' : World) : Prop := ∃ l, l.length = n ∧ llt l ∧ lval l = N ∧ NewL l w e w'
theorem mul_end {x y P : List Nat} {w wr : World} {n i : Nat} (hn : n = x.length + y.length) (hPl : P.length = n) (hPt : llt P) (hi : x.length ≤ i) (hv : lval P = lval (x.take i) * lval y) (hB : LB wr w.heap.size P) (hb : Below w.heap.size w wr) :
    MulPost (x.length + y.length) (lval x * lval y) w (.returned (.slice (some ⟨w.heap.size, 0, none⟩) n n)) wr := by
  refine ⟨P, by omega, hPt, by rw [hv, List.take_of_length_le hi], w.heap.size, Nat.le_refl _, by rw [hPl], hB, hb⟩

set_option maxHeartbeats 1000000 in
theorem multiply_any (A B : Option Addr) (x y : List Nat) (c1 c2 : Nat) (w : World) (hxl : x.length ≤ 4294967296) (hyl : y.length ≤ 4294967296) (hx : llt x) (hy : llt y) (hA : Rd w A x) (hB : Rd w B y) :
    Calls Try.prog 60 #[.slice A x.length c1, .slice B y.length c2] w (MulPost (x.length + y.length) (lval x * lval y) w) := by
  obtain ⟨n, hn⟩ : ∃ n, n = x.length + y.length := ⟨_, rfl⟩
  have Hn := Lib.hid hn
  have hn1 : x.length + y.length ≤ n := by omega
  have hn2 : n ≤ 8589934592 := by omega
  clear hn
  go_enter Try.func60, Try.ntmps60
  go_wp2_with (at_make; refine wpList_make_blk _ rfl _ _ 61 rfl 70 .u32 4 Try.underlying61 row_u32 _ _ _ _ n rfl rfl (by have := Hn.out; omega) (by have := Hn.out; omega) (by omega) (by omega) ?_; intro w1 hP hb1 hs1)
  go_loopw [17] (fun i wr => ∃ (k : Nat) (P : List Nat), k ≤ x.length ∧ i = .int .i64 k ∧ P.length = n ∧ llt P ∧ lval P = lval (x.take k) * lval y ∧ (∀ t, k + y.length ≤ t → P.getD t 0 = 0) ∧ LB wr w.heap.size P ∧ Below w.heap.size w wr) (fun i _ => x.length - (intOf i).toNat)
  case atStart => exact ⟨0, List.replicate n 0, Nat.zero_le _, rfl, by simp, llt_zeros _, by rw [lval_zeros, List.take_zero, lval_nil, Nat.zero_mul], fun t _ => by simp [List.getD_eq_getElem?_getD, List.getElem?_replicate]; split <;> rfl, hP, hb1⟩
  case round =>
    obtain ⟨i, P, hi, rfl, hPl, hPt, hPv, hPz, hBr, hbr⟩ := hrel
    clear hP hb1 hs1
    have HPv := Lib.hid hPv
    have HPz := Lib.hid hPz
    have HPl := Lib.hid hPl
    clear hPv hPz hPl
    by_cases hlt : i < x.length
    · obtain ⟨gx, prex, postx, rfl, hxB⟩ := hA (ne_nil_of hlt)
      clear hA
      obtain ⟨xi, hxi⟩ : ∃ xi, xi = x.getD i 0 := ⟨_, rfl⟩
      have Hxi := Lib.hid hxi
      have hx1 : xi < 4294967296 := by rw [hxi]; exact llt_getD hx i
      clear hxi
      go_wp2
      obtain ⟨wo, hwo⟩ : ∃ wo : World, wo = wr := ⟨_, rfl⟩
      rw [← hwo] at hBr hbr ⊢
      clear hwo
      have hvi : lval P + lpow (i + 0) * 0 = lval (x.take i) * lval y + lpow i * (xi * lval (y.take 0)) := by rw [HPv.out, List.take_zero, lval_nil]; simp
      have Hvi := Lib.hid hvi
      clear hvi
      go_loopw [7, 22] (fun c j wr => ∃ (k : Nat) (Q : List Nat) (cy : Nat), k ≤ y.length ∧ j = .int .i64 k ∧ c = .int .u64 cy ∧ cy < 4294967296 ∧ Q.length = n ∧ llt Q ∧ lval Q + lpow (i + k) * cy = lval (x.take i) * lval y + lpow i * (xi * lval (y.take k)) ∧ (∀ t, i + y.length ≤ t → Q.getD t 0 = 0) ∧ LB wr w.heap.size Q ∧ Below w.heap.size w wr) (fun _ j _ => y.length - (intOf j).toNat)
      case atStart => exact ⟨0, P, 0, Nat.zero_le _, rfl, rfl, by omega, HPl.out, hPt, Hvi.out, HPz.out, hBr, hbr⟩
      case round =>
        obtain ⟨j, Q, cy, hj, rfl, rfl, hcy, hQl, hQt, hQv, hQz, hQB, hQb⟩ := hrel
        have HQv := Lib.hid hQv
        have HQz := Lib.hid hQz
        have HQl := Lib.hid hQl
        have hxc := (hxB.below hQb hxB.lt).cell (mid_at hlt)
        rw [← Hxi.out] at hxc
        by_cases hjl : j < y.length
        · obtain ⟨gy, prey, posty, rfl, hyB⟩ := hB (ne_nil_of hjl)
          have hyc := (hyB.below hQb hyB.lt).cell (mid_at hjl)
          have hpc := hQB.at_ (j := i + j) (by omega)
          have hpf := hQB.free (j := i + j) (by omega)
          have hy1 := llt_getD hy j
          have hp1 := llt_getD hQt (i + j)
          obtain ⟨yj, hyj⟩ : ∃ yj, yj = y.getD j 0 := ⟨_, rfl⟩
          obtain ⟨p, hp⟩ : ∃ p, p = Q.getD (i + j) 0 := ⟨_, rfl⟩
          rw [← hyj] at hyc hy1
          rw [← hp] at hpc hp1
          have hxy := mul_bound hx1 hy1
          obtain ⟨q, hq⟩ : ∃ q, q = xi * yj := ⟨_, rfl⟩
          rw [← hq] at hxy
          have hqe : (xi : Int) * (yj : Int) = (q : Int) := by rw [hq]; simp
          have Hq := Lib.hid hq
          have Hyj := Lib.hid hyj
          have Hp := Lib.hid hp
          have hij : i + j < n := by omega
          clear hQv hQz hQl hB hq hyj hp
          go_wp2
          go_quiet (fail)
          go_wp2
          go_roundw
          case rel => exact ⟨j + 1, Q.set (i + j) ((cy + (q + p)) % 4294967296), (cy + (q + p)) / 4294967296, by omega, by go_num, by go_num, by omega, by rw [List.length_set, HQl.out], llt_set hQt _ _ (by omega),
            mul_step HQl.out hij Hp.out HQv.out (by rw [← Hyj.out, ← Hq.out]; omega), fun t ht => by rw [getD_set_ne (by omega)]; exact HQz.out t ht, (hQB.drewN _).set _ (by go_num), (below_drewN hQb _).setCell (Nat.le_refl _) _⟩
          case measure => simp [intOf]; omega
        · obtain rfl : j = y.length := by omega
          have hpc := hQB.at_ (j := i + y.length) (by omega)
          have hpf := hQB.free (j := i + y.length) (by omega)
          clear hQv hQz hQl
          go_wp2
          go_roundw
          case rel => exact ⟨i + 1, Q.set (i + y.length) cy, by omega, by go_num, by rw [List.length_set, HQl.out], llt_set hQt _ _ hcy, mul_row HQl.out (by omega) (HQz.out _ (by omega)) Hxi.out HQv.out, fun t ht => by rw [getD_set_ne (by omega)]; exact HQz.out t (by omega), hQB.set _ (by go_num), hQb.setCell (Nat.le_refl _) _⟩
          case measure => simp [intOf]; omega
    · go_wp2
      go_ret
      exact mul_end Hn.out HPl.out hPt (by omega) HPv.out hBr hbr

set_option maxHeartbeats 400000 in
theorem Mul_any (a b : ByteArray) (w : World) (ha : a.size ≤ 4294967296) (hb : b.size ≤ 4294967296) :
    Calls Try.prog 44 #[.string a, .string b] w fun e w' => e = .returned (.string (can (nat a * nat b))) ∧ Below w.heap.size w w' := by
  have la := lim_size a
  have lb := lim_size b
  go_enter Try.func44, Try.ntmps44
  go_wp2_with fail
  refine (limbs_any a _ (by omega)).mono ?_
  rintro e w1 ⟨g1, hg1, rfl, hB1, hb1⟩
  go_wp2_with fail
  refine (limbs_any b _ (by omega)).mono ?_
  rintro e w2 ⟨g2, hg2, rfl, hB2, hb2⟩
  go_wp2_with fail
  have hB12 : LB w2 g1 (lim (nat a)) := hB1.below hb2 hB1.lt
  refine (multiply_any _ _ _ _ _ _ _ (by omega) (by omega) (lim_lt _) (lim_lt _) (Rd.of_LB hB12) (Rd.of_LB hB2)).mono ?_
  rintro e w3 ⟨l, hl, hlt, hlv, g3, hg3, rfl, hB3, hb3⟩
  have hl2 : l.length ≤ 17179869184 := by omega
  have Hlv := Lib.hid hlv
  clear hl hlv
  go_wp2_with fail
  refine (magnitude_any _ l _ _ hl2 hlt (Rd.of_LB hB3)).mono ?_
  rintro e w4 ⟨rfl, hb4⟩
  go_wp2_with fail
  go_ret
  refine ⟨?_, hb1.trans ((hb2.mono hb1.size).trans ((hb3.mono (Nat.le_trans hb1.size hb2.size)).trans (hb4.mono (Nat.le_trans hb1.size (Nat.le_trans hb2.size hb3.size)))))⟩
  show Ending.returned (Value.string (can (lval l))) = _
  rw [Hlv.out, lval_lim, lval_lim]
end Go.Proofs.Ytmfinfnjamgboaa
