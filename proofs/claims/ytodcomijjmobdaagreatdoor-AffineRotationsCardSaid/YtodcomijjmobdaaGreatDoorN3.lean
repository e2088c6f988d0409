/- nat.limbs and nat.magnitude. -/
import Derived.Test.YtodcomijjmobdaaGreatDoorN1
import Derived.Test.YtodcomijjmobdaaGreatDoorN2
import Derived.RegionTactic
import Derived.BigRegion
import Derived.Lib.BitFns
import Derived.Lib.ItoaNum
set_option linter.unusedVariables false
set_option linter.unusedSimpArgs false
namespace Go.Proofs.YtodcomijjmobdaaGreatDoor
open Go.RowKit NM

theorem row_u32 : (Tryz.prog.info? 143).map (fun i => (i.zero, i.size, i.bytes)) = some (some (.int .u32 0), 1, 4) := by kernel_rfl

/-- A block of limbs. -/
def LB (w : World) (g : Nat) (l : List Nat) : Prop := Blk w g 143 (cv .u32 l)

/-- A new slice of the limbs l. -/
def NewL (l : List Nat) (w : World) (e : Ending) (w' : World) : Prop := ∃ g, w.heap.size ≤ g ∧ e = .returned (.slice (some ⟨g, 0, none⟩) l.length l.length) ∧ LB w' g l ∧ Below w.heap.size w w'

theorem or_limb {d x r : Nat} (hd : d < 256 ^ r) (hx : x < 256) (hr : r < 4) : bits .or .u32 (d : Int) ((x : Int) * 2 ^ (8 * r) % 4294967296) = ((d + 256 ^ r * x : Nat) : Int) := by
  have h3 : 256 ^ r ≤ 256 ^ 3 := Nat.pow_le_pow_right (by omega) (by omega)
  have h4 : x * 256 ^ r ≤ 255 * 256 ^ 3 := Nat.mul_le_mul (by omega) h3
  have e : (x : Int) * 2 ^ (8 * r) % 4294967296 = ((x * 256 ^ r : Nat) : Int) := by
    rw [pow_2_8]
    omega
  rw [e, u32_or_nat _ _ (by omega) (by omega), or_shift hd]
theorem limbs_round {wr : World} {B m n k d : Nat} (hlt : k < (can n).size) (hk : k / 4 < (lims m (val 256 ((bts (can n)).take k))).length) (hB : LB wr B (lims m (val 256 ((bts (can n)).take k)))) (hd : d < 256 ^ (k % 4))
    (h : (lims m (val 256 ((bts (can n)).take k))).set (k / 4) (d + 256 ^ (k % 4) * (can n)[k].toNat) = lims m (val 256 ((bts (can n)).take k) + 256 ^ k * (can n)[k].toNat)) :
    LB (wr.setCell ⟨B, k / 4, none⟩ (.int .u32 (bits .or .u32 (d : Int) (((can n)[k].toNat : Int) * 2 ^ (8 * (k % 4)) % 4294967296)))).drew B (lims m (val 256 ((bts (can n)).take (k + 1)))) := by
  have := hk
  rw [or_limb hd (UInt8.toNat_lt _) (by omega), val_take_succ, bts_getD _ k hlt, ← h]
  have := hB.set (k / 4) (.int .u32 ((d + 256 ^ (k % 4) * (can n)[k].toNat : Nat) : Int))
  rw [cv_set] at this
  exact this
theorem limbs_end {w wr : World} {m n k : Nat} (hm : m = ((can n).size + 3) / 4) (hk : (can n).size ≤ k) (hB : LB wr w.heap.size (lims m (val 256 ((bts (can n)).take k)))) (hb : Below w.heap.size w wr) :
    NewL (lim n) w (.returned (.slice (some ⟨w.heap.size, 0, none⟩) m m)) wr := by
  rw [List.take_of_length_le (by rw [bts_length]; exact hk), can_val, hm, ← llen_can] at hB
  refine ⟨w.heap.size, Nat.le_refl _, ?_, hB, hb⟩
  rw [lim_length, llen_can, hm]

set_option maxHeartbeats 400000 in
theorem limbs_any (a : ByteArray) (w : World) (ha : a.size ≤ 17179869184) :
    Calls Tryz.prog 143 #[.string a] w (NewL (lim (nat a)) w) := by
  have hsz : (can (nat a)).size ≤ 17179869184 := by have := can_size_le_size a; omega
  obtain ⟨m, hm⟩ : ∃ m, m = ((can (nat a)).size + 3) / 4 := ⟨_, rfl⟩
  have Hm := Lib.hid hm
  have hm1 : (can (nat a)).size ≤ 4 * m := by omega
  have hm2 : m ≤ 4294967296 := by omega
  clear hm
  go_enter Tryz.func143, Tryz.ntmps143
  go_wp2_with (first
    | (go_at_call 140; refine (Normalize_any _ _ (by simp [maxLen]; omega)).mono ?_; rintro e w' ⟨rfl, rfl⟩)
    | (at_make; refine wpList_make_blk _ rfl _ _ 133 rfl 143 .u32 4 Tryz.underlying133 row_u32 _ _ _ _ m rfl rfl (by have := Hm.out; omega) (by have := Hm.out; omega) (by omega) (by omega) ?_; intro w1 hB hb1 hs1))
  go_loopw [4, 14] (fun _ i wr => ∃ k : Nat, k ≤ (can (nat a)).size ∧ i = .int .i64 k ∧ LB wr w.heap.size (lims m (val 256 ((bts (can (nat a))).take k))) ∧ Below w.heap.size w wr) (fun _ i _ => (can (nat a)).size - (intOf i).toNat)
  case atStart => exact ⟨0, Nat.zero_le _, rfl, by rw [List.take_zero]; show LB w1 _ (lims m 0); rw [lims_zero]; exact hB, hb1⟩
  case round =>
    obtain ⟨k, hk, rfl, hBr, hbr⟩ := hrel
    by_cases hlt : k < (can (nat a)).size
    · have hby := lims_byte (m := m) (bts_take_lt (can (nat a)) k) (UInt8.toNat_lt (can (nat a))[k]) (by omega)
      have hcell := hBr.cell (cv_getElem? .u32 _ (k / 4) (by rw [lims_length]; omega))
      have hfree := hBr.free (j := k / 4) (by rw [cv_length, lims_length]; omega)
      have hd1 := hby.1
      have Hby := Lib.hid hby.2
      clear hby
      generalize (lims m (val 256 ((bts (can (nat a))).take k))).getD (k / 4) 0 = d at hcell hd1 Hby
      have b1 := UInt8.toNat_lt (can (nat a))[k]
      have c1 : k / 4 < m := by omega
      go_wp2
      go_region
      go_wp2
      go_roundw
      case rel => exact ⟨k + 1, by omega, by go_num, limbs_round hlt (by rw [lims_length]; omega) hBr hd1 Hby.out, (hbr.setCell (Nat.le_refl _) _).drew⟩
      case measure => simp [intOf]; omega
    · go_wp2
      go_ret
      exact limbs_end Hm.out (by omega) hBr hbr

/-- A slice that reads as the limbs l. -/
def Rd (w : World) (A : Option Addr) (l : List Nat) : Prop := l ≠ [] → ∃ g pre post, A = some ⟨g, pre.length, none⟩ ∧ Blk w g 143 (pre ++ cv .u32 l ++ post)

theorem mid_at {l : List Nat} {pre post : List Value} {j : Nat} (hj : j < l.length) : (pre ++ cv .u32 l ++ post)[pre.length + j]? = some (.int .u32 (l.getD j 0 : Nat)) := by
  rw [List.append_assoc, List.getElem?_append_right (by omega), Nat.add_sub_cancel_left, List.getElem?_append_left (by rw [cv_length]; exact hj), cv_getElem? _ _ _ hj]

theorem ne_nil_of {l : List Nat} {j : Nat} (h : j < l.length) : l ≠ [] := fun e => by
  subst e
  simp at h

theorem magn_end {l : List Nat} {n : Nat} (h : llt l) (hn : n = 4 * l.length) : Ending.returned (.string (can (nat (ofBts (digs 256 n (lval l)))))) = .returned (.string (can (lval l))) := by
  have h1 := lval_lt h
  rw [lpow_eq, ← hn] at h1
  rw [nat_ofBts (digs_lt (by omega) _ _), val_digs, Nat.mod_eq_of_lt h1]
theorem Rd.of_LB {w : World} {g : Nat} {l : List Nat} (h : LB w g l) : Rd w (some ⟨g, 0, none⟩) l := fun _ => ⟨g, [], [], rfl, by rw [List.nil_append, List.append_nil]; exact h⟩
theorem Rd.nil (w : World) (A : Option Addr) : Rd w A [] := fun h => absurd rfl h

set_option maxHeartbeats 400000 in
theorem magnitude_any (A : Option Addr) (l : List Nat) (c : Nat) (w : World) (hl : l.length ≤ 17179869184) (hlt : llt l) (hA : Rd w A l) :
    Calls Tryz.prog 141 #[.slice A l.length c] w fun e w' => e = .returned (.string (can (lval l))) ∧ Below w.heap.size w w' := by
  obtain ⟨n, hn⟩ : ∃ n, n = 4 * l.length := ⟨_, rfl⟩
  have Hn := Lib.hid hn
  have hn1 : n ≤ 68719476736 := by omega
  clear hn
  go_enter Tryz.func141, Tryz.ntmps141
  go_wp2_with (at_make; refine wpList_make_blk _ rfl _ _ 129 rfl 5 .u8 1 Tryz.underlying129 row_u8 _ _ _ _ n rfl rfl (by have := Hn.out; omega) (by have := Hn.out; omega) (by omega) (by omega) ?_; intro w1 hB hb1 hs1)
  go_loopw [4, 11] (fun _ i wr => ∃ k : Nat, k ≤ n ∧ i = .int .i64 k ∧ Blk wr w.heap.size 5 (cv .u8 (digs 256 k (lval l) ++ List.replicate (n - k) 0)) ∧ Below w.heap.size w wr) (fun _ i _ => n - (intOf i).toNat)
  case atStart => exact ⟨0, Nat.zero_le _, rfl, by simpa [digs] using hB, hb1⟩
  case round =>
    obtain ⟨k, hk, rfl, hBr, hbr⟩ := hrel
    clear hB hb1 hs1
    by_cases hkn : k < n
    · have hkl : k / 4 < l.length := by have := Hn.out; omega
      obtain ⟨g, pre, post, rfl, hx⟩ := hA (ne_nil_of hkl)
      have hcell := hBr.next (digs_length _ _ _) (by omega)
      have hfree := hBr.nextFree (digs_length _ _ _) (by omega)
      have hxc := (hx.below hbr hx.lt).cell (mid_at hkl)
      have hx1 := llt_getD hlt (k / 4)
      have hxb := limb_byte hlt k
      have Hxb := Lib.hid hxb
      clear hxb hA hx
      generalize l.getD (k / 4) 0 = d at hxc hx1 Hxb
      go_wp2
      go_roundw
      case rel => exact ⟨k + 1, by omega, by go_num, by rw [digs_succ]; exact hBr.push (digs_length _ _ _) (by omega) (by rw [← Hxb.out]; exact byte_of d (k % 4)) (by omega), hbr.setCell (Nat.le_refl _) _⟩
      case measure => simp [intOf]; omega
    · obtain rfl : k = n := by omega
      have hst := run_str_blk (P := Tryz.prog) (src := 129) (dst := 9) (l := digs 256 k (lval l)) (post := []) (by simpa using hBr) k k (digs_length _ _ _).symm Tryz.underlying129 Tryz.underlying5 Tryz.underlying9
      go_wp2_with (go_at_call 140; refine (Normalize_any _ _ (by rw [size_ofBts, digs_length]; simp [maxLen]; omega)).mono ?_; rintro e w' ⟨rfl, rfl⟩)
      go_ret
      exact ⟨magn_end hlt Hn.out, hbr⟩

/-- What trim returns: the limbs of the number, where the slice lay. -/
def TrimPost (A : Option Addr) (N : Nat) (w : World) (e : Ending) (w' : World) : Prop := ∃ A' c', e = .returned (.slice A' (lim N).length c') ∧ (lim N ≠ [] → A' = A) ∧ (lim N).length ≤ c' ∧ w = w'

theorem trim_zero {l : List Nat} (hz : ∀ j, l.getD j 0 = 0) : lval l = 0 := val_eq_zero hz

theorem trim_round {l : List Nat} {i k : Nat} (hi : i = l.length - k - 1) (hk : k < l.length) (hz : ∀ j, l.length - k ≤ j → l.getD j 0 = 0) (hd : 0 = l.getD i 0) : ∀ j, l.length - (k + 1) ≤ j → l.getD j 0 = 0 := by
  intro j hj
  by_cases e : j = i
  · rw [e, ← hd]
  · exact hz j (by omega)
theorem trim_some {l : List Nat} {A : Option Addr} {w w' : World} {i k d c : Nat} (hlt : llt l) (hil : i < l.length) (hk : k < l.length) (hi : i = l.length - k - 1) (hz : ∀ j, l.length - k ≤ j → l.getD j 0 = 0) (hd : d = l.getD i 0) (hd0 : ¬ d = 0) (hic : i + 1 ≤ c) (hw : w = w') :
    TrimPost A (lval l) w (.returned (.slice A (i + 1) c)) w' := by
  have e := lim_take hlt (i + 1) (by omega) (fun j hj => hz j (by omega)) (.inr (by rw [Nat.add_sub_cancel, ← hd]; exact hd0))
  have el : (lim (lval l)).length = i + 1 := by rw [e, List.length_take]; omega
  exact ⟨A, c, by rw [el], fun _ => rfl, by omega, hw⟩
theorem trim_none {N : Nat} {A : Option Addr} {w w' : World} (h : N = 0) (hw : w = w') : TrimPost A N w (.returned (.slice none 0 0)) w' := by
  subst h
  exact ⟨none, 0, rfl, fun h => absurd lim_zero h, Nat.le_refl _, hw⟩

set_option maxHeartbeats 400000 in
theorem trim_any (A : Option Addr) (l : List Nat) (c : Nat) (w : World) (hl : l.length ≤ 4294967296) (hlc : l.length ≤ c) (hlt : llt l) (hA : Rd w A l) :
    Calls Tryz.prog 160 #[.slice A l.length c] w (TrimPost A (lval l) w) := by
  go_enter Tryz.func160, Tryz.ntmps160
  go_wp2
  go_loop [3, 4, 7] (fun _ _ i => ∃ k : Nat, k ≤ l.length ∧ i = .int .i64 k ∧ ∀ j, l.length - k ≤ j → l.getD j 0 = 0) (fun _ _ i => l.length - (intOf i).toNat)
  case atStart => exact ⟨0, Nat.zero_le _, rfl, fun j hj => by rw [List.getD_eq_getElem?_getD, List.getElem?_eq_none (by omega)]; rfl⟩
  case round =>
    obtain ⟨k, hk, rfl, hz⟩ := hrel
    have Hz := Lib.hid hz
    clear hz
    by_cases hlt2 : k < l.length
    · obtain ⟨i, hi⟩ : ∃ i : Nat, i = l.length - k - 1 := ⟨_, rfl⟩
      have hil : i < l.length := by omega
      obtain ⟨g, pre, post, rfl, hx⟩ := hA (ne_nil_of hil)
      have hxc := hx.cell (mid_at hil)
      have e : ((l.length : Int) - (k : Int)) = (i : Int) + 1 := by omega
      have e2 : ((i : Int) + 1).toNat = i + 1 := by omega
      obtain ⟨d, hd⟩ : ∃ d, d = l.getD i 0 := ⟨_, rfl⟩
      rw [← hd] at hxc
      have Hd := Lib.hid hd
      have Hi := Lib.hid hi
      have hic : i + 1 ≤ c := by omega
      clear hd hi hA hx
      by_cases hd0 : d = 0
      · subst hd0
        go_wp2
        go_round
        case rel => exact ⟨k + 1, by omega, by go_num, trim_round Hi.out hlt2 Hz.out Hd.out⟩
        case measure => simp [intOf]; omega
      · have hdn : ((d : Int) != 0) = true := by simp; omega
        go_wp2
        go_ret
        exact trim_some hlt hil hlt2 Hi.out Hz.out Hd.out hd0 hic rfl
    · go_wp2
      go_ret
      exact trim_none (trim_zero (fun j => Hz.out j (by omega))) rfl
end Go.Proofs.YtodcomijjmobdaaGreatDoor

/- nat.multiply and nat.Mul. -/
namespace Go.Proofs.YtodcomijjmobdaaGreatDoor
open Go.RowKit NM

theorem LB.lt {w : World} {g : Nat} {l : List Nat} (h : LB w g l) : g < w.heap.size := Blk.lt h
theorem LB.at_ {w : World} {g : Nat} {l : List Nat} (h : LB w g l) {j : Nat} (hj : j < l.length) : w.cell? ⟨g, j, none⟩ = some (.int .u32 (l.getD j 0 : Nat)) := Blk.cell h (cv_getElem? _ _ _ hj)
theorem LB.free {w : World} {g : Nat} {l : List Nat} (h : LB w g l) {j : Nat} (hj : j < l.length) : w.frozen? ⟨g, j, none⟩ = false := Blk.free h (by rw [cv_length]; exact hj)
theorem LB.set {w : World} {g : Nat} {l : List Nat} (h : LB w g l) (j : Nat) {v : Value} {d : Nat} (hv : v = .int .u32 (d : Int)) : LB (w.setCell ⟨g, j, none⟩ v) g (l.set j d) := by
  subst hv
  have := Blk.set h j (.int .u32 (d : Int))
  rw [cv_set] at this
  exact this
theorem LB.drewN {w : World} {g : Nat} {l : List Nat} (h : LB w g l) (n : Nat) : LB (w.drewN n) g l := h

theorem lim_size (a : ByteArray) : (lim (nat a)).length ≤ a.size := by
  rw [lim_length, llen_can]
  have := can_size_le_size a
  omega
/-- A new slice of n limbs of value N. -/
def MulPost (n N : Nat) (w : World) (e : Ending) (w' : World) : Prop := ∃ l, l.length = n ∧ llt l ∧ lval l = N ∧ NewL l w e w'
theorem mul_end {x y P : List Nat} {w wr : World} {n i : Nat} (hn : n = x.length + y.length) (hPl : P.length = n) (hPt : llt P) (hi : x.length ≤ i) (hv : lval P = lval (x.take i) * lval y) (hB : LB wr w.heap.size P) (hb : Below w.heap.size w wr) :
    MulPost (x.length + y.length) (lval x * lval y) w (.returned (.slice (some ⟨w.heap.size, 0, none⟩) n n)) wr := by
  refine ⟨P, by omega, hPt, by rw [hv, List.take_of_length_le hi], w.heap.size, Nat.le_refl _, by rw [hPl], hB, hb⟩

set_option maxHeartbeats 1000000 in
theorem multiply_any (A B : Option Addr) (x y : List Nat) (c1 c2 : Nat) (w : World) (hxl : x.length ≤ 4294967296) (hyl : y.length ≤ 4294967296) (hx : llt x) (hy : llt y) (hA : Rd w A x) (hB : Rd w B y) :
    Calls Tryz.prog 142 #[.slice A x.length c1, .slice B y.length c2] w (MulPost (x.length + y.length) (lval x * lval y) w) := by
  obtain ⟨n, hn⟩ : ∃ n, n = x.length + y.length := ⟨_, rfl⟩
  have Hn := Lib.hid hn
  have hn1 : x.length + y.length ≤ n := by omega
  have hn2 : n ≤ 8589934592 := by omega
  clear hn
  go_enter Tryz.func142, Tryz.ntmps142
  go_wp2_with (at_make; refine wpList_make_blk _ rfl _ _ 133 rfl 143 .u32 4 Tryz.underlying133 row_u32 _ _ _ _ n rfl rfl (by have := Hn.out; omega) (by have := Hn.out; omega) (by omega) (by omega) ?_; intro w1 hP hb1 hs1)
  go_loopw [17] (fun i wr => ∃ (k : Nat) (P : List Nat), k ≤ x.length ∧ i = .int .i64 k ∧ P.length = n ∧ llt P ∧ lval P = lval (x.take k) * lval y ∧ (∀ t, k + y.length ≤ t → P.getD t 0 = 0) ∧ LB wr w.heap.size P ∧ Below w.heap.size w wr) (fun i _ => x.length - (intOf i).toNat)
  case atStart => exact ⟨0, List.replicate n 0, Nat.zero_le _, rfl, by simp, llt_zeros _, by rw [lval_zeros, List.take_zero, lval_nil, Nat.zero_mul], fun t _ => by simp [List.getD_eq_getElem?_getD, List.getElem?_replicate]; split <;> rfl, hP, hb1⟩
  case round =>
    obtain ⟨i, P, hi, rfl, hPl, hPt, hPv, hPz, hBr, hbr⟩ := hrel
    clear hP hb1 hs1
    have HPv := Lib.hid hPv
    have HPz := Lib.hid hPz
    have HPl := Lib.hid hPl
    clear hPv hPz hPl
    by_cases hlt : i < x.length
    · obtain ⟨gx, prex, postx, rfl, hxB⟩ := hA (ne_nil_of hlt)
      clear hA
      obtain ⟨xi, hxi⟩ : ∃ xi, xi = x.getD i 0 := ⟨_, rfl⟩
      have Hxi := Lib.hid hxi
      have hx1 : xi < 4294967296 := by rw [hxi]; exact llt_getD hx i
      clear hxi
      go_wp2
      obtain ⟨wo, hwo⟩ : ∃ wo : World, wo = wr := ⟨_, rfl⟩
      rw [← hwo] at hBr hbr ⊢
      clear hwo
      have hvi : lval P + lpow (i + 0) * 0 = lval (x.take i) * lval y + lpow i * (xi * lval (y.take 0)) := by rw [HPv.out, List.take_zero, lval_nil]; simp
      have Hvi := Lib.hid hvi
      clear hvi
      go_loopw [7, 22] (fun c j wr => ∃ (k : Nat) (Q : List Nat) (cy : Nat), k ≤ y.length ∧ j = .int .i64 k ∧ c = .int .u64 cy ∧ cy < 4294967296 ∧ Q.length = n ∧ llt Q ∧ lval Q + lpow (i + k) * cy = lval (x.take i) * lval y + lpow i * (xi * lval (y.take k)) ∧ (∀ t, i + y.length ≤ t → Q.getD t 0 = 0) ∧ LB wr w.heap.size Q ∧ Below w.heap.size w wr) (fun _ j _ => y.length - (intOf j).toNat)
      case atStart => exact ⟨0, P, 0, Nat.zero_le _, rfl, rfl, by omega, HPl.out, hPt, Hvi.out, HPz.out, hBr, hbr⟩
      case round =>
        obtain ⟨j, Q, cy, hj, rfl, rfl, hcy, hQl, hQt, hQv, hQz, hQB, hQb⟩ := hrel
        have HQv := Lib.hid hQv
        have HQz := Lib.hid hQz
        have HQl := Lib.hid hQl
        have hxc := (hxB.below hQb hxB.lt).cell (mid_at hlt)
        rw [← Hxi.out] at hxc
        by_cases hjl : j < y.length
        · obtain ⟨gy, prey, posty, rfl, hyB⟩ := hB (ne_nil_of hjl)
          have hyc := (hyB.below hQb hyB.lt).cell (mid_at hjl)
          have hpc := hQB.at_ (j := i + j) (by omega)
          have hpf := hQB.free (j := i + j) (by omega)
          have hy1 := llt_getD hy j
          have hp1 := llt_getD hQt (i + j)
          obtain ⟨yj, hyj⟩ : ∃ yj, yj = y.getD j 0 := ⟨_, rfl⟩
          obtain ⟨p, hp⟩ : ∃ p, p = Q.getD (i + j) 0 := ⟨_, rfl⟩
          rw [← hyj] at hyc hy1
          rw [← hp] at hpc hp1
          have hxy := mul_bound hx1 hy1
          obtain ⟨q, hq⟩ : ∃ q, q = xi * yj := ⟨_, rfl⟩
          rw [← hq] at hxy
          have hqe : (xi : Int) * (yj : Int) = (q : Int) := by rw [hq]; simp
          have Hq := Lib.hid hq
          have Hyj := Lib.hid hyj
          have Hp := Lib.hid hp
          have hij : i + j < n := by omega
          clear hQv hQz hQl hB hq hyj hp
          go_wp2
          go_quiet (fail)
          go_wp2
          go_roundw
          case rel => exact ⟨j + 1, Q.set (i + j) ((cy + (q + p)) % 4294967296), (cy + (q + p)) / 4294967296, by omega, by go_num, by go_num, by omega, by rw [List.length_set, HQl.out], llt_set hQt _ _ (by omega),
            mul_step HQl.out hij Hp.out HQv.out (by rw [← Hyj.out, ← Hq.out]; omega), fun t ht => by rw [getD_set_ne (by omega)]; exact HQz.out t ht, (hQB.drewN _).set _ (by go_num), (below_drewN hQb _).setCell (Nat.le_refl _) _⟩
          case measure => simp [intOf]; omega
        · obtain rfl : j = y.length := by omega
          have hpc := hQB.at_ (j := i + y.length) (by omega)
          have hpf := hQB.free (j := i + y.length) (by omega)
          clear hQv hQz hQl
          go_wp2
          go_roundw
          case rel => exact ⟨i + 1, Q.set (i + y.length) cy, by omega, by go_num, by rw [List.length_set, HQl.out], llt_set hQt _ _ hcy, mul_row HQl.out (by omega) (HQz.out _ (by omega)) Hxi.out HQv.out, fun t ht => by rw [getD_set_ne (by omega)]; exact HQz.out t (by omega), hQB.set _ (by go_num), hQb.setCell (Nat.le_refl _) _⟩
          case measure => simp [intOf]; omega
    · go_wp2
      go_ret
      exact mul_end Hn.out HPl.out hPt (by omega) HPv.out hBr hbr

set_option maxHeartbeats 400000 in
theorem Mul_any (a b : ByteArray) (w : World) (ha : a.size ≤ 4294967296) (hb : b.size ≤ 4294967296) :
    Calls Tryz.prog 118 #[.string a, .string b] w fun e w' => e = .returned (.string (can (nat a * nat b))) ∧ Below w.heap.size w w' := by
  have la := lim_size a
  have lb := lim_size b
  go_enter Tryz.func118, Tryz.ntmps118
  go_wp2_with fail
  refine (limbs_any a _ (by omega)).mono ?_
  rintro e w1 ⟨g1, hg1, rfl, hB1, hb1⟩
  go_wp2_with fail
  refine (limbs_any b _ (by omega)).mono ?_
  rintro e w2 ⟨g2, hg2, rfl, hB2, hb2⟩
  go_wp2_with fail
  have hB12 : LB w2 g1 (lim (nat a)) := hB1.below hb2 hB1.lt
  refine (multiply_any _ _ _ _ _ _ _ (by omega) (by omega) (lim_lt _) (lim_lt _) (Rd.of_LB hB12) (Rd.of_LB hB2)).mono ?_
  rintro e w3 ⟨l, hl, hlt, hlv, g3, hg3, rfl, hB3, hb3⟩
  have hl2 : l.length ≤ 17179869184 := by omega
  have Hlv := Lib.hid hlv
  clear hl hlv
  go_wp2_with fail
  refine (magnitude_any _ l _ _ hl2 hlt (Rd.of_LB hB3)).mono ?_
  rintro e w4 ⟨rfl, hb4⟩
  go_wp2_with fail
  go_ret
  refine ⟨?_, hb1.trans ((hb2.mono hb1.size).trans ((hb3.mono (Nat.le_trans hb1.size hb2.size)).trans (hb4.mono (Nat.le_trans hb1.size (Nat.le_trans hb2.size hb3.size)))))⟩
  show Ending.returned (Value.string (can (lval l))) = _
  rw [Hlv.out, lval_lim, lval_lim]
end Go.Proofs.YtodcomijjmobdaaGreatDoor

/- voussoirref01.Mul and small. -/
namespace Go.Proofs.YtodcomijjmobdaaGreatDoor
open Go.RowKit NM

theorem row_int : (Tryz.prog.info? 3).map (fun i => (i.zero, i.size, i.bytes)) = some (some (.int .i64 0), 1, 8) := by kernel_rfl

/-- A block of ints. -/
def IB (w : World) (g : Nat) (l : List Nat) : Prop := Blk w g 3 (cv .i64 l)
theorem IB.at_ {w : World} {g : Nat} {l : List Nat} (h : IB w g l) {j : Nat} (hj : j < l.length) : w.cell? ⟨g, j, none⟩ = some (.int .i64 (l.getD j 0 : Nat)) := Blk.cell h (cv_getElem? _ _ _ hj)
theorem IB.free {w : World} {g : Nat} {l : List Nat} (h : IB w g l) {j : Nat} (hj : j < l.length) : w.frozen? ⟨g, j, none⟩ = false := Blk.free h (by rw [cv_length]; exact hj)
theorem IB.set {w : World} {g : Nat} {l : List Nat} (h : IB w g l) (j : Nat) {v : Value} {d : Nat} (hv : v = .int .i64 (d : Int)) : IB (w.setCell ⟨g, j, none⟩ v) g (l.set j d) := by
  subst hv
  have := Blk.set h j (.int .i64 (d : Int))
  rw [cv_set] at this
  exact this
theorem IB.drewN {w : World} {g : Nat} {l : List Nat} (h : IB w g l) (n : Nat) : IB (w.drewN n) g l := h

theorem lt_set {B : Nat} {l : List Nat} (h : NM.lt B l) (i x : Nat) (hx : x < B) : NM.lt B (l.set i x) := fun y hy => by
  rcases List.mem_or_eq_of_mem_set hy with h1 | h1
  · exact h y h1
  · omega
theorem lt_zeros {B : Nat} (hB : 0 < B) (k : Nat) : NM.lt B (List.replicate k 0) := fun x hx => by
  rw [List.mem_replicate] at hx
  omega
/-- One place of one row of a long multiplication. -/
theorem rmul_step {P : List Nat} {a b : ByteArray} {i j n c p d c' : Nat} (hP : P.length = n) (hij : i + j < n) (hp : p = P.getD (i + j) 0) (hv : val 256 P + 256 ^ (i + j) * c = val 256 ((bts a).take i) * nat b + 256 ^ i * (byteAt a i * val 256 ((bts b).take j)))
    (ht : d + 256 * c' = p + byteAt a i * byteAt b j + c) : val 256 (P.set (i + j) d) + 256 ^ (i + (j + 1)) * c' = val 256 ((bts a).take i) * nat b + 256 ^ i * (byteAt a i * val 256 ((bts b).take (j + 1))) := by
  have h1 := val_set (B := 256) (l := P) (i := i + j) (by omega) d
  rw [← hp] at h1
  have e : 256 ^ (i + j) * (d + 256 * c') = 256 ^ (i + j) * (p + byteAt a i * byteAt b j + c) := by rw [ht]
  rw [Nat.mul_add, Nat.mul_add, Nat.mul_add] at e
  rw [val_take_succ, Nat.mul_add (byteAt a i), Nat.mul_add (256 ^ i)]
  have e2 : 256 ^ i * (byteAt a i * (256 ^ j * (bts b).getD j 0)) = 256 ^ (i + j) * (byteAt a i * byteAt b j) := by
    rw [Nat.pow_add, Nat.mul_assoc, Nat.mul_left_comm (byteAt a i)]
    rfl
  have e3 : 256 ^ (i + (j + 1)) * c' = 256 ^ (i + j) * (256 * c') := by rw [← Nat.add_assoc, Nat.pow_succ, Nat.mul_assoc]
  rw [e2, e3]
  omega
/-- While something is carried, the place is not behind the product. -/
theorem rmul_in {P : List Nat} {a b : ByteArray} {i j c : Nat} (hv : val 256 P + 256 ^ (i + j) * c = val 256 ((bts a).take i) * nat b + 256 ^ i * (byteAt a i * val 256 ((bts b).take j))) (hc : 0 < c) : j ≤ b.size := by
  rcases Nat.lt_or_ge b.size j with h | h
  · exfalso
    rw [List.take_of_length_le (show (bts b).length ≤ j by rw [bts_length]; omega)] at hv
    have e : val 256 ((bts a).take i) * nat b + 256 ^ i * (byteAt a i * val 256 (bts b)) = val 256 ((bts a).take (i + 1)) * nat b := by
      rw [val_take_succ, Nat.add_mul, Nat.mul_assoc]
      rfl
    rw [e] at hv
    have h1 := bts_take_lt a (i + 1)
    have h2 := nat_lt b
    have h3 : val 256 ((bts a).take (i + 1)) * nat b < 256 ^ (i + 1) * 256 ^ b.size := Nat.mul_lt_mul'' h1 h2
    rw [← Nat.pow_add] at h3
    have h4 : 256 ^ (i + 1 + b.size) ≤ 256 ^ (i + j) := Nat.pow_le_pow_right (by omega) (by omega)
    have h5 : 256 ^ (i + j) * 1 ≤ 256 ^ (i + j) * c := Nat.mul_le_mul_left _ hc
    omega
  · exact h
theorem rmul_row {P : List Nat} {a b : ByteArray} {i j : Nat} (hj : b.size ≤ j) (hv : val 256 P + 256 ^ (i + j) * 0 = val 256 ((bts a).take i) * nat b + 256 ^ i * (byteAt a i * val 256 ((bts b).take j))) :
    val 256 P = val 256 ((bts a).take (i + 1)) * nat b := by
  rw [List.take_of_length_le (show (bts b).length ≤ j by rw [bts_length]; omega), Nat.mul_zero, Nat.add_zero] at hv
  rw [hv, val_take_succ, Nat.add_mul, Nat.mul_assoc]
  rfl
theorem rmul_start {P : List Nat} {a b : ByteArray} {i : Nat} (h : val 256 P = val 256 ((bts a).take i) * nat b) : val 256 P + 256 ^ (i + 0) * 0 = val 256 ((bts a).take i) * nat b + 256 ^ i * (byteAt a i * val 256 ((bts b).take 0)) := by
  rw [h, List.take_zero]
  simp [val]
theorem byte_mul (x y : Nat) (hx : x < 256) (hy : y < 256) : x * y ≤ 65025 := Nat.mul_le_mul (show x ≤ 255 by omega) (show y ≤ 255 by omega)

theorem rmul_end {P : List Nat} {a b : ByteArray} {i k : Nat} (hP : NM.lt 256 P) (hk : P.length ≤ k) (hi : a.size ≤ i) (hv : val 256 P = val 256 ((bts a).take i) * nat b) : Ending.returned (.string (can (nat (ofBts (P.take k))))) = .returned (.string (can (nat a * nat b))) := by
  rw [List.take_of_length_le hk, nat_ofBts hP, hv, List.take_of_length_le (by rw [bts_length]; exact hi)]
  rfl

set_option maxHeartbeats 1000000 in
theorem refMul_any (a b : ByteArray) (w : World) (ha : a.size ≤ 4294967296) (hb : b.size ≤ 4294967296) :
    Calls Tryz.prog 139 #[.string a, .string b] w fun e w' => e = .returned (.string (can (nat a * nat b))) ∧ Below w.heap.size w w' := by
  obtain ⟨n, hn⟩ : ∃ n, n = a.size + b.size + 1 := ⟨_, rfl⟩
  have Hn := Lib.hid hn
  have hn1 : a.size + b.size + 1 ≤ n := by omega
  have hn2 : n ≤ 8589934593 := by omega
  clear hn
  go_enter Tryz.func139, Tryz.ntmps139
  go_wp2_with (at_make; refine wpList_make_blk _ rfl _ _ 142 rfl 3 .i64 8 Tryz.underlying142 row_int _ _ _ _ n rfl rfl (by have := Hn.out; omega) (by have := Hn.out; omega) (by omega) (by omega) ?_; intro w1 hP hb1 hs1)
  go_loopw [6] (fun i wr => ∃ (k : Nat) (P : List Nat), k ≤ a.size ∧ i = .int .i64 k ∧ P.length = n ∧ NM.lt 256 P ∧ val 256 P = val 256 ((bts a).take k) * nat b ∧ IB wr w.heap.size P ∧ Below w.heap.size w wr) (fun i _ => a.size - (intOf i).toNat)
  case atStart => exact ⟨0, List.replicate n 0, Nat.zero_le _, rfl, by simp, lt_zeros (by omega) _, by rw [val_zeros, List.take_zero, val, Nat.zero_mul], hP, hb1⟩
  case round =>
    obtain ⟨i, P, hi, rfl, hPl, hPt, hPv, hBr, hbr⟩ := hrel
    clear hP hb1 hs1
    have HPv := Lib.hid hPv
    have HPl := Lib.hid hPl
    clear hPv hPl
    by_cases hlt : i < a.size
    · go_wp2
      obtain ⟨wo, hwo⟩ : ∃ wo : World, wo = wr := ⟨_, rfl⟩
      rw [← hwo] at hBr hbr ⊢
      clear hwo
      go_loopw [7, 8, 9] (fun c j _ wr => ∃ (k : Nat) (Q : List Nat) (cy : Nat), k ≤ b.size + 1 ∧ j = .int .i64 k ∧ c = .int .i64 cy ∧ cy < 256 ∧ Q.length = n ∧ NM.lt 256 Q ∧ val 256 Q + 256 ^ (i + k) * cy = val 256 ((bts a).take i) * nat b + 256 ^ i * (byteAt a i * val 256 ((bts b).take k)) ∧ IB wr w.heap.size Q ∧ Below w.heap.size w wr) (fun _ j _ _ => b.size + 1 - (intOf j).toNat)
      case atStart => exact ⟨0, P, 0, Nat.zero_le _, rfl, rfl, by omega, HPl.out, hPt, rmul_start HPv.out, hBr, hbr⟩
      case round =>
        obtain ⟨j, Q, cy, hj, rfl, rfl, hcy, hQl, hQt, hQv, hQB, hQb⟩ := hrel
        have HQv := Lib.hid hQv
        have HQl := Lib.hid hQl
        have hin : 0 < cy → j ≤ b.size := fun h => rmul_in hQv h
        by_cases hgo : j < b.size ∨ 0 < cy
        · have hjb : j ≤ b.size := by omega
          have hpc := hQB.at_ (j := i + j) (by omega)
          have hpf := hQB.free (j := i + j) (by omega)
          have hp1 := getD_lt (B := 256) (by omega) hQt (i + j)
          obtain ⟨p, hp⟩ : ∃ p, p = Q.getD (i + j) 0 := ⟨_, rfl⟩
          rw [← hp] at hpc hp1
          have hxy := byte_mul _ _ (byteAt_lt a i) (byteAt_lt b j)
          obtain ⟨q, hq⟩ : ∃ q, q = byteAt a i * byteAt b j := ⟨_, rfl⟩
          rw [← hq] at hxy
          have hqe : (byteAt a i : Int) * (byteAt b j : Int) = (q : Int) := by rw [hq]; simp
          have Hq := Lib.hid hq
          have Hp := Lib.hid hp
          have hij : i + j < n := by omega
          clear hQv hQl hq hp hin
          rcases (show j < b.size ∨ (¬ j < b.size ∧ 0 < cy) from by omega) with h1 | ⟨h1, h2⟩
          all_goals
            go_wp2
            go_quiet ((go_at_call 148; exact quietly (at_any _ _ _)))
            go_wp2
            go_roundw
            case rel => exact ⟨j + 1, Q.set (i + j) ((p + q + cy) % 256), (p + q + cy) / 256, by omega, by go_num, by go_num, by omega, by rw [List.length_set, HQl.out], lt_set hQt _ _ (by omega),
              rmul_step HQl.out hij Hp.out HQv.out (by rw [← Hq.out]; omega), (hQB.drewN _).set _ (by go_num), (below_drewN hQb _).setCell (Nat.le_refl _) _⟩
            case measure => simp [intOf]; omega
        · have h1 : ¬ j < b.size := by omega
          have h2 : cy = 0 := by omega
          subst h2
          clear hQv hQl hin
          go_wp2
          go_roundw
          case rel => exact ⟨i + 1, Q, by omega, by go_num, HQl.out, hQt, rmul_row (by omega) HQv.out, hQB, hQb⟩
          case measure => simp [intOf]; omega
    · go_wp2
      obtain ⟨wo, hwo⟩ : ∃ wo : World, wo = wr := ⟨_, rfl⟩
      rw [← hwo] at hBr hbr ⊢
      clear hwo
      go_loopw [10, 12, 64] (fun v _ j wr => ∃ k : Nat, k ≤ n ∧ j = .int .i64 k ∧ Own wr wo.heap.size 5 .u8 v (P.take k) ∧ Below wo.heap.size wo wr) (fun _ _ j _ => n - (intOf j).toNat)
      case atStart => exact ⟨0, Nat.zero_le _, rfl, Own.made wo #[] 0 rfl (Nat.le_refl _) (by omega), (Below.refl _ _).alloc (Nat.le_refl _) _⟩
      case round =>
        obtain ⟨k, hk, rfl, hown, hb2⟩ := hrel
        by_cases hkn : k < n
        · have hkl : k < P.length := by rw [HPl.out]; exact hkn
          have hpc := (Blk.below hBr hb2 (Blk.lt hBr)).cell (cv_getElem? .i64 P k hkl)
          have hts : P.take (k + 1) = P.take k ++ [P.getD k 0] := by rw [List.take_succ_eq_append_getElem hkl, List.getD_eq_getElem?_getD, List.getElem?_eq_getElem hkl]; rfl
          have Hts := Lib.hid hts
          have hl : (P.take k).length ≤ 17179869184 := by rw [List.length_take]; omega
          have hp1 := getD_lt (B := 256) (by omega) hPt k
          have hs2 : wo.heap.size ≤ wr.heap.size := hb2.size
          clear hts
          generalize P.getD k 0 = p at hpc hp1 Hts
          go_wp2_with (at_builtin; refine wpList_push _ rfl _ _ 129 rfl wo.heap.size 5 .u8 1 Tryz.underlying129 row_u8 _ (P.take k) rfl (hown.alloc _) ⟨wr.heap.size, 0, none⟩ 1 rfl p (((Blk.new _ _ _).cell (j := 0) rfl).trans (congrArg some (by go_num))) hl (by omega) (by simp; omega) ?_; intro v2 w2 hown2 _ hb3)
          go_roundw
          case rel => exact ⟨k + 1, by omega, by go_num, by rw [Hts.out]; exact hown2, (hb2.alloc hs2 _).trans hb3⟩
          case measure => simp [intOf]; omega
        · obtain rfl : k = n := by omega
          have hst := run_str_own (P := Tryz.prog) hown Tryz.underlying129 Tryz.underlying5 Tryz.underlying9
          go_wp2_with (go_at_call 102; refine (Norm_any _ _ (by rw [size_ofBts, List.length_take]; simp [maxLen]; omega)).mono ?_; rintro e w' ⟨rfl, rfl⟩)
          go_ret
          exact ⟨rmul_end hPt (by rw [HPl.out]; omega) (by omega) HPv.out, hbr.trans (hb2.mono hbr.size)⟩

set_option maxHeartbeats 400000 in
theorem small_any (a : ByteArray) (d : Nat) (w : World) (ha : a.size ≤ 4294967296) (hd : d < 256) :
    Calls Tryz.prog 135 #[.string a, .int .i64 (d : Int)] w fun e w' => e = .returned (.string (can (nat a * d))) ∧ Below w.heap.size w w' := by
  have hst := run_str_blk (P := Tryz.prog) (src := 129) (dst := 9) (l := [d]) (post := []) (Blk.new w #[.int .u8 (d : Int)] 5) 1 1 rfl Tryz.underlying129 Tryz.underlying5 Tryz.underlying9
  go_enter Tryz.func135, Tryz.ntmps135
  go_wp2_with (go_at_call 139; refine (refMul_any _ _ _ ha (by rw [size_ofBts]; simp)).mono ?_; rintro e w1 ⟨rfl, hb1⟩)
  go_ret
  refine ⟨?_, ((Below.refl _ _).alloc (Nat.le_refl _) _).trans (hb1.mono (by simp))⟩
  show Ending.returned (Value.string (can (nat a * nat (ofBts [d])))) = _
  rw [nat_ofBts (lt_cons hd (lt_nil _))]
  simp [val]
end Go.Proofs.YtodcomijjmobdaaGreatDoor

/- nat.divideByLimb, shiftLeft, shiftRight. -/
namespace Go.Proofs.YtodcomijjmobdaaGreatDoor
open Go.RowKit NM

/-- The limbs l stand in block g between pre and post; A is their address. -/
def Win (w : World) (A : Option Addr) (g : Nat) (pre : List Value) (l : List Nat) (post : List Value) : Prop := l ≠ [] → A = some ⟨g, pre.length, none⟩ ∧ Blk w g 143 (pre ++ cv .u32 l ++ post)
theorem Win.rd {w : World} {A : Option Addr} {g : Nat} {pre post : List Value} {l : List Nat} (h : Win w A g pre l post) : Rd w A l := fun hl => ⟨g, pre, post, (h hl).1, (h hl).2⟩
theorem Win.of_LB {w : World} {g : Nat} {l : List Nat} (h : LB w g l) : Win w (some ⟨g, 0, none⟩) g [] l [] := fun _ => ⟨rfl, by rw [List.nil_append, List.append_nil]; exact h⟩
theorem Win.nil (w : World) (A : Option Addr) (g : Nat) (pre post : List Value) : Win w A g pre [] post := fun h => absurd rfl h
theorem Win.keep {w w' : World} {A : Option Addr} {g : Nat} {pre post : List Value} {l : List Nat} (h : Win w A g pre l post) (hb : Below w.heap.size w w') : Win w' A g pre l post := fun hl => ⟨(h hl).1, (h hl).2.keep hb⟩

theorem mid_set {l : List Nat} {pre post : List Value} {j d : Nat} (hj : j < l.length) : (pre ++ cv .u32 l ++ post).set (pre.length + j) (.int .u32 (d : Int)) = pre ++ cv .u32 (l.set j d) ++ post := by
  rw [List.append_assoc, List.set_append_right _ _ (by omega), Nat.add_sub_cancel_left, List.set_append_left _ _ (by rw [cv_length]; exact hj), cv_set, List.append_assoc]
theorem mid_len {l : List Nat} {pre post : List Value} {j : Nat} (hj : j < l.length) : pre.length + j < (pre ++ cv .u32 l ++ post).length := by
  simp [cv_length]
  omega

/-- A block in which only the window has turned. -/
def MB (w : World) (g : Nat) (pre : List Value) (l : List Nat) (post : List Value) : Prop := Blk w g 143 (pre ++ cv .u32 l ++ post)
section
variable {w w' : World} {g : Nat} {pre post : List Value} {l : List Nat} {j : Nat}
theorem MB.lt (h : MB w g pre l post) : g < w.heap.size := Blk.lt h
theorem MB.at_ (h : MB w g pre l post) (hj : j < l.length) : w.cell? ⟨g, pre.length + j, none⟩ = some (.int .u32 (l.getD j 0 : Nat)) := Blk.cell h (mid_at hj)
theorem MB.free (h : MB w g pre l post) (hj : j < l.length) : w.frozen? ⟨g, pre.length + j, none⟩ = false := Blk.free h (mid_len hj)
theorem MB.set (h : MB w g pre l post) (hj : j < l.length) {v : Value} {d : Nat} (hv : v = .int .u32 (d : Int)) : MB (w.setCell ⟨g, pre.length + j, none⟩ v) g pre (l.set j d) post := by
  subst hv
  have := Blk.set h (pre.length + j) (.int .u32 (d : Int))
  rw [mid_set hj] at this
  exact this
theorem MB.keep (h : MB w g pre l post) (hb : Below w.heap.size w w') : MB w' g pre l post := Blk.keep h hb
theorem MB.drewN (h : MB w g pre l post) (n : Nat) : MB (w.drewN n) g pre l post := h
end
theorem gb_set {w w' : World} {g : Nat} (h : w.grownBy w' (some g)) (o : Nat) (v : Value) : w.grownBy (w'.setCell ⟨g, o, none⟩ v) (some g) :=
  ⟨h.os, h.tape, h.output, by simpa [World.setCell] using h.size, fun k hk hne => (Below.heap_setCell w' _ v k (fun e => hne (by rw [e]))).trans (h.block k hk hne)⟩
theorem gb_drewN {w w' : World} {r : Option Nat} (h : w.grownBy w' r) (n : Nat) : w.grownBy (w'.drewN n) r := ⟨h.os, h.tape, h.output, h.size, h.block⟩
theorem gb_trans {a b c : World} {r : Option Nat} (h : a.grownBy b r) (k : b.grownBy c r) : a.grownBy c r :=
  ⟨k.os.trans h.os, k.tape.trans h.tape, k.output.trans h.output, Nat.le_trans h.size k.size, fun i hi hne => (k.block i (Nat.lt_of_lt_of_le hi h.size) hne).trans (h.block i hi hne)⟩
theorem gb_below {a b : World} (h : Below a.heap.size a b) (r : Option Nat) : a.grownBy b r := ⟨h.os, h.tape, h.output, h.size, fun i hi _ => h.block i hi⟩

/-- What a call does that changes the window alone. -/
def Chg (A : Option Addr) (g : Nat) (pre : List Value) (l : List Nat) (post : List Value) (l' : List Nat) (w w' : World) : Prop := l'.length = l.length ∧ (l ≠ [] → MB w' g pre l' post) ∧ w.grownBy w' (some g) ∧ (l ≠ [] → A = some ⟨g, pre.length, none⟩)

/-- The number of the limbs from place k on. -/
def lhigh (l : List Nat) (k : Nat) : Nat := lval (l.drop k)
theorem lhigh_zero (l : List Nat) : lhigh l 0 = lval l := rfl
theorem lhigh_end (l : List Nat) (k : Nat) (h : l.length ≤ k) : lhigh l k = 0 := by
  unfold lhigh
  rw [List.drop_of_length_le h]
  rfl
theorem lhigh_step (l : List Nat) (i : Nat) (hi : i < l.length) : lhigh l i = l.getD i 0 + 4294967296 * lhigh l (i + 1) := by
  unfold lhigh
  rw [List.drop_eq_getElem_cons hi, lval_cons, List.getD_eq_getElem?_getD, List.getElem?_eq_getElem hi]
  rfl

/-- The list behind i rounds of a division from above: the lower limbs as they were, the quotient's. -/
def divl (l : List Nat) (d k : Nat) : List Nat := l.take k ++ lims (l.length - k) (lhigh l k / d)
theorem divl_length (l : List Nat) (d k : Nat) (h : k ≤ l.length) : (divl l d k).length = l.length := by
  unfold divl
  rw [List.length_append, List.length_take, lims_length]
  omega
theorem divl_at (l : List Nat) (d i : Nat) (h : i < l.length) : (divl l d (i + 1)).getD i 0 = l.getD i 0 := by
  unfold divl
  rw [List.getD_eq_getElem?_getD, List.getElem?_append_left (by rw [List.length_take]; omega), List.getElem?_take, if_pos (by omega), ← List.getD_eq_getElem?_getD]
theorem ldiv_place {V x d : Nat} (hd : 0 < d) : (x + 4294967296 * V) / d = (x + 4294967296 * (V % d)) / d + 4294967296 * (V / d) ∧ (x + 4294967296 * V) % d = (x + 4294967296 * (V % d)) % d := by
  have h := Nat.div_add_mod V d
  have e : x + 4294967296 * V = (x + 4294967296 * (V % d)) + d * (4294967296 * (V / d)) := by
    have : 4294967296 * V = 4294967296 * (d * (V / d)) + 4294967296 * (V % d) := by rw [← Nat.mul_add, h]
    rw [this, Nat.mul_left_comm]
    omega
  constructor
  · rw [e, Nat.add_mul_div_left _ _ hd]
  · rw [e, Nat.add_mul_mod_self_left]
theorem ldiv_digit {r x d : Nat} (hd : 0 < d) (hr : r < d) (hx : x < 4294967296) : (x + 4294967296 * r) / d < 4294967296 := by
  rw [Nat.div_lt_iff_lt_mul hd]
  have : 4294967296 * (r + 1) ≤ 4294967296 * d := Nat.mul_le_mul_left _ hr
  omega
theorem divl_set (l : List Nat) (d i q : Nat) (hi : i < l.length) (hq : q < 4294967296) (h : lhigh l i / d = q + 4294967296 * (lhigh l (i + 1) / d)) : (divl l d (i + 1)).set i q = divl l d i := by
  unfold divl
  have e1 : l.take (i + 1) = l.take i ++ [l[i]] := List.take_succ_eq_append_getElem hi
  have e2 : lims (l.length - i) (lhigh l i / d) = q :: lims (l.length - (i + 1)) (lhigh l (i + 1) / d) := by
    unfold lims
    rw [show l.length - i = (l.length - (i + 1)) + 1 from by omega, digs, h, Nat.add_mul_mod_self_left, Nat.mod_eq_of_lt hq, Nat.add_mul_div_left _ _ (by omega), Nat.div_eq_of_lt hq, Nat.zero_add]
  rw [e1, e2, List.append_assoc, List.set_append_right _ _ (by rw [List.length_take]; omega), List.length_take, Nat.min_eq_left (by omega), Nat.sub_self]
  rfl
theorem divl_start (l : List Nat) (d k : Nat) (h : k = l.length) : divl l d k = l := by
  unfold divl
  rw [h, List.take_of_length_le (Nat.le_refl _), Nat.sub_self]
  unfold lims
  rw [digs, List.append_nil]
theorem divl_end (l : List Nat) (d : Nat) : divl l d 0 = lims l.length (lval l / d) := by
  unfold divl
  rw [List.take_zero, List.nil_append, Nat.sub_zero, lhigh_zero]

theorem shl_or {r x : Nat} (hx : x < 4294967296) (hr : r < 4294967296) : bits .or .u64 ((r : Int) * 4294967296) (x : Int) = ((x + 4294967296 * r : Nat) : Int) := by
  have e : (r : Int) * 4294967296 = ((r * 4294967296 : Nat) : Int) := by omega
  rw [e, u64_or_nat _ _ (by omega) (by omega)]
  congr 1
  have := or_shift (v := x) (x := r) (k := 4) (by omega)
  rw [Nat.or_comm]
  simpa using this

/-- What divideByLimb leaves. -/
def ByLimb (A : Option Addr) (g : Nat) (pre : List Value) (l : List Nat) (post : List Value) (d : Nat) (w : World) (e : Ending) (w' : World) : Prop := e = .returned (.int .u32 (lval l % d : Nat)) ∧ Chg A g pre l post (lims l.length (lval l / d)) w w'

theorem quot_limb {t d : Nat} (h : t / d < 4294967296) : Value.int .u32 (IntKind.u64.wrap ((t : Int) / (d : Int)) % 4294967296) = .int .u32 ((t / d : Nat) : Int) := by
  have e : (t : Int) / (d : Int) = ((t / d : Nat) : Int) := rfl
  rw [e]
  generalize t / d = q at h
  rw [IntKind.wrap_u64, Int.emod_eq_of_lt (by omega) (by omega), Int.emod_eq_of_lt (by omega) (by omega)]
theorem bylimb_ret {l : List Nat} {d : Nat} (_h : lhigh l 0 % d < 4294967296) : Ending.returned (.int .u32 ((lhigh l 0 % d : Nat) : Int)) = .returned (.int .u32 (lval l % d : Nat)) := rfl

set_option maxHeartbeats 1000000 in
theorem divideByLimb_any (A : Option Addr) (g : Nat) (pre : List Value) (l : List Nat) (post : List Value) (c d : Nat) (w : World) (hll : l.length ≤ 17179869184) (hl : llt l) (hd : 0 < d) (hd2 : d < 4294967296) (hA : Win w A g pre l post) :
    Calls Tryz.prog 155 #[.slice A l.length c, .int .u32 (d : Int)] w (ByLimb A g pre l post d w) := by
  go_enter Tryz.func155, Tryz.ntmps155
  go_wp2
  go_loopw [5, 10] (fun r i wr => ∃ k : Nat, k ≤ l.length ∧ i = .int .i64 k ∧ r = .int .u64 (lhigh l (l.length - k) % d : Nat) ∧ (l ≠ [] → MB wr g pre (divl l d (l.length - k)) post) ∧ w.grownBy wr (some g)) (fun _ i _ => l.length - (intOf i).toNat)
  case atStart => exact ⟨0, Nat.zero_le _, rfl, by rw [lhigh_end _ _ (by omega), Nat.zero_mod]; rfl, fun h => by rw [divl_start _ _ _ (by omega)]; exact (hA h).2, World.grownBy.refl _ _⟩
  case round =>
    obtain ⟨k, hk, rfl, rfl, hM, hg⟩ := hrel
    by_cases hlt : k < l.length
    · obtain ⟨i, hi⟩ : ∃ i : Nat, i + 1 = l.length - k := ⟨l.length - k - 1, by omega⟩
      have hil : i < l.length := by omega
      have e : ((l.length : Int) - 1 - (k : Int)) = (i : Int) := by omega
      have hM1 := hM (ne_nil_of hlt)
      obtain ⟨rfl, _⟩ := hA (ne_nil_of hlt)
      rw [← hi] at hM1
      have hcell := hM1.at_ (j := i) (by rw [divl_length _ _ _ (by omega)]; exact hil)
      have hfree := hM1.free (j := i) (by rw [divl_length _ _ _ (by omega)]; exact hil)
      rw [divl_at _ _ _ hil] at hcell
      have hx := llt_getD hl i
      have hplace := ldiv_place (V := lhigh l (i + 1)) (x := l.getD i 0) hd
      rw [← lhigh_step l i hil] at hplace
      have hr : lhigh l (i + 1) % d < d := Nat.mod_lt _ hd
      have hq := ldiv_digit hd hr hx
      rw [← hi]
      have Hi := Lib.hid hi
      have Hplace := Lib.hid hplace
      clear hi hM hA hplace
      obtain ⟨x, hxd⟩ : ∃ x, x = l.getD i 0 := ⟨_, rfl⟩
      rw [← hxd] at hcell hx hq Hplace
      clear hxd
      generalize lhigh l (i + 1) % d = r at hr hq Hplace ⊢
      have hor := shl_or hx (show r < 4294967296 by omega)
      obtain ⟨t, ht⟩ : ∃ t, t = x + 4294967296 * r := ⟨_, rfl⟩
      rw [← ht] at hor hq Hplace
      clear ht
      go_wp2
      go_roundw
      case rel => exact ⟨k + 1, by omega, by go_num, by rw [show l.length - (k + 1) = i from by have := Hi.out; omega, Hplace.out.2]; rfl, fun _ => by rw [show l.length - (k + 1) = i from by have := Hi.out; omega, ← divl_set l d i (t / d) hil hq Hplace.out.1]; exact hM1.set (by rw [divl_length _ _ _ (by omega)]; exact hil) (quot_limb hq), gb_set hg _ _⟩
      case measure => simp [intOf]; omega
    · obtain rfl : k = l.length := by omega
      rw [Nat.sub_self] at hM ⊢
      have hrd : lhigh l 0 % d < 4294967296 := by have := Nat.mod_lt (lhigh l 0) hd; omega
      go_wp2
      go_ret
      exact ⟨bylimb_ret hrd, lims_length _ _, fun h => by rw [← divl_end]; exact hM h, hg, fun h => (hA h).1⟩

/-- 2^s, as the walk has it. -/
theorem two_pow_cast (s : Nat) : (2 : Int) ^ s = ((2 ^ s : Nat) : Int) := by norm_cast
theorem two_pow_le {s : Nat} (h : s < 32) : 2 ^ s ≤ 2147483648 := Nat.pow_le_pow_right (n := 2) (by omega) (show s ≤ 31 by omega)
theorem two_pow_pos' (s : Nat) : 0 < 2 ^ s := Nat.pow_pos (by omega)

theorem pow_split {s : Nat} (h : s < 32) : 4294967296 = 2 ^ (32 - s) * 2 ^ s := by
  rw [← Nat.pow_add, show 32 - s + s = 32 from by omega]
theorem shl_wide {x s : Nat} (hs : s < 32) (hx : x < 4294967296) : x * 2 ^ s < 9223372036854775808 := by
  have h1 := two_pow_le hs
  have h2 := Nat.mul_le_mul (show x ≤ 4294967295 by omega) h1
  omega
theorem shl_low {p x s : Nat} (hs : s < 32) (hp : p < 2 ^ s) (_hx : x < 4294967296) : p ||| (x * 2 ^ s % 4294967296) = p + x * 2 ^ s % 4294967296 ∧ p + x * 2 ^ s % 4294967296 < 4294967296 := by
  have e : x * 2 ^ s % 4294967296 = (x % 2 ^ (32 - s)) * 2 ^ s := by
    conv => lhs; rw [pow_split hs]
    exact Nat.mul_mod_mul_right _ _ _
  constructor
  · rw [e, Nat.or_comm, Nat.mul_comm, ← Nat.two_pow_add_eq_or_of_lt hp, Nat.add_comm]
  · rw [e]
    have h1 : x % 2 ^ (32 - s) < 2 ^ (32 - s) := Nat.mod_lt _ (two_pow_pos' _)
    have h2 : (x % 2 ^ (32 - s) + 1) * 2 ^ s ≤ 2 ^ (32 - s) * 2 ^ s := Nat.mul_le_mul_right _ h1
    rw [← pow_split hs, Nat.add_mul, Nat.one_mul] at h2
    omega
theorem shl_high {x s : Nat} (_hs : s < 32) (hx : x < 4294967296) : x * 2 ^ s / 4294967296 < 2 ^ s := by
  rw [Nat.div_lt_iff_lt_mul (by omega), Nat.mul_comm (2 ^ s)]
  exact Nat.mul_lt_mul_of_pos_right hx (two_pow_pos' s)
theorem shl_wrap {x s : Nat} (hs : s < 32) (hx : x < 4294967296) : IntKind.u64.wrap ((x : Int) * 2 ^ s) = ((x * 2 ^ s : Nat) : Int) := by
  have h := shl_wide hs hx
  rw [two_pow_cast, IntKind.wrap_u64]
  generalize hw : x * 2 ^ s = v at h
  have e : (x : Int) * ((2 ^ s : Nat) : Int) = (v : Int) := by rw [← hw]; simp
  rw [e]
  omega
theorem shl_val1 {p x s : Nat} (hs : s < 32) (hp : p < 2 ^ s) (hx : x < 4294967296) : Value.int .u32 (bits .or .u32 (p : Int) (IntKind.u64.wrap ((x : Int) * 2 ^ s) % 4294967296)) = .int .u32 ((p + x * 2 ^ s % 4294967296 : Nat) : Int) := by
  have h := shl_low hs hp hx
  have h1 := two_pow_le hs
  rw [shl_wrap hs hx]
  have e : (((x * 2 ^ s : Nat) : Int) % 4294967296) = ((x * 2 ^ s % 4294967296 : Nat) : Int) := rfl
  rw [e, u32_or_nat _ _ (by omega) (Nat.mod_lt _ (by omega)), h.1]
theorem shl_val2 {x s : Nat} (hs : s < 32) (hx : x < 4294967296) : Value.int .u32 (IntKind.u64.wrap ((x : Int) * 2 ^ s) / 4294967296 % 4294967296) = .int .u32 ((x * 2 ^ s / 4294967296 : Nat) : Int) := by
  have h := shl_high hs hx
  have h1 := two_pow_le hs
  rw [shl_wrap hs hx]
  generalize x * 2 ^ s = v at h
  congr 1
  omega
theorem shl_step {P x : List Nat} {i p xi s : Nat} (hP : P.length = x.length + 1) (hi : i < x.length) (hp : p = P.getD i 0) (hz : P.getD (i + 1) 0 = 0) (hx : xi = x.getD i 0) (hv : lval P = lval (x.take i) * 2 ^ s) :
    lval ((P.set i (p + xi * 2 ^ s % 4294967296)).set (i + 1) (xi * 2 ^ s / 4294967296)) = lval (x.take (i + 1)) * 2 ^ s := by
  have h1 := lval_set (l := P) (i := i) (by omega) (p + xi * 2 ^ s % 4294967296)
  have h2 := lval_set (l := P.set i (p + xi * 2 ^ s % 4294967296)) (i := i + 1) (by rw [List.length_set]; omega) (xi * 2 ^ s / 4294967296)
  rw [getD_set_ne (by omega), hz, Nat.mul_zero, Nat.add_zero] at h2
  rw [← hp, Nat.mul_add] at h1
  rw [h2, lval_take_succ, ← hx, Nat.add_mul, ← hv, lpow_succ, Nat.mul_assoc, Nat.mul_assoc]
  have e := Nat.mod_add_div (xi * 2 ^ s) 4294967296
  have e2 : lpow i * (xi * 2 ^ s) = lpow i * (xi * 2 ^ s % 4294967296) + lpow i * (4294967296 * (xi * 2 ^ s / 4294967296)) := by rw [← Nat.mul_add, e]
  omega
theorem shl_next {P x : List Nat} {i v s : Nat} {y : Nat} (hP : P.length = x.length + 1) (hi : i < x.length) (h : v < 2 ^ s) : ((P.set i y).set (i + 1) v).getD (i + 1) 0 < 2 ^ s := by
  rw [List.getD_eq_getElem?_getD, List.getElem?_set_self (by rw [List.length_set]; omega)]
  exact h

set_option maxHeartbeats 1000000 in
theorem shiftLeft_any (A : Option Addr) (x : List Nat) (c s : Nat) (w : World) (hxl : x.length ≤ 17179869184) (hx : llt x) (hs : s < 32) (hA : Rd w A x) :
    Calls Tryz.prog 157 #[.slice A x.length c, .int .i64 (s : Int)] w (MulPost (x.length + 1) (lval x * 2 ^ s) w) := by
  obtain ⟨n, hn⟩ : ∃ n, n = x.length := ⟨_, rfl⟩
  have Hn := Lib.hid hn
  clear hn
  go_enter Tryz.func157, Tryz.ntmps157
  go_wp2_with (at_make; refine wpList_make_blk _ rfl _ _ 133 rfl 143 .u32 4 Tryz.underlying133 row_u32 _ _ _ _ (x.length + 1) rfl rfl (by omega) (by omega) (by omega) (by omega) ?_; intro w1 hP hb1 hs1)
  go_loopw [14] (fun i wr => ∃ (k : Nat) (P : List Nat), k ≤ x.length ∧ i = .int .i64 k ∧ P.length = x.length + 1 ∧ llt P ∧ lval P = lval (x.take k) * 2 ^ s ∧ P.getD k 0 < 2 ^ s ∧ (∀ t, k < t → P.getD t 0 = 0) ∧ LB wr w.heap.size P ∧ Below w.heap.size w wr) (fun i _ => x.length - (intOf i).toNat)
  case atStart => exact ⟨0, List.replicate (x.length + 1) 0, Nat.zero_le _, rfl, by simp, llt_zeros _, by rw [lval_zeros, List.take_zero, lval_nil, Nat.zero_mul], by simp [List.getD_eq_getElem?_getD]; exact two_pow_pos' s, fun t _ => by simp [List.getD_eq_getElem?_getD, List.getElem?_replicate]; split <;> rfl, hP, hb1⟩
  case round =>
    obtain ⟨i, P, hi, rfl, hPl, hPt, hPv, hPs, hPz, hBr, hbr⟩ := hrel
    clear hP hb1 hs1
    by_cases hlt : i < x.length
    · obtain ⟨gx, prex, postx, rfl, hxB⟩ := hA (ne_nil_of hlt)
      have hxc := (hxB.below hbr hxB.lt).cell (mid_at hlt)
      have hpc := hBr.at_ (j := i) (by omega)
      have hpf := hBr.free (j := i) (by omega)
      have hpc1 := hBr.at_ (j := i + 1) (by omega)
      rw [hPz (i + 1) (by omega)] at hpc1
      have hpf1 := hBr.free (j := i + 1) (by omega)
      have hx1 := llt_getD hx i
      obtain ⟨xi, hxi⟩ : ∃ xi, xi = x.getD i 0 := ⟨_, rfl⟩
      obtain ⟨p, hp⟩ : ∃ p, p = P.getD i 0 := ⟨_, rfl⟩
      rw [← hxi] at hxc hx1
      rw [← hp] at hpc hPs
      have HPv := Lib.hid hPv
      have HPz := Lib.hid hPz
      have HPl := Lib.hid hPl
      have Hxi := Lib.hid hxi
      have Hp := Lib.hid hp
      clear hPv hPz hPl hxi hp hxB hA
      go_wp2
      go_roundw
      case rel => exact ⟨i + 1, (P.set i (p + xi * 2 ^ s % 4294967296)).set (i + 1) (xi * 2 ^ s / 4294967296), by omega, by go_num, by rw [List.length_set, List.length_set, HPl.out], llt_set (llt_set hPt _ _ (shl_low hs hPs hx1).2) _ _ (by have := shl_high hs hx1; have := two_pow_le hs; omega), shl_step HPl.out hlt Hp.out (HPz.out _ (by omega)) Hxi.out HPv.out,
        shl_next HPl.out hlt (shl_high hs hx1), fun t ht => by rw [getD_set_ne (by omega), getD_set_ne (by omega)]; exact HPz.out t (by omega), (hBr.set i (shl_val1 hs hPs hx1)).set (i + 1) (shl_val2 hs hx1), (hbr.setCell (Nat.le_refl _) _).setCell (Nat.le_refl _) _⟩
      case measure => simp [intOf]; omega
    · go_wp2
      go_ret
      exact ⟨P, hPl, hPt, by rw [hPv, List.take_of_length_le (by omega)], w.heap.size, Nat.le_refl _, by rw [hPl]; rfl, hBr, hbr⟩
end Go.Proofs.YtodcomijjmobdaaGreatDoor

/- nat.shiftRight and math/bits.LeadingZeros32. -/
namespace Go.Proofs.YtodcomijjmobdaaGreatDoor
open Go.RowKit NM

/-- A limb of the number shifted right. -/
theorem shr_limb {l : List Nat} (hl : llt l) {s : Nat} (hs : s < 32) (i : Nat) : lval l / 2 ^ s / lpow i % 4294967296 = (l.getD i 0 + 4294967296 * l.getD (i + 1) 0) / 2 ^ s % 4294967296 := by
  have h1 := lval_digit hl i
  have h2 := lval_digit hl (i + 1)
  rw [lpow_succ, ← Nat.div_div_eq_div_mul] at h2
  rw [← h1, ← h2, Nat.div_div_eq_div_mul, Nat.mul_comm, ← Nat.div_div_eq_div_mul]
  generalize lval l / lpow i = M
  have e1 := Nat.div_add_mod M 4294967296
  have e2 := Nat.div_add_mod (M / 4294967296) 4294967296
  have e3 : M = (M % 4294967296 + 4294967296 * (M / 4294967296 % 4294967296)) + 2 ^ s * (2 ^ (32 - s) * 4294967296 * (M / 4294967296 / 4294967296)) := by
    have e4 : 2 ^ s * (2 ^ (32 - s) * 4294967296 * (M / 4294967296 / 4294967296)) = 4294967296 * (4294967296 * (M / 4294967296 / 4294967296)) := by
      rw [← Nat.mul_assoc, ← Nat.mul_assoc, Nat.mul_comm (2 ^ s), ← pow_split hs, Nat.mul_assoc]
    rw [e4]
    omega
  conv => lhs; rw [e3]
  rw [Nat.add_mul_div_left _ _ (two_pow_pos' s), Nat.mul_right_comm, Nat.add_mul_mod_self_right]

/-- The list behind k rounds of a shift to the right. -/
def shrl (l : List Nat) (s k : Nat) : List Nat := lims k (lval l / 2 ^ s) ++ l.drop k
theorem shrl_length (l : List Nat) (s k : Nat) (h : k ≤ l.length) : (shrl l s k).length = l.length := by
  unfold shrl
  rw [List.length_append, List.length_drop, lims_length]
  omega
theorem shrl_at (l : List Nat) (s k j : Nat) (h : k ≤ j) : (shrl l s k).getD j 0 = l.getD j 0 := by
  unfold shrl
  rw [List.getD_eq_getElem?_getD, List.getElem?_append_right (by rw [lims_length]; exact h), lims_length, List.getElem?_drop, List.getD_eq_getElem?_getD]
  congr 2
  omega
theorem shrl_set (l : List Nat) (s k v : Nat) (hk : k < l.length) (hv : v = lval l / 2 ^ s / lpow k % 4294967296) : (shrl l s k).set k v = shrl l s (k + 1) := by
  unfold shrl
  rw [lims_succ, List.set_append_right _ _ (by rw [lims_length]; omega), lims_length, Nat.sub_self, List.drop_eq_getElem_cons hk, List.set_cons_zero, hv]
  simp
theorem shrl_end (l : List Nat) (s k : Nat) (h : k = l.length) : shrl l s k = lims l.length (lval l / 2 ^ s) := by
  unfold shrl
  rw [h, List.drop_of_length_le (Nat.le_refl _), List.append_nil]

theorem shr_wide {x y : Nat} (hx : x < 4294967296) (hy : y < 4294967296) : bits .or .u64 (x : Int) ((y : Int) * 4294967296) = ((x + 4294967296 * y : Nat) : Int) := by
  have e : (y : Int) * 4294967296 = ((y * 4294967296 : Nat) : Int) := by omega
  rw [e, u64_or_nat _ _ (by omega) (by omega)]
  congr 1
  simpa using or_shift (v := x) (x := y) (k := 4) (by omega)

/-- What shiftRight leaves. -/
def ShrPost (A : Option Addr) (g : Nat) (pre : List Value) (l : List Nat) (post : List Value) (s : Nat) (w : World) (e : Ending) (w' : World) : Prop := e = .returned (.tuple #[]) ∧ Chg A g pre l post (lims l.length (lval l / 2 ^ s)) w w'

theorem shr_val1 {x s v : Nat} (h : v = x / 2 ^ s % 4294967296) : Value.int .u32 ((x : Int) / 2 ^ s % 4294967296) = .int .u32 ((v : Nat) : Int) := by
  rw [h, two_pow_cast]
  rfl
theorem shr_val2 {x y s v : Nat} (h : v = (x + 4294967296 * y) / 2 ^ s % 4294967296) : Value.int .u32 (((x : Int) + 4294967296 * (y : Int)) / 2 ^ s % 4294967296) = .int .u32 ((v : Nat) : Int) := by
  rw [h, two_pow_cast]
  rfl

set_option maxHeartbeats 1000000 in
theorem shiftRight_any (A : Option Addr) (g : Nat) (pre : List Value) (l : List Nat) (post : List Value) (c s : Nat) (w : World) (hll : l.length ≤ 17179869184) (hl : llt l) (hs : s < 32) (hA : Win w A g pre l post) :
    Calls Tryz.prog 159 #[.slice A l.length c, .int .i64 (s : Int)] w (ShrPost A g pre l post s w) := by
  go_enter Tryz.func159, Tryz.ntmps159
  go_wp2
  go_loopw [4, 5, 8] (fun _ _ i wr => ∃ k : Nat, k ≤ l.length ∧ i = .int .i64 k ∧ (l ≠ [] → MB wr g pre (shrl l s k) post) ∧ w.grownBy wr (some g)) (fun _ _ i _ => l.length - (intOf i).toNat)
  case atStart => exact ⟨0, Nat.zero_le _, rfl, fun h => (hA h).2, World.grownBy.refl _ _⟩
  case round =>
    obtain ⟨k, hk, rfl, hM, hg⟩ := hrel
    by_cases hlt : k < l.length
    · have hM1 := hM (ne_nil_of hlt)
      obtain ⟨rfl, _⟩ := hA (ne_nil_of hlt)
      have hcell := hM1.at_ (j := k) (by rw [shrl_length _ _ _ hk]; exact hlt)
      have hfree := hM1.free (j := k) (by rw [shrl_length _ _ _ hk]; exact hlt)
      rw [shrl_at _ _ _ _ (Nat.le_refl _)] at hcell
      have hx := llt_getD hl k
      have hlimb := shr_limb hl hs k
      by_cases hlt2 : k + 1 < l.length
      · have hcell2 := hM1.at_ (j := k + 1) (by rw [shrl_length _ _ _ hk]; exact hlt2)
        rw [shrl_at _ _ _ _ (by omega)] at hcell2
        have hy := llt_getD hl (k + 1)
        have Hlimb := Lib.hid hlimb
        clear hlimb hM hA
        generalize l.getD k 0 = x at hcell hx Hlimb
        generalize l.getD (k + 1) 0 = y at hcell2 hy Hlimb
        have hor := shr_wide hx hy
        go_wp2
        go_roundw
        case rel => exact ⟨k + 1, by omega, by go_num, fun _ => by rw [← shrl_set l s k _ hlt rfl]; exact hM1.set (by rw [shrl_length _ _ _ hk]; exact hlt) (shr_val2 Hlimb.out), gb_set hg _ _⟩
        case measure => simp [intOf]; omega
      · have hz : l.getD (k + 1) 0 = 0 := by rw [List.getD_eq_getElem?_getD, List.getElem?_eq_none (by omega)]; rfl
        rw [hz, Nat.mul_zero, Nat.add_zero] at hlimb
        have Hlimb := Lib.hid hlimb
        clear hlimb hM hA hz
        generalize l.getD k 0 = x at hcell hx Hlimb
        go_wp2
        go_roundw
        case rel => exact ⟨k + 1, by omega, by go_num, fun _ => by rw [← shrl_set l s k _ hlt rfl]; exact hM1.set (by rw [shrl_length _ _ _ hk]; exact hlt) (shr_val1 Hlimb.out), gb_set hg _ _⟩
        case measure => simp [intOf]; omega
    · go_wp2
      go_end0
      exact ⟨rfl, lims_length _ _, fun h => by rw [← shrl_end l s k (by omega)]; exact hM h, hg, fun h => (hA h).1⟩
end Go.Proofs.YtodcomijjmobdaaGreatDoor

/- nat.estimateLimb, subtractMultiple, addBack, divideStep. -/
namespace Go.Proofs.YtodcomijjmobdaaGreatDoor
open Go.RowKit NM

/-- What estimateLimb returns. -/
def EstPost (q x1 x2 x3 y1 y2 : Nat) (w : World) (e : Ending) (w' : World) : Prop := ∃ t : Nat, e = .returned (.int .u64 (t : Int)) ∧ EstEnd q x1 x2 x3 y1 y2 t ∧ Below w.heap.size w w'

theorem est_quot {top x y : Nat} (h : top = x) (hle : x / y ≤ 4294967297) : Value.int .u64 (IntKind.u64.wrap ((top : Int) / (y : Int))) = .int .u64 ((x / y : Nat) : Int) := by
  subst h
  have e : (top : Int) / (y : Int) = ((top / y : Nat) : Int) := rfl
  rw [e]
  generalize top / y = q at hle
  rw [IntKind.wrap_u64, Int.emod_eq_of_lt (by omega) (by omega)]
theorem est_rem {top x y : Nat} (h : top = x) : Value.int .u64 ((top : Int) % (y : Int)) = .int .u64 ((x % y : Nat) : Int) := by
  subst h
  rfl
theorem est_ret {t : Nat} (h : 0 < t) : Ending.returned (.int .u64 ((t : Int) - 1)) = .returned (.int .u64 ((t - 1 : Nat) : Int)) := by
  congr 2
  omega

set_option maxHeartbeats 2000000 in
theorem estimateLimb_any (gx gy : Nat) (prex prey postx posty : List Value) (X Y : List Nat) (c1 c2 m q x1 x2 x3 y1 y2 : Nat) (w : World) (hX : X.length = m + 3) (hY : Y.length = m + 2) (hm : m ≤ 8589934592)
    (hx1 : x1 = X.getD m 0) (hx2 : x2 = X.getD (m + 1) 0) (hx3 : x3 = X.getD (m + 2) 0) (hy2 : y2 = Y.getD m 0) (hy1 : y1 = Y.getD (m + 1) 0) (hXl : llt X) (hYl : llt Y) (hMx : MB w gx prex X postx) (hMy : MB w gy prey Y posty)
    (hq32 : q < 4294967296) (hq : q * (y2 + 4294967296 * y1) ≤ x1 + 4294967296 * (x2 + 4294967296 * x3)) (h3 : x3 ≤ y1) (hy : 2147483648 ≤ y1) :
    Calls Tryz.prog 167 #[.slice (some ⟨gx, prex.length, none⟩) X.length c1, .slice (some ⟨gy, prey.length, none⟩) Y.length c2] w (EstPost q x1 x2 x3 y1 y2 w) := by
  have k1 := hMx.at_ (j := m) (by omega)
  have k2 := hMx.at_ (j := m + 1) (by omega)
  have k3 := hMx.at_ (j := m + 2) (by omega)
  have k4 := hMy.at_ (j := m) (by omega)
  have k5 := hMy.at_ (j := m + 1) (by omega)
  have b1 := llt_getD hXl m
  have b2 := llt_getD hXl (m + 1)
  have b3 := llt_getD hXl (m + 2)
  have b4 := llt_getD hYl m
  have b5 := llt_getD hYl (m + 1)
  rw [← hx1] at k1 b1
  rw [← hx2] at k2 b2
  rw [← hx3] at k3 b3
  rw [← hy2] at k4 b4
  rw [← hy1] at k5 b5
  rw [hX, hY]
  clear hx1 hx2 hx3 hy1 hy2 hX hY hMx hMy hXl hYl
  have hor := shl_or b2 b3
  have hst := Est.start hy b5 b2 h3 hq b1
  have Hst := Lib.hid hst
  have Hq := Lib.hid hq
  obtain ⟨top, htop⟩ : ∃ t, t = x2 + 4294967296 * x3 := ⟨_, rfl⟩
  rw [← htop] at hor
  have Htop := Lib.hid htop
  have htop2 : top < 18446744073709551616 := by omega
  clear hst hq htop
  have e1 : (m : Int) + 2 - 1 = (m : Int) + 1 := by omega
  go_enter Tryz.func167, Tryz.ntmps167
  go_wp2
  go_quiet (fail)
  go_wp2
  go_quiet (fail)
  go_wp2
  go_quiet (fail)
  go_wp2
  go_loopw [9, 10] (fun e r wr => ∃ t s n : Nat, e = .int .u64 t ∧ r = .int .u64 s ∧ Est q x1 x2 x3 y1 y2 t s ∧ wr = w.drewN n) (fun e _ _ => (intOf e).toNat)
  case atStart => exact ⟨(x2 + 4294967296 * x3) / y1, (x2 + 4294967296 * x3) % y1, _, est_quot Htop.out Hst.out.le, est_rem Htop.out, Hst.out, by first | rfl | (simp only [World.drewN_drewN]; rfl)⟩
  case round =>
    obtain ⟨t, s, n, rfl, rfl, hE, rfl⟩ := hrel
    have hs := hE.rest
    have hle := hE.le
    have ht0 := hE.ge
    have HE := Lib.hid hE
    clear hE Hst
    by_cases hbig : 4294967295 < t
    · have hm := HE.out.more hq32 Hq.out (.inl hbig)
      have hbd : decide (4294967295 < (t : Int)) = true := decide_eq_true (by omega)
      by_cases hbr : 4294967295 < s + y1
      · go_wp2
        go_ret
        exact ⟨t - 1, est_ret (by omega), HE.out.break_ hm b2 h3 b4 (by omega), below_drewN (Below.refl _ _) _⟩
      · go_wp2
        go_roundw
        case rel => exact ⟨t - 1, s + y1, n, by go_num, by go_num, HE.out.next hm (by omega), rfl⟩
        case measure => simp [intOf]; omega
    · have hor2 := shl_or b1 hs
      have hbd : decide (4294967295 < (t : Int)) = false := decide_eq_false (by omega)
      have hpb := mul_bound (show t < 4294967296 by omega) b4
      obtain ⟨p, hp⟩ : ∃ p, p = t * y2 := ⟨_, rfl⟩
      rw [← hp] at hpb
      have hpe : (t : Int) * (y2 : Int) = (p : Int) := by rw [hp]; simp
      have Hp := Lib.hid hp
      clear hp
      by_cases hcmp : x1 + 4294967296 * s < p
      · have hm := HE.out.more hq32 Hq.out (.inr (by rw [← Hp.out]; exact hcmp))
        by_cases hbr : 4294967295 < s + y1
        · go_wp2
          go_ret
          exact ⟨t - 1, est_ret (by omega), HE.out.break_ hm b2 h3 b4 (by omega), below_drewN (Below.refl _ _) _⟩
        · go_wp2
          go_roundw
          case rel => exact ⟨t - 1, s + y1, n, by go_num, by go_num, HE.out.next hm (by omega), rfl⟩
          case measure => simp [intOf]; omega
      · go_wp2
        go_ret
        exact ⟨t, rfl, HE.out.stop hbig (by rw [← Hp.out]; exact hcmp), below_drewN (Below.refl _ _) _⟩

/-- What subtractMultiple leaves. -/
def SubmPost (A : Option Addr) (g : Nat) (pre : List Value) (X : List Nat) (post : List Value) (f N : Nat) (w : World) (e : Ending) (w' : World) : Prop :=
  ∃ X', e = .returned (.bool (decide (lval X < f * N))) ∧ llt X' ∧ lval X' + f * N = lval X + (if lval X < f * N then lpow X.length else 0) ∧ Chg A g pre X post X' w w'

theorem subm_end {L X Y : List Nat} {m f c xn d n : Nat} (hX : X.length = n + 1) (hY : Y.length = n) (hL : L.length = n) (hLl : llt L) (hXl : llt X) (hxn : xn = X.getD n 0) (hd : d < 4294967296) (hm : m ≤ 1) (h : d + c = xn + 4294967296 * m) (hc : (xn < c) = (m = 1))
    (hv : lval L + f * lval (Y.take n) = lval (X.take n) + lpow n * c) :
    llt (L ++ [d]) ∧ lval (L ++ [d]) + f * lval Y = lval X + (if lval X < f * lval Y then lpow X.length else 0) ∧ (lval X < f * lval Y ↔ xn < c) := by
  rw [List.take_of_length_le (show Y.length ≤ n by omega)] at hv
  have h1 := lval_take_succ X n
  rw [List.take_of_length_le (show X.length ≤ n + 1 by omega), ← hxn] at h1
  have h2 : lval (L ++ [d]) = lval L + lpow n * d := by rw [lval_snoc, hL]
  have h3 : lpow n * (d + c) = lpow n * (xn + 4294967296 * m) := by rw [h]
  rw [Nat.mul_add, Nat.mul_add, ← Nat.mul_assoc] at h3
  have h4 : lpow (n + 1) = lpow n * 4294967296 := lpow_succ n
  have h5 : lval (L ++ [d]) < lpow (n + 1) := by
    have := lval_lt (llt_snoc hLl hd)
    rwa [List.length_append, hL] at this
  have h6 : lval X < lpow (n + 1) := by
    have := lval_lt hXl
    rwa [hX] at this
  have h7 : lval (L ++ [d]) + f * lval Y = lval X + lpow (n + 1) * m := by rw [h2, h4]; omega
  have hiff : lval X < f * lval Y ↔ xn < c := by
    rw [hc]
    rcases (show m = 0 ∨ m = 1 by omega) with e | e
    · rw [e] at h7
      omega
    · rw [e] at h7
      omega
  refine ⟨llt_snoc hLl hd, ?_, hiff⟩
  rcases (show m = 0 ∨ m = 1 by omega) with e | e
  · have : ¬ lval X < f * lval Y := by rw [hiff, hc]; omega
    rw [if_neg this]
    rw [e] at h7
    omega
  · have : lval X < f * lval Y := by rw [hiff, hc]; exact e
    rw [if_pos this, hX]
    rw [e] at h7
    omega

theorem subm_ret {a b : Nat} {x c : Nat} (h : a < b ↔ x < c) (hx : x < c) : Ending.returned (.bool true) = .returned (.bool (decide (a < b))) := by rw [decide_eq_true (h.2 hx)]
theorem subm_ret' {a b : Nat} {x c : Nat} (h : a < b ↔ x < c) (hx : ¬ x < c) : Ending.returned (.bool false) = .returned (.bool (decide (a < b))) := by rw [decide_eq_false (fun e => hx (h.1 e))]
theorem app_one {L X : List Nat} {k d : Nat} (hL : L.length = k) (hX : X.length = k + 1) : (L ++ X.drop k).set k d = L ++ [d] := by
  rw [app_set hL (by omega), List.drop_of_length_le (by omega), List.append_nil]

set_option maxHeartbeats 2000000 in
theorem subtractMultiple_any (g gy : Nat) (pre prey post posty : List Value) (X Y : List Nat) (c1 c2 f n : Nat) (w : World) (hX : X.length = n + 1) (hY : Y.length = n) (hn : n ≤ 8589934592) (hf : f < 4294967296)
    (hXl : llt X) (hYl : llt Y) (hMx : MB w g pre X post) (hMy : MB w gy prey Y posty) (hne : g ≠ gy) :
    Calls Tryz.prog 168 #[.slice (some ⟨g, pre.length, none⟩) X.length c1, .slice (some ⟨gy, prey.length, none⟩) Y.length c2, .int .u64 (f : Int)] w (SubmPost (some ⟨g, pre.length, none⟩) g pre X post f (lval Y) w) := by
  have HX := Lib.hid hX
  have HY := Lib.hid hY
  rw [hX, hY]
  clear hX hY
  go_enter Tryz.func168, Tryz.ntmps168
  go_wp2
  go_loopw [7, 13] (fun c i wr => ∃ (k : Nat) (L : List Nat) (cy : Nat), k ≤ n ∧ i = .int .i64 k ∧ c = .int .u64 cy ∧ cy < 4294967296 ∧ L.length = k ∧ llt L ∧ lval L + f * lval (Y.take k) = lval (X.take k) + lpow k * cy ∧ MB wr g pre (L ++ X.drop k) post ∧ w.grownBy wr (some g)) (fun _ i _ => n - (intOf i).toNat)
  case atStart => exact ⟨0, [], 0, Nat.zero_le _, rfl, rfl, by omega, rfl, llt_nil, by rw [List.take_zero, List.take_zero, lval_nil, Nat.mul_zero, Nat.mul_zero], hMx, World.grownBy.refl _ _⟩
  case round =>
    obtain ⟨k, L, cy, hk, rfl, rfl, hcy, hLk, hLl, hv, hM, hg⟩ := hrel
    have HLk := Lib.hid hLk
    have Hv := Lib.hid hv
    have hxc := hM.at_ (j := k) (by rw [app_len hLk (by rw [HX.out]; omega), HX.out]; omega)
    have hxf := hM.free (j := k) (by rw [app_len hLk (by rw [HX.out]; omega), HX.out]; omega)
    rw [app_at hLk] at hxc
    have hx1 := llt_getD hXl k
    clear hLk hv
    by_cases hlt : k < n
    · have hyc := (Blk.grown hMy hg (by intro e; exact hne (Option.some.inj e).symm)).cell (mid_at (pre := prey) (post := posty) (l := Y) (j := k) (by rw [HY.out]; exact hlt))
      have hy1 := llt_getD hYl k
      obtain ⟨x, hx⟩ : ∃ x, x = X.getD k 0 := ⟨_, rfl⟩
      obtain ⟨y, hy⟩ : ∃ y, y = Y.getD k 0 := ⟨_, rfl⟩
      rw [← hx] at hxc hx1
      rw [← hy] at hyc hy1
      have hpb := mul_bound hf hy1
      obtain ⟨p, hp⟩ : ∃ p, p = f * y := ⟨_, rfl⟩
      rw [← hp] at hpb
      have hpe : (f : Int) * (y : Int) = (p : Int) := by rw [hp]; simp
      have Hp := Lib.hid hp
      have Hx := Lib.hid hx
      have Hy := Lib.hid hy
      clear hp hx hy
      by_cases hb : x < (cy + p) % 4294967296
      · go_wp2
        go_roundw
        case rel => exact ⟨k + 1, L ++ [x + 4294967296 - (cy + p) % 4294967296], (cy + p) / 4294967296 + 1, by omega, by go_num, by go_num, by omega, by rw [List.length_append, HLk.out]; rfl, llt_snoc hLl (by omega), subm_step HLk.out Hv.out (by rw [← Hx.out, ← Hy.out, ← Hp.out]; omega), by rw [← app_set HLk.out (by rw [HX.out]; omega)]; exact hM.set (by rw [app_len HLk.out (by rw [HX.out]; omega), HX.out]; omega) (by go_num), gb_set hg _ _⟩
        case measure => simp [intOf]; omega
      · go_wp2
        go_roundw
        case rel => exact ⟨k + 1, L ++ [x - (cy + p) % 4294967296], (cy + p) / 4294967296, by omega, by go_num, by go_num, by omega, by rw [List.length_append, HLk.out]; rfl, llt_snoc hLl (by omega), subm_step HLk.out Hv.out (by rw [← Hx.out, ← Hy.out, ← Hp.out]; omega), by rw [← app_set HLk.out (by rw [HX.out]; omega)]; exact hM.set (by rw [app_len HLk.out (by rw [HX.out]; omega), HX.out]; omega) (by go_num), gb_set hg _ _⟩
        case measure => simp [intOf]; omega
    · obtain rfl : k = n := by omega
      obtain ⟨x, hx⟩ : ∃ x, x = X.getD k 0 := ⟨_, rfl⟩
      rw [← hx] at hxc hx1
      have Hx := Lib.hid hx
      clear hx
      by_cases hb : x < cy
      · have hend := subm_end (m := 1) (d := x + 4294967296 - cy) HX.out HY.out HLk.out hLl hXl Hx.out (by omega) (by omega) (by omega) (by simp; omega) Hv.out
        have Hend := Lib.hid hend
        clear hend
        go_wp2
        go_ret
        exact ⟨L ++ [x + 4294967296 - cy], subm_ret Hend.out.2.2 hb, Hend.out.1, Hend.out.2.1, by rw [List.length_append, HLk.out, HX.out]; rfl, fun _ => by rw [← app_one HLk.out HX.out]; exact hM.set (by rw [app_len HLk.out (by rw [HX.out]; omega), HX.out]; omega) (by go_num), gb_set hg _ _, fun _ => rfl⟩
      · have hend := subm_end (m := 0) (d := x - cy) HX.out HY.out HLk.out hLl hXl Hx.out (by omega) (by omega) (by omega) (by simp; omega) Hv.out
        have Hend := Lib.hid hend
        clear hend
        go_wp2
        go_ret
        exact ⟨L ++ [x - cy], subm_ret' Hend.out.2.2 hb, Hend.out.1, Hend.out.2.1, by rw [List.length_append, HLk.out, HX.out]; rfl, fun _ => by rw [← app_one HLk.out HX.out]; exact hM.set (by rw [app_len HLk.out (by rw [HX.out]; omega), HX.out]; omega) (by go_num), gb_set hg _ _, fun _ => rfl⟩

/-- What addBack leaves. -/
def AddbPost (A : Option Addr) (g : Nat) (pre : List Value) (X : List Nat) (post : List Value) (N : Nat) (w : World) (e : Ending) (w' : World) : Prop :=
  e = .returned (.tuple #[]) ∧ Chg A g pre X post (lims X.length (lval X + N)) w w'
theorem addb_end {L X Y : List Nat} {n cy xn d : Nat} (hX : X.length = n + 1) (hY : Y.length = n) (hL : L.length = n) (hLl : llt L) (hxn : xn = X.getD n 0) (hd : d = (xn + cy) % 4294967296) (hv : lval L + lpow n * cy = lval (X.take n) + lval (Y.take n)) :
    L ++ [d] = lims X.length (lval X + lval Y) := by
  rw [List.take_of_length_le (show Y.length ≤ n by omega)] at hv
  have h1 := lval_take_succ X n
  rw [List.take_of_length_le (show X.length ≤ n + 1 by omega), ← hxn] at h1
  have hdl : d < 4294967296 := by rw [hd]; exact Nat.mod_lt _ (by omega)
  apply lval_inj (llt_snoc hLl hdl) (lims_lt _ _) (by rw [lims_length, List.length_append, hL, hX]; rfl)
  rw [lval_lims, lval_snoc, hL, hX, lpow_succ]
  have h3 : lval X + lval Y = lval L + lpow n * (xn + cy) := by rw [Nat.mul_add]; omega
  have h4 : lval L < lpow n := by have := lval_lt hLl; rwa [hL] at this
  rw [h3, Nat.mod_mul, Nat.add_mul_mod_self_left, Nat.mod_eq_of_lt h4, Nat.add_mul_div_left _ _ (lpow_pos n), Nat.div_eq_of_lt h4, Nat.zero_add, hd]

set_option maxHeartbeats 2000000 in
theorem addBack_any (g gy : Nat) (pre prey post posty : List Value) (X Y : List Nat) (c1 c2 n : Nat) (w : World) (hX : X.length = n + 1) (hY : Y.length = n) (hn : n ≤ 8589934592)
    (hXl : llt X) (hYl : llt Y) (hMx : MB w g pre X post) (hMy : MB w gy prey Y posty) (hne : g ≠ gy) :
    Calls Tryz.prog 169 #[.slice (some ⟨g, pre.length, none⟩) X.length c1, .slice (some ⟨gy, prey.length, none⟩) Y.length c2] w (AddbPost (some ⟨g, pre.length, none⟩) g pre X post (lval Y) w) := by
  have HX := Lib.hid hX
  have HY := Lib.hid hY
  rw [hX, hY]
  clear hX hY
  go_enter Tryz.func169, Tryz.ntmps169
  go_wp2
  go_loopw [4, 8] (fun c i wr => ∃ (k : Nat) (L : List Nat) (cy : Nat), k ≤ n ∧ i = .int .i64 k ∧ c = .int .u64 cy ∧ cy ≤ 1 ∧ L.length = k ∧ llt L ∧ lval L + lpow k * cy = lval (X.take k) + lval (Y.take k) ∧ MB wr g pre (L ++ X.drop k) post ∧ w.grownBy wr (some g)) (fun _ i _ => n - (intOf i).toNat)
  case atStart => exact ⟨0, [], 0, Nat.zero_le _, rfl, rfl, by omega, rfl, llt_nil, by rw [List.take_zero, List.take_zero, lval_nil, Nat.mul_zero], hMx, World.grownBy.refl _ _⟩
  case round =>
    obtain ⟨k, L, cy, hk, rfl, rfl, hcy, hLk, hLl, hv, hM, hg⟩ := hrel
    have HLk := Lib.hid hLk
    have Hv := Lib.hid hv
    have hxc := hM.at_ (j := k) (by rw [app_len hLk (by rw [HX.out]; omega), HX.out]; omega)
    have hxf := hM.free (j := k) (by rw [app_len hLk (by rw [HX.out]; omega), HX.out]; omega)
    rw [app_at hLk] at hxc
    have hx1 := llt_getD hXl k
    obtain ⟨x, hx⟩ : ∃ x, x = X.getD k 0 := ⟨_, rfl⟩
    rw [← hx] at hxc hx1
    have Hx := Lib.hid hx
    clear hLk hv hx
    by_cases hlt : k < n
    · have hyc := (Blk.grown hMy hg (by intro e; exact hne (Option.some.inj e).symm)).cell (mid_at (pre := prey) (post := posty) (l := Y) (j := k) (by rw [HY.out]; exact hlt))
      have hy1 := llt_getD hYl k
      obtain ⟨y, hy⟩ : ∃ y, y = Y.getD k 0 := ⟨_, rfl⟩
      rw [← hy] at hyc hy1
      have Hy := Lib.hid hy
      clear hy
      go_wp2
      go_quiet (fail)
      go_wp2
      go_roundw
      case rel => exact ⟨k + 1, L ++ [(cy + (x + y)) % 4294967296], (cy + (x + y)) / 4294967296, by omega, by go_num, by go_num, by omega, by rw [List.length_append, HLk.out]; rfl, llt_snoc hLl (by omega), addb_step HLk.out Hv.out (by rw [← Hx.out, ← Hy.out]; omega), by rw [← app_set HLk.out (by rw [HX.out]; omega)]; exact (hM.drewN _).set (by rw [app_len HLk.out (by rw [HX.out]; omega), HX.out]; omega) (by go_num), gb_set (gb_drewN hg _) _ _⟩
      case measure => simp [intOf]; omega
    · obtain rfl : k = n := by omega
      have hend := addb_end (d := (x + cy) % 4294967296) HX.out HY.out HLk.out hLl Hx.out rfl Hv.out
      have Hend := Lib.hid hend
      clear hend
      go_wp2
      go_end0
      exact ⟨rfl, lims_length _ _, fun _ => by rw [← Hend.out, ← app_one HLk.out HX.out]; exact hM.set (by rw [app_len HLk.out (by rw [HX.out]; omega), HX.out]; omega) (by go_num), gb_set hg _ _, fun _ => rfl⟩
end Go.Proofs.YtodcomijjmobdaaGreatDoor

/- nat.divideStep. -/
namespace Go.Proofs.YtodcomijjmobdaaGreatDoor
open Go.RowKit NM

/-- What divideStep leaves. -/
def StepPost (A : Option Addr) (g : Nat) (pre : List Value) (X : List Nat) (post : List Value) (N : Nat) (w : World) (e : Ending) (w' : World) : Prop :=
  e = .returned (.int .u32 (lval X / N : Nat)) ∧ Chg A g pre X post (lims X.length (lval X % N)) w w'

theorem step_exact {X' X : List Nat} {t N : Nat} (hX' : llt X') (hlen : X'.length = X.length) (hN : 0 < N) (h1 : lval X / N ≤ t) (hneg : ¬ lval X < t * N) (hv : lval X' + t * N = lval X) : t = lval X / N ∧ X' = lims X.length (lval X % N) := by
  have h2 : t ≤ lval X / N := (Nat.le_div_iff_mul_le hN).2 (by omega)
  have e : t = lval X / N := Nat.le_antisymm h2 h1
  refine ⟨e, ?_⟩
  apply lval_inj hX' (lims_lt _ _) (by rw [lims_length, hlen])
  have h3 := Nat.div_add_mod (lval X) N
  have h4 : N * (lval X / N) = t * N := by rw [e, Nat.mul_comm]
  have h5 : lval X' = lval X % N := by omega
  rw [lval_lims, ← hlen, Nat.mod_eq_of_lt (by rw [← h5]; exact lval_lt hX'), h5]
theorem step_back {X' X : List Nat} {t N : Nat} (hN : 0 < N) (h1 : t ≤ lval X / N + 1) (hneg : lval X < t * N) (hv : lval X' + t * N = lval X + lpow X.length) (_hNl : N ≤ lpow X.length) : t - 1 = lval X / N ∧ 0 < t ∧ lims X.length (lval X' + N) = lims X.length (lval X % N) := by
  have h2 : lval X / N < t := by
    rw [Nat.div_lt_iff_lt_mul hN]
    exact hneg
  have e : t = lval X / N + 1 := Nat.le_antisymm h1 h2
  refine ⟨by rw [e, Nat.add_sub_cancel], by rw [e]; exact Nat.succ_pos _, ?_⟩
  apply lval_inj (lims_lt _ _) (lims_lt _ _) (by rw [lims_length, lims_length])
  have h3 := Nat.div_add_mod (lval X) N
  have h4 : t * N = N * (lval X / N) + N := by rw [e, Nat.add_mul, Nat.one_mul, Nat.mul_comm]
  have h5 : lval X' + N = lval X % N + lpow X.length := by omega
  rw [lval_lims, lval_lims, h5, Nat.add_mod_right]

theorem step_ret {t q : Nat} (h : t - 1 = q) (h0 : 0 < t) : Ending.returned (.int .u32 ((t : Int) - 1)) = .returned (.int .u32 (q : Int)) := by
  congr 2
  omega
theorem step_ret0 {t q : Nat} (h : t = q) : Ending.returned (.int .u32 (t : Int)) = .returned (.int .u32 (q : Int)) := by
  congr 2
  omega

set_option maxHeartbeats 1000000 in
theorem divideStep_any (g gy : Nat) (pre prey post posty : List Value) (X Y : List Nat) (c1 c2 m : Nat) (w : World) (hX : X.length = m + 3) (hY : Y.length = m + 2) (hm : m ≤ 8589934590)
    (hXl : llt X) (hYl : llt Y) (hMx : MB w g pre X post) (hMy : MB w gy prey Y posty) (hne : g ≠ gy) (hy : 2147483648 ≤ Y.getD (m + 1) 0) (hlt : lval X < lval Y * 4294967296) :
    Calls Tryz.prog 158 #[.slice (some ⟨g, pre.length, none⟩) X.length c1, .slice (some ⟨gy, prey.length, none⟩) Y.length c2] w (StepPost (some ⟨g, pre.length, none⟩) g pre X post (lval Y) w) := by
  have tx := top3 hX
  have ty := top2 hY
  have lx := take_lt hXl m (by omega)
  have ly := take_lt hYl m (by omega)
  have hN : 0 < lval Y := by omega
  have hNl : lval Y ≤ lpow X.length := by
    have := lval_lt hYl
    have := lpow_le (show Y.length ≤ X.length by omega)
    omega
  have h3 := top_le tx ty ly (llt_getD hYl m) hlt
  have hq := est_up (lpow_pos m) tx ty lx (Nat.div_mul_le_self (lval X) (lval Y))
  have hq32 : lval X / lval Y < 4294967296 := (Nat.div_lt_iff_lt_mul hN).2 (by rw [Nat.mul_comm]; exact hlt)
  have hYX : Y.length + 1 = X.length := by omega
  have hdown : ∀ t, EstEnd (lval X / lval Y) (X.getD m 0) (X.getD (m + 1) 0) (X.getD (m + 2) 0) (Y.getD (m + 1) 0) (Y.getD m 0) t → t ≤ lval X / lval Y + 1 := fun t ht => est_down tx ty ly (by omega) ht.2.1 ht.2.2
  have Hd := Lib.hid hdown
  clear hdown tx ty lx ly
  have hest := estimateLimb_any g gy pre prey post posty X Y c1 c2 m _ _ _ _ _ _ w hX hY (by omega) rfl rfl rfl rfl rfl hXl hYl hMx hMy hq32 hq h3 hy
  have Hest := Lib.hid hest
  have HYX := Lib.hid hYX
  have HX := Lib.hid hX
  have HY := Lib.hid hY
  clear hest hq hq32 h3 hy hlt hYX hX hY
  go_enter Tryz.func158, Tryz.ntmps158
  go_wp2_with fail
  refine Hest.out.mono ?_
  rintro e w1 ⟨t, rfl, hE, hb1⟩
  have hE1 := hE.1
  have hE2 := hE.2.1
  have hE3 := Hd.out t hE
  have HE := Lib.hid hE
  clear hE
  have hMx1 := hMx.keep hb1
  have hMy1 := hMy.keep hb1
  go_wp2_with fail
  refine (subtractMultiple_any g gy pre prey post posty X Y c1 c2 t Y.length _ HYX.out.symm rfl (by rw [HY.out]; omega) hE2 hXl hYl hMx1 hMy1 hne).mono ?_
  rintro e w2 ⟨X', rfl, hX', hv, hlen, hM2, hg2, _⟩
  have hne0 : X ≠ [] := ne_nil_of (j := 0) (by rw [HX.out]; omega)
  have hM := hM2 hne0
  have hMy2 : MB w2 gy prey Y posty := Blk.grown hMy1 hg2 (by intro e; exact hne (Option.some.inj e).symm)
  have hg12 := gb_trans (gb_below hb1 (some g)) hg2
  by_cases hneg : lval X < t * lval Y
  · rw [if_pos hneg] at hv
    rw [decide_eq_true hneg]
    have hb := step_back hN hE3 hneg hv hNl
    have ht0 := hb.2.1
    have Hb := Lib.hid hb
    have Hlen := Lib.hid hlen
    clear hv hb hlen hneg hM2
    go_wp2_with fail
    rw [← Hlen.out]
    refine (addBack_any g gy pre prey post posty X' Y c1 c2 Y.length _ (by rw [Hlen.out, ← HYX.out]) rfl (by rw [HY.out]; omega) hX' hYl hM hMy2 hne).mono ?_
    rintro e w3 ⟨rfl, hlen3, hM3, hg3, _⟩
    rw [Hlen.out] at hM3 hlen3
    have hr := hM3 (ne_nil_of (j := 0) (by rw [Hlen.out, HX.out]; omega))
    rw [Hb.out.2.2] at hr
    have Hlen3 := Lib.hid hlen3
    clear hlen3 hM3
    go_wp2_with fail
    go_ret
    exact ⟨step_ret Hb.out.1 ht0, lims_length _ _, fun _ => hr, gb_trans hg12 hg3, fun _ => rfl⟩
  · rw [if_neg hneg, Nat.add_zero] at hv
    rw [decide_eq_false hneg]
    have hb := step_exact hX' hlen hN hE1 hneg hv
    have Hb := Lib.hid hb
    clear hv hb hlen hneg hM2
    go_wp2_with fail
    go_ret
    exact ⟨step_ret0 Hb.out.1, lims_length _ _, fun _ => by rw [← Hb.out.2]; exact hM, hg12, fun _ => rfl⟩

/-- The same, with the numbers as the caller has them. -/
theorem divideStep_at {g gy off offy nx ny : Nat} {pre prey post posty : List Value} {X Y : List Nat} {c1 c2 m : Nat} {w : World} (hoff : off = pre.length) (hoffy : offy = prey.length) (hnx : nx = X.length) (hny : ny = Y.length) (hX : X.length = m + 3) (hY : Y.length = m + 2) (hm : m ≤ 8589934590)
    (hXl : llt X) (hYl : llt Y) (hMx : MB w g pre X post) (hMy : MB w gy prey Y posty) (hne : g ≠ gy) (hy : 2147483648 ≤ Y.getD (m + 1) 0) (hlt : lval X < lval Y * 4294967296) :
    Calls Tryz.prog 158 #[.slice (some ⟨g, off, none⟩) nx c1, .slice (some ⟨gy, offy, none⟩) ny c2] w (StepPost (some ⟨g, off, none⟩) g pre X post (lval Y) w) := by
  subst hoff hoffy hnx hny
  exact divideStep_any g gy pre prey post posty X Y c1 c2 m w hX hY hm hXl hYl hMx hMy hne hy hlt
end Go.Proofs.YtodcomijjmobdaaGreatDoor

/- Long division by limbs: the lists behind k rounds. Plain mathematics. -/
namespace Go.Proofs.YtodcomijjmobdaaGreatDoor
open NM

theorem lims_pad {a b r : Nat} (h : r < lpow a) : lims (a + b) r = lims a r ++ List.replicate b 0 := by
  apply lval_inj (lims_lt _ _) (llt_append (lims_lt _ _) (llt_zeros _)) (by rw [lims_length, List.length_append, lims_length, List.length_replicate])
  have h1 := lpow_le (show a ≤ a + b by omega)
  rw [lval_append_zeros, lval_lims, lval_lims, Nat.mod_eq_of_lt h, Nat.mod_eq_of_lt (by omega)]

/-- The rest's list when the places from k on are done. -/
def restl (P : List Nat) (d k : Nat) : List Nat := P.take k ++ lims (P.length - k) (lhigh P k % d)
/-- The quotient's list then. -/
def quotl (P : List Nat) (d m k : Nat) : List Nat := List.replicate k 0 ++ lims (m - k) (lhigh P k / d)

theorem lval_split (P : List Nat) (k : Nat) (h : k ≤ P.length) : lval P = lval (P.take k) + lpow k * lhigh P k := lval_take_drop P k h

theorem restl_start {P : List Nat} {d k : Nat} (hP : llt P) (h : lhigh P k < d) (hk : k ≤ P.length) : restl P d k = P := by
  unfold restl
  rw [Nat.mod_eq_of_lt h]
  have e : lims (P.length - k) (lhigh P k) = P.drop k := by
    have := lims_lval (llt_drop hP k)
    rwa [List.length_drop] at this
  have := hk
  rw [e, List.take_append_drop]
theorem quotl_start {P : List Nat} {d m : Nat} (h : lhigh P m < d) : quotl P d m m = List.replicate m 0 := by
  unfold quotl
  rw [Nat.div_eq_of_lt h, Nat.sub_self]
  unfold lims
  rw [digs, List.append_nil]
theorem restl_end (P : List Nat) (d : Nat) : restl P d 0 = lims P.length (lval P % d) := by
  unfold restl
  rw [List.take_zero, List.nil_append, Nat.sub_zero, lhigh_zero]
theorem quotl_end (P : List Nat) (d m : Nat) : quotl P d m 0 = lims m (lval P / d) := by
  unfold quotl
  rw [List.replicate_zero, List.nil_append, Nat.sub_zero, lhigh_zero]
theorem quotl_length (P : List Nat) (d m k : Nat) (h : k ≤ m) : (quotl P d m k).length = m := by
  unfold quotl
  rw [List.length_append, List.length_replicate, lims_length]
  omega

/-- The window at place k: what it holds before the step, and the list around it. -/
theorem restl_win {P : List Nat} {d n k : Nat} (hk : k + n < P.length) (hd : 0 < d) (hdn : d ≤ lpow n) :
    restl P d (k + 1) = P.take k ++ (P.getD k 0 :: lims n (lhigh P (k + 1) % d)) ++ List.replicate (P.length - (k + n + 1)) 0 := by
  unfold restl
  have hr : lhigh P (k + 1) % d < lpow n := Nat.lt_of_lt_of_le (Nat.mod_lt _ hd) hdn
  rw [show P.length - (k + 1) = n + (P.length - (k + n + 1)) from by omega, lims_pad hr, List.take_succ_eq_append_getElem (show k < P.length by omega), List.getD_eq_getElem?_getD, List.getElem?_eq_getElem (show k < P.length by omega)]
  simp only [List.append_assoc, List.cons_append, List.nil_append, Option.getD_some]
theorem restl_win' {P : List Nat} {d n k : Nat} (hk : k + n < P.length) (hd : 0 < d) (hdn : d ≤ lpow n) :
    restl P d k = P.take k ++ lims (n + 1) (lhigh P k % d) ++ List.replicate (P.length - (k + n + 1)) 0 := by
  unfold restl
  have h1 := lpow_le (show n ≤ n + 1 by omega)
  have hr : lhigh P k % d < lpow (n + 1) := Nat.lt_of_lt_of_le (Nat.mod_lt _ hd) (by omega)
  rw [show P.length - k = (n + 1) + (P.length - (k + n + 1)) from by omega, lims_pad hr, List.append_assoc]
theorem win_val {P : List Nat} {d n k : Nat} (hd : 0 < d) (hdn : d ≤ lpow n) : lval (P.getD k 0 :: lims n (lhigh P (k + 1) % d)) = P.getD k 0 + 4294967296 * (lhigh P (k + 1) % d) := by
  have hr : lhigh P (k + 1) % d < lpow n := Nat.lt_of_lt_of_le (Nat.mod_lt _ hd) hdn
  rw [lval_cons, lval_lims, Nat.mod_eq_of_lt hr]
/-- One step. -/
theorem div_round {P : List Nat} {d n k : Nat} (hP : llt P) (hk : k + n < P.length) (hd : 0 < d) (hdn : d ≤ lpow n) :
    lval (P.getD k 0 :: lims n (lhigh P (k + 1) % d)) < d * 4294967296 ∧ lval (P.getD k 0 :: lims n (lhigh P (k + 1) % d)) % d = lhigh P k % d ∧ lhigh P k / d = lval (P.getD k 0 :: lims n (lhigh P (k + 1) % d)) / d + 4294967296 * (lhigh P (k + 1) / d) := by
  rw [win_val hd hdn]
  have h1 := ldiv_place (V := lhigh P (k + 1)) (x := P.getD k 0) hd
  rw [← lhigh_step P k (by omega)] at h1
  have hx := llt_getD hP k
  have hr : lhigh P (k + 1) % d < d := Nat.mod_lt _ hd
  refine ⟨?_, h1.2.symm, h1.1⟩
  have : 4294967296 * (lhigh P (k + 1) % d + 1) ≤ 4294967296 * d := Nat.mul_le_mul_left _ hr
  omega
theorem quotl_set {P : List Nat} {d m k q : Nat} (hk : k < m) (hq : q < 4294967296) (h : lhigh P k / d = q + 4294967296 * (lhigh P (k + 1) / d)) : (quotl P d m (k + 1)).set k q = quotl P d m k := by
  unfold quotl
  have e1 : (List.replicate (k + 1) 0).set k q = List.replicate k 0 ++ [q] := by
    rw [List.replicate_succ', List.set_append_right _ _ (by simp)]
    simp
  have e2 : lims (m - k) (lhigh P k / d) = q :: lims (m - (k + 1)) (lhigh P (k + 1) / d) := by
    unfold lims
    rw [show m - k = (m - (k + 1)) + 1 from by omega, digs, h, Nat.add_mul_mod_self_left, Nat.mod_eq_of_lt hq, Nat.add_mul_div_left _ _ (by omega), Nat.div_eq_of_lt hq, Nat.zero_add]
  rw [List.set_append_left _ _ (by simp), e1, e2, List.append_assoc]
  rfl

/-- The shift that makes the highest bit of the divisor's highest limb 1. -/
def lz (x : Nat) : Nat := 32 - Lib.bitLen x
theorem lz_spec {x : Nat} (h0 : x ≠ 0) (h : x < 4294967296) : lz x < 32 ∧ ((32 : Int) - (Lib.bitLen x : Int)) = (lz x : Int) ∧ 2147483648 ≤ x * 2 ^ lz x ∧ x * 2 ^ lz x < 4294967296 := by
  have h1 : Lib.bitLen x ≤ 32 := Lib.bitLen_le x 32 (by omega) (by simpa using h)
  obtain ⟨h2, h3, h4⟩ := Lib.bitLenAux_bounds 64 x (by omega) h0
  have h5 : Lib.bitLenAux 64 x = Lib.bitLen x := rfl
  rw [h5] at h2 h3 h4
  unfold lz
  refine ⟨by omega, by omega, ?_, ?_⟩
  · have : 2 ^ (Lib.bitLen x - 1) * 2 ^ (32 - Lib.bitLen x) ≤ x * 2 ^ (32 - Lib.bitLen x) := Nat.mul_le_mul_right _ h3
    rw [← Nat.pow_add, show Lib.bitLen x - 1 + (32 - Lib.bitLen x) = 31 from by omega] at this
    omega
  · have : x * 2 ^ (32 - Lib.bitLen x) < 2 ^ Lib.bitLen x * 2 ^ (32 - Lib.bitLen x) := Nat.mul_lt_mul_of_pos_right h4 (Nat.pow_pos (by omega))
    rw [← Nat.pow_add, show Lib.bitLen x + (32 - Lib.bitLen x) = 32 from by omega] at this
    omega

/-- The shifted divisor without the limb on top. -/
theorem divisor_spec {Y D : List Nat} {n s : Nat} (hY : llt Y) (hn : Y.length = n + 1) (hD : llt D) (hDl : D.length = n + 2) (hDv : lval D = lval Y * 2 ^ s) (h1 : 2147483648 ≤ Y.getD n 0 * 2 ^ s) (h2 : Y.getD n 0 * 2 ^ s < 4294967296) :
    lval (D.take (n + 1)) = lval Y * 2 ^ s ∧ 2147483648 ≤ (D.take (n + 1)).getD n 0 ∧ (D.take (n + 1)).length = n + 1 ∧ D = D.take (n + 1) ++ [0] := by
  have t1 := lval_take_succ Y n
  rw [List.take_of_length_le (show Y.length ≤ n + 1 by omega)] at t1
  have t2 : lval (Y.take n) < lpow n := by
    have := lval_lt (llt_take hY n)
    rwa [List.length_take, Nat.min_eq_left (by omega)] at this
  have t3 : lval Y * 2 ^ s < lpow (n + 1) := by
    have a1 : (lval (Y.take n) + 1) * 2 ^ s ≤ lpow n * 2 ^ s := Nat.mul_le_mul_right _ t2
    have a2 : 2 ^ s ≤ 4294967296 * 2 ^ s := by omega
    have a3 : lval Y * 2 ^ s = lval (Y.take n) * 2 ^ s + lpow n * (Y.getD n 0 * 2 ^ s) := by rw [t1, Nat.add_mul, Nat.mul_assoc]
    have a4 : lpow n * (Y.getD n 0 * 2 ^ s + 2 ^ s) ≤ lpow n * 4294967296 := by
      apply Nat.mul_le_mul_left
      rcases Nat.lt_or_ge s 32 with h | h
      · have e := pow_split h
        have : Y.getD n 0 < 2 ^ (32 - s) := by
          rcases Nat.lt_or_ge (Y.getD n 0) (2 ^ (32 - s)) with h6 | h6
          · exact h6
          · have := Nat.mul_le_mul_right (2 ^ s) h6
            omega
        have := Nat.mul_le_mul_right (2 ^ s) (show Y.getD n 0 + 1 ≤ 2 ^ (32 - s) by omega)
        rw [Nat.add_mul, Nat.one_mul] at this
        omega
      · exfalso
        have : 2 ^ 32 ≤ 2 ^ s := Nat.pow_le_pow_right (by omega) h
        rcases Nat.eq_zero_or_pos (Y.getD n 0) with h6 | h6
        · rw [h6] at h1
          omega
        · have := Nat.mul_le_mul_right (2 ^ s) h6
          omega
    rw [Nat.mul_add] at a4
    rw [Nat.add_mul, Nat.one_mul] at a1
    rw [a3, lpow_succ]
    have := two_pow_pos' s
    omega
  have t4 := lval_take_succ D (n + 1)
  rw [List.take_of_length_le (show D.length ≤ n + 1 + 1 by omega), hDv] at t4
  have hz : D.getD (n + 1) 0 = 0 := by
    rcases Nat.eq_zero_or_pos (D.getD (n + 1) 0) with h6 | h6
    · exact h6
    · have : lpow (n + 1) * 1 ≤ lpow (n + 1) * D.getD (n + 1) 0 := Nat.mul_le_mul_left _ h6
      omega
  rw [hz, Nat.mul_zero, Nat.add_zero] at t4
  have hl : (D.take (n + 1)).length = n + 1 := by rw [List.length_take]; omega
  refine ⟨t4.symm, ?_, hl, ?_⟩
  · have t5 := lval_take_succ (D.take (n + 1)) n
    rw [List.take_of_length_le (show (D.take (n + 1)).length ≤ n + 1 by omega), ← t4] at t5
    have t6 : lval ((D.take (n + 1)).take n) < lpow n := by
      have := lval_lt (llt_take (llt_take hD (n + 1)) n)
      rwa [List.length_take, Nat.min_eq_left (by omega)] at this
    have t7 : lval Y * 2 ^ s = lval (Y.take n) * 2 ^ s + lpow n * (Y.getD n 0 * 2 ^ s) := by rw [t1, Nat.add_mul, Nat.mul_assoc]
    have t8 : lpow n * 2147483648 ≤ lpow n * (Y.getD n 0 * 2 ^ s) := Nat.mul_le_mul_left _ h1
    rcases Nat.lt_or_ge ((D.take (n + 1)).getD n 0) 2147483648 with h6 | h6
    · have : lpow n * ((D.take (n + 1)).getD n 0 + 1) ≤ lpow n * 2147483648 := Nat.mul_le_mul_left _ h6
      rw [Nat.mul_add, Nat.mul_one] at this
      omega
    · exact h6
  · have e := List.take_succ_eq_append_getElem (show n + 1 < D.length by omega)
    rw [List.take_of_length_le (show D.length ≤ n + 1 + 1 by omega)] at e
    have : D[n + 1] = 0 := by
      rw [← hz, List.getD_eq_getElem?_getD, List.getElem?_eq_getElem (show n + 1 < D.length by omega)]
      rfl
    rw [this] at e
    exact e
end Go.Proofs.YtodcomijjmobdaaGreatDoor

/- voussoirref01.Div. -/
namespace Go.Proofs.YtodcomijjmobdaaGreatDoor
open Go.RowKit NM

/-- What Div returns. -/
def divVal (m n : Nat) : Value := if n = 0 then .tuple #[.string ⟨#[]⟩, .string ⟨#[]⟩, .bool false] else .tuple #[.string (can (m / n)), .string (can (m % n)), .bool true]
theorem divVal_zero {m n : Nat} (h : n = 0) : divVal m n = .tuple #[.string ⟨#[]⟩, .string ⟨#[]⟩, .bool false] := if_pos h
theorem divVal_pos {m n : Nat} (h : n ≠ 0) : divVal m n = .tuple #[.string (can (m / n)), .string (can (m % n)), .bool true] := if_neg h

/-- The number of the bytes from place k on. -/
def high (a : ByteArray) (k : Nat) : Nat := val 256 ((bts a).drop k)
theorem high_zero (a : ByteArray) : high a 0 = nat a := rfl
theorem high_end (a : ByteArray) (k : Nat) (h : a.size ≤ k) : high a k = 0 := by
  unfold high
  rw [List.drop_of_length_le (by rw [bts_length]; exact h)]
  rfl
theorem high_step (a : ByteArray) (i : Nat) (hi : i < a.size) : high a i = a[i].toNat + 256 * high a (i + 1) := by
  unfold high
  rw [List.drop_eq_getElem_cons (by rw [bts_length]; exact hi)]
  have := bts_getD a i hi
  rw [List.getD_eq_getElem?_getD, List.getElem?_eq_getElem (by rw [bts_length]; exact hi)] at this
  simp only [Option.getD_some] at this
  rw [this]
  rfl
/-- One place of a long division. -/
theorem div_place {V x B : Nat} (hB : 0 < B) : (x + 256 * V) / B = (x + 256 * (V % B)) / B + 256 * (V / B) ∧ (x + 256 * V) % B = (x + 256 * (V % B)) % B := by
  have h := Nat.div_add_mod V B
  have e : x + 256 * V = (x + 256 * (V % B)) + B * (256 * (V / B)) := by
    have : 256 * V = 256 * (B * (V / B)) + 256 * (V % B) := by rw [← Nat.mul_add, h]
    rw [this, Nat.mul_left_comm]
    omega
  constructor
  · rw [e, Nat.add_mul_div_left _ _ hB]
  · rw [e, Nat.add_mul_mod_self_left]
theorem div_digit {r x B : Nat} (hB : 0 < B) (hr : r < B) (hx : x < 256) : (x + 256 * r) / B < 256 := by
  rw [Nat.div_lt_iff_lt_mul hB]
  have : 256 * (r + 1) ≤ 256 * B := Nat.mul_le_mul_left _ hr
  omega

theorem nat_append (s t : ByteArray) : nat (s ++ t) = nat s + 256 ^ s.size * nat t := by
  unfold nat
  rw [← bts_length, ← val_append]
  congr 1
  unfold bts
  rw [ByteArray.data_append, Array.toList_append, List.map_append]
theorem nat_one (a : ByteArray) (i : Nat) (hi : i < a.size) : nat (a.extract i (i + 1)) = a[i].toNat ∧ (a.extract i (i + 1)).size = 1 := by
  have hl : i < (bts a).length := by rw [bts_length]; exact hi
  have e : bts (a.extract i (i + 1)) = [a[i].toNat] := by
    rw [bts_extract, List.take_succ_eq_append_getElem hl, List.drop_append_of_le_length (by rw [List.length_take]; omega), List.drop_of_length_le (by rw [List.length_take]; omega), List.nil_append]
    have := bts_getD a i hi
    rw [List.getD_eq_getElem?_getD, List.getElem?_eq_getElem hl] at this
    simpa using this
  refine ⟨by unfold nat; rw [e]; simp [val], ?_⟩
  rw [← bts_length, e]
  rfl

theorem cmpN_le {m n : Nat} (h : m ≤ n) : cmpN m n ≤ 0 := by
  rcases Nat.lt_or_ge m n with h1 | h1
  · rw [cmpN_lt h1]; omega
  · rw [cmpN_eq (by omega)]; omega
theorem cmpN_nle {m n : Nat} (h : ¬ m ≤ n) : ¬ cmpN m n ≤ 0 := by rw [cmpN_gt (by omega)]; omega

theorem refdiv_hi {q mid B R : Nat} (h : mid ≤ q ↔ B * mid ≤ R) (hm : ¬ B * mid ≤ R) : q ≤ mid - 1 := by
  have : ¬ mid ≤ q := fun e => hm (h.1 e)
  omega
theorem quot_at (i : Nat) (D : List Nat) : (cv .u8 (List.replicate (i + 1) 0 ++ D))[i]? = some (.int .u8 0) := by
  rw [cv_getElem? _ _ _ (by simp; omega), List.getD_eq_getElem?_getD, List.getElem?_append_left (by simp), List.getElem?_replicate, if_pos (by omega)]
  rfl
theorem quot_set {a : ByteArray} {B i lo : Nat} {wr : World} {g : Nat} (hi : i < a.size) (hlo : lo < 256) (h : high a i / B = lo + 256 * (high a (i + 1) / B)) (hB : Blk wr g 5 (cv .u8 (List.replicate (i + 1) 0 ++ digs 256 (a.size - (i + 1)) (high a (i + 1) / B)))) :
    Blk (wr.setCell ⟨g, i, none⟩ (.int .u8 (lo : Int))) g 5 (cv .u8 (List.replicate i 0 ++ digs 256 (a.size - i) (high a i / B))) := by
  have := hB.set i (.int .u8 (lo : Int))
  rw [cv_set, List.set_append_left _ _ (by simp)] at this
  have e1 : (List.replicate (i + 1) 0).set i lo = List.replicate i 0 ++ [lo] := by
    rw [List.replicate_succ', List.set_append_right _ _ (by simp)]
    simp
  have e2 : digs 256 (a.size - i) (high a i / B) = lo :: digs 256 (a.size - (i + 1)) (high a (i + 1) / B) := by
    rw [show a.size - i = (a.size - (i + 1)) + 1 from by omega, digs, h, Nat.add_mul_mod_self_left, Nat.mod_eq_of_lt hlo, Nat.add_mul_div_left _ _ (by omega), Nat.div_eq_of_lt hlo, Nat.zero_add]
  rw [e1, List.append_assoc] at this
  rw [e2]
  exact this
theorem refdiv_end (a b : ByteArray) : Ending.returned (.tuple #[.string (can (nat (ofBts (digs 256 a.size (nat a / nat b))))), .string (can (high a 0 % nat b)), .bool true]) = .returned (.tuple #[.string (can (nat a / nat b)), .string (can (nat a % nat b)), .bool true]) := by
  rw [nat_ofBts (digs_lt (by omega) _ _), val_digs, Nat.mod_eq_of_lt (Nat.lt_of_le_of_lt (Nat.div_le_self _ _) (nat_lt a))]
  rfl

set_option maxHeartbeats 2000000 in
theorem refDiv_any (a b : ByteArray) (w : World) (ha : a.size ≤ 1073741824) (hb : b.size ≤ 1073741824) :
    Calls Tryz.prog 105 #[.string a, .string b] w fun e w' => e = .returned (divVal (nat a) (nat b)) ∧ Below w.heap.size w w' := by
  by_cases hz : nat b = 0
  · rw [divVal_zero hz]
    have hc := isEmpty_pos hz
    have Hz := Lib.hid hz
    clear hz
    go_enter Tryz.func105, Tryz.ntmps105
    go_wp2_with (go_at_call 102; refine (Norm_any _ _ (by simp [maxLen]; omega)).mono ?_; rintro e w' ⟨rfl, rfl⟩)
    go_ret3
    exact ⟨rfl, Below.refl _ _⟩
  · rw [divVal_pos hz]
    have hc := isEmpty_neg hz
    have hpos : 0 < nat b := Nat.pos_of_ne_zero hz
    have hbs := nat_lt b
    have Hbs := Lib.hid hbs
    clear hbs hz
    go_enter Tryz.func105, Tryz.ntmps105
    go_wp2_with (first
      | (go_at_call 102; refine (Norm_any _ _ (by simp [maxLen]; omega)).mono ?_; rintro e w' ⟨rfl, rfl⟩)
      | (at_make; refine wpList_make_blk _ rfl _ _ 129 rfl 5 .u8 1 Tryz.underlying129 row_u8 _ _ _ _ a.size rfl rfl rfl rfl (by omega) (by omega) ?_; intro w1 hB hb1 hs1))
    have hst0 : Value.string ⟨#[]⟩ = .string (can (high a a.size % nat b)) := by rw [high_end a _ (Nat.le_refl _), Nat.zero_mod]; rfl
    have Hst0 := Lib.hid hst0
    clear hst0
    go_loopw [8, 9] (fun r i wr => ∃ k : Nat, k ≤ a.size ∧ i = .int .i64 ((k : Int) - 1) ∧ r = .string (can (high a k % nat b)) ∧ Blk wr w.heap.size 5 (cv .u8 (List.replicate k 0 ++ digs 256 (a.size - k) (high a k / nat b))) ∧ Below w.heap.size w wr) (fun _ i _ => (intOf i + 1).toNat)
    case atStart => exact ⟨a.size, Nat.le_refl _, rfl, Hst0.out, by simpa [digs] using hB, hb1⟩
    case round =>
      obtain ⟨k, hk, rfl, rfl, hBr, hbr⟩ := hrel
      clear hB hb1 hs1 Hst0
      by_cases hlt : 0 < k
      · obtain ⟨i, rfl⟩ : ∃ i : Nat, k = i + 1 := ⟨k - 1, by omega⟩
        have e : (((i + 1 : Nat) : Int) - 1) = (i : Int) := by omega
        rw [e]
        clear e
        have hia : i < a.size := by omega
        have hr : high a (i + 1) % nat b < nat b := Nat.mod_lt _ hpos
        have hrs : (can (high a (i + 1) % nat b)).size ≤ b.size := can_size_le (Nat.lt_trans hr Hbs.out)
        have hone : nat (a.extract i (i + 1) ++ can (high a (i + 1) % nat b)) = a[i].toNat + 256 * (high a (i + 1) % nat b) := by
          rw [nat_append, (nat_one a i hia).1, (nat_one a i hia).2, nat_can]
        have hosz : (a.extract i (i + 1) ++ can (high a (i + 1) % nat b)).size = 1 + (can (high a (i + 1) % nat b)).size := by
          rw [ByteArray.size_append, (nat_one a i hia).2]
        have hplace := div_place (V := high a (i + 1)) (x := a[i].toNat) hpos
        rw [← high_step a i hia] at hplace
        have hq := div_digit (x := a[i].toNat) hpos hr (UInt8.toNat_lt _)
        obtain ⟨R, hR⟩ : ∃ R, R = a[i].toNat + 256 * (high a (i + 1) % nat b) := ⟨_, rfl⟩
        rw [← hR] at hone hplace hq
        have hRs : (can R).size ≤ b.size + 1 := by
          refine can_size_le ?_
          have h1 := UInt8.toNat_lt a[i]
          have h2 := Hbs.out
          rw [Nat.pow_succ]
          omega
        obtain ⟨q, hqd⟩ : ∃ q, q = R / nat b := ⟨_, rfl⟩
        rw [← hqd] at hq hplace
        have hmod : R % nat b = R - nat b * q := by rw [hqd]; have := Nat.div_add_mod R (nat b); omega
        have hqle : ∀ m, m ≤ q ↔ nat b * m ≤ R := fun m => by rw [hqd, Nat.le_div_iff_mul_le hpos, Nat.mul_comm]
        have Hone := Lib.hid hone
        have Hplace := Lib.hid hplace
        have Hqle := Lib.hid hqle
        have Hmod := Lib.hid hmod
        have hosz2 : (a.extract i (i + 1) ++ can (high a (i + 1) % nat b)).size ≤ maxLen := by rw [hosz]; simp [maxLen]; omega
        clear hone hplace hqle hosz hR hqd hmod
        go_wp2_with fail
        refine (Norm_any _ _ hosz2).mono ?_
        rintro e w' ⟨rfl, rfl⟩
        rw [Hone.out]
        clear hosz2 Hone
        go_wp2_with fail
        obtain ⟨wo, hwo⟩ : ∃ wo : World, wo = wr := ⟨_, rfl⟩
        rw [← hwo] at hBr hbr ⊢
        clear hwo
        go_loopw [10, 11, 12] (fun l h _ wr => ∃ lo hi : Nat, l = .int .i64 lo ∧ h = .int .i64 hi ∧ lo ≤ q ∧ q ≤ hi ∧ hi ≤ 255 ∧ Blk wr w.heap.size 5 (cv .u8 (List.replicate (i + 1) 0 ++ digs 256 (a.size - (i + 1)) (high a (i + 1) / nat b))) ∧ Below w.heap.size w wr) (fun l h _ _ => (intOf h - intOf l).toNat)
        case atStart => exact ⟨0, 255, rfl, rfl, Nat.zero_le _, by omega, by omega, hBr, hbr⟩
        case round =>
          obtain ⟨lo, hi, rfl, rfl, h1, h2, h3, hBr2, hbr2⟩ := hrel
          clear hBr hbr
          by_cases hlh : lo < hi
          · obtain ⟨mid, hmid⟩ : ∃ mid, mid = (lo + hi + 1) / 2 := ⟨_, rfl⟩
            have em : ((lo : Int) + (hi : Int) + 1) / 2 = (mid : Int) := by omega
            have m1 : lo < mid := by omega
            have m2 : mid ≤ hi := by omega
            have hms : (can (nat b * mid)).size ≤ maxLen := by
              have : (can (nat b * mid)).size ≤ b.size + 1 := can_size_le (by
                have h4 := Hbs.out
                rw [Nat.pow_succ]
                exact Nat.mul_lt_mul'' h4 (by omega))
              simp [maxLen]
              omega
            have hRm : (can R).size ≤ maxLen := by simp [maxLen]; omega
            have Hmid := Lib.hid hmid
            clear hmid
            by_cases hm : nat b * mid ≤ R
            · have ht : cmpN (nat b * mid) R ≤ 0 := cmpN_le hm
              go_wp2_with fail
              refine (small_any b mid _ (by omega) (by omega)).mono ?_
              rintro e w2 ⟨rfl, hb2⟩
              go_wp2_with fail
              refine (refCmp_any _ _ _ hms hRm).mono ?_
              rintro e w3 ⟨rfl, hb3⟩
              rw [nat_can, nat_can]
              go_wp2_with fail
              go_roundw
              case rel => exact ⟨mid, hi, rfl, rfl, (Hqle.out mid).2 hm, h2, h3, (hBr2.keep hb2).keep hb3, hbr2.trans ((hb2.mono hbr2.size).trans (hb3.mono (Nat.le_trans hbr2.size hb2.size)))⟩
              case measure => simp [intOf]; omega
            · have ht : ¬ cmpN (nat b * mid) R ≤ 0 := cmpN_nle hm
              go_wp2_with fail
              refine (small_any b mid _ (by omega) (by omega)).mono ?_
              rintro e w2 ⟨rfl, hb2⟩
              go_wp2_with fail
              refine (refCmp_any _ _ _ hms hRm).mono ?_
              rintro e w3 ⟨rfl, hb3⟩
              rw [nat_can, nat_can]
              go_wp2_with fail
              go_roundw
              case rel => exact ⟨lo, mid - 1, rfl, by go_num, h1, refdiv_hi (Hqle.out mid) hm, by omega, (hBr2.keep hb2).keep hb3, hbr2.trans ((hb2.mono hbr2.size).trans (hb3.mono (Nat.le_trans hbr2.size hb2.size)))⟩
              case measure => simp [intOf]; omega
          · obtain rfl : lo = q := by omega
            have hsub : nat b * lo ≤ R := (Hqle.out lo).1 (Nat.le_refl _)
            have hms : (can (nat b * lo)).size ≤ 4294967296 := by
              have : (can (nat b * lo)).size ≤ b.size + 1 := can_size_le (by
                have h4 := Hbs.out
                rw [Nat.pow_succ]
                exact Nat.mul_lt_mul'' h4 (by omega))
              omega
            have hRm : (can R).size ≤ 4294967296 := by omega
            have hlo : lo < 256 := by omega
            go_wp2_with fail
            refine (small_any b lo _ (by omega) (by omega)).mono ?_
            rintro e w2 ⟨rfl, hb2⟩
            go_wp2_with fail
            refine (refSub_any _ _ _ hRm hms).mono ?_
            rintro e w3 ⟨rfl, hb3⟩
            rw [nat_can, nat_can, subVal_ge hsub]
            have hBr3 := (hBr2.keep hb2).keep hb3
            have hcell := hBr3.cell (quot_at i _)
            have hfree := hBr3.free (j := i) (by rw [cv_length]; simp; omega)
            rw [← Hmod.out, ← Hplace.out.2]
            go_wp2_with fail
            go_roundw
            case rel => exact ⟨i, by omega, rfl, rfl, quot_set hia hlo Hplace.out.1 hBr3, (hbr2.trans ((hb2.mono hbr2.size).trans (hb3.mono (Nat.le_trans hbr2.size hb2.size)))).setCell (Nat.le_refl _) _⟩
            case measure => simp [intOf]
      · obtain rfl : k = 0 := by omega
        have hst := run_str_blk (P := Tryz.prog) (src := 129) (dst := 9) (l := digs 256 a.size (nat a / nat b)) (post := []) (by simpa [high_zero] using hBr) a.size a.size (digs_length _ _ _).symm Tryz.underlying129 Tryz.underlying5 Tryz.underlying9
        go_wp2_with (go_at_call 102; refine (Norm_any _ _ (by rw [size_ofBts, digs_length]; simp [maxLen]; omega)).mono ?_; rintro e w' ⟨rfl, rfl⟩)
        go_ret3
        exact ⟨refdiv_end a b, hbr⟩
end Go.Proofs.YtodcomijjmobdaaGreatDoor
