/- nat.limbs and nat.magnitude. -/
import Derived.Test.YtmfinfnjamgboaaDoorLimb
import Derived.Test.YtmfinfnjamgboaaDoorU64
import Derived.RegionTactic
import Derived.BigRegion
namespace Go.Proofs.YtmfinfnjamgboaaDoor
open Go.RowKit NM

theorem row_u32 : (Tryd.prog.info? 54).map (fun i => (i.zero, i.size, i.bytes)) = some (some (.int .u32 0), 1, 4) := by kernel_rfl

/-- A block of limbs. -/
def LB (w : World) (g : Nat) (l : List Nat) : Prop := Blk w g 54 (cv .u32 l)

/-- A new slice of the limbs l. -/
def NewL (l : List Nat) (w : World) (e : Ending) (w' : World) : Prop := ∃ g, w.heap.size ≤ g ∧ e = .returned (.slice (some ⟨g, 0, none⟩) l.length l.length) ∧ LB w' g l ∧ Below w.heap.size w w'

theorem or_limb {d x r : Nat} (hd : d < 256 ^ r) (hx : x < 256) (hr : r < 4) : bits .or .u32 (d : Int) ((x : Int) * 2 ^ (8 * r) % 4294967296) = ((d + 256 ^ r * x : Nat) : Int) := by
  have h3 : 256 ^ r ≤ 256 ^ 3 := Nat.pow_le_pow_right (by omega) (by omega)
  have h4 : x * 256 ^ r ≤ 255 * 256 ^ 3 := Nat.mul_le_mul (by omega) h3
  have e : (x : Int) * 2 ^ (8 * r) % 4294967296 = ((x * 256 ^ r : Nat) : Int) := by
    rw [pow_2_8]
    omega
  rw [e, u32_or_nat _ _ (by omega) (by omega), or_shift hd]
theorem limbs_round {wr : World} {B m n k d : Nat} (hlt : k < (can n).size) (hk : k / 4 < (lims m (val 256 ((bts (can n)).take k))).length) (hB : LB wr B (lims m (val 256 ((bts (can n)).take k)))) (hd : d < 256 ^ (k % 4))
    (h : (lims m (val 256 ((bts (can n)).take k))).set (k / 4) (d + 256 ^ (k % 4) * (can n)[k].toNat) = lims m (val 256 ((bts (can n)).take k) + 256 ^ k * (can n)[k].toNat)) :
    LB (wr.setCell ⟨B, k / 4, none⟩ (.int .u32 (bits .or .u32 (d : Int) (((can n)[k].toNat : Int) * 2 ^ (8 * (k % 4)) % 4294967296)))).drew B (lims m (val 256 ((bts (can n)).take (k + 1)))) := by
  have := hk
  rw [or_limb hd (UInt8.toNat_lt _) (by omega), val_take_succ, bts_getD _ k hlt, ← h]
  have := hB.set (k / 4) (.int .u32 ((d + 256 ^ (k % 4) * (can n)[k].toNat : Nat) : Int))
  rw [cv_set] at this
  exact this
theorem limbs_end {w wr : World} {m n k : Nat} (hm : m = ((can n).size + 3) / 4) (hk : (can n).size ≤ k) (hB : LB wr w.heap.size (lims m (val 256 ((bts (can n)).take k)))) (hb : Below w.heap.size w wr) :
    NewL (lim n) w (.returned (.slice (some ⟨w.heap.size, 0, none⟩) m m)) wr := by
  rw [List.take_of_length_le (by rw [bts_length]; exact hk), can_val, hm, ← llen_can] at hB
  refine ⟨w.heap.size, Nat.le_refl _, ?_, hB, hb⟩
  rw [lim_length, llen_can, hm]

set_option maxHeartbeats 400000 in
theorem limbs_any (a : ByteArray) (w : World) (ha : a.size ≤ 17179869184) :
    Calls Tryd.prog 43 #[.string a] w (NewL (lim (nat a)) w) := by
  have hsz : (can (nat a)).size ≤ 17179869184 := by have := can_size_le_size a; omega
  obtain ⟨m, hm⟩ : ∃ m, m = ((can (nat a)).size + 3) / 4 := ⟨_, rfl⟩
  have Hm := Lib.hid hm
  have hm1 : (can (nat a)).size ≤ 4 * m := by omega
  have hm2 : m ≤ 4294967296 := by omega
  clear hm
  go_enter Tryd.func43, Tryd.ntmps43
  go_wp2_with (first
    | (go_at_call 39; refine (Normalize_any _ _ (by simp [maxLen]; omega)).mono ?_; rintro e w' ⟨rfl, rfl⟩)
    | (at_make; refine wpList_make_blk _ rfl _ _ 53 rfl 54 .u32 4 Tryd.underlying53 row_u32 _ _ _ _ m rfl rfl (by have := Hm.out; omega) (by have := Hm.out; omega) (by omega) (by omega) ?_; intro w1 hB hb1 hs1))
  go_loopw [4, 14] (fun _ i wr => ∃ k : Nat, k ≤ (can (nat a)).size ∧ i = .int .i64 k ∧ LB wr w.heap.size (lims m (val 256 ((bts (can (nat a))).take k))) ∧ Below w.heap.size w wr) (fun _ i _ => (can (nat a)).size - (intOf i).toNat)
  case atStart => exact ⟨0, Nat.zero_le _, rfl, by rw [List.take_zero]; show LB w1 _ (lims m 0); rw [lims_zero]; exact hB, hb1⟩
  case round =>
    obtain ⟨k, hk, rfl, hBr, hbr⟩ := hrel
    by_cases hlt : k < (can (nat a)).size
    · have hby := lims_byte (m := m) (bts_take_lt (can (nat a)) k) (UInt8.toNat_lt (can (nat a))[k]) (by omega)
      have hcell := hBr.cell (cv_getElem? .u32 _ (k / 4) (by rw [lims_length]; omega))
      have hfree := hBr.free (j := k / 4) (by rw [cv_length, lims_length]; omega)
      have hd1 := hby.1
      have Hby := Lib.hid hby.2
      clear hby
      generalize (lims m (val 256 ((bts (can (nat a))).take k))).getD (k / 4) 0 = d at hcell hd1 Hby
      have b1 := UInt8.toNat_lt (can (nat a))[k]
      have c1 : k / 4 < m := by omega
      go_wp2
      go_region
      go_wp2
      go_roundw
      case rel => exact ⟨k + 1, by omega, by go_num, limbs_round hlt (by rw [lims_length]; omega) hBr hd1 Hby.out, (hbr.setCell (Nat.le_refl _) _).drew⟩
      case measure => simp [intOf]; omega
    · go_wp2
      go_ret
      exact limbs_end Hm.out (by omega) hBr hbr

/-- A slice that reads as the limbs l. -/
def Rd (w : World) (A : Option Addr) (l : List Nat) : Prop := l ≠ [] → ∃ g pre post, A = some ⟨g, pre.length, none⟩ ∧ Blk w g 54 (pre ++ cv .u32 l ++ post)

theorem mid_at {l : List Nat} {pre post : List Value} {j : Nat} (hj : j < l.length) : (pre ++ cv .u32 l ++ post)[pre.length + j]? = some (.int .u32 (l.getD j 0 : Nat)) := by
  rw [List.append_assoc, List.getElem?_append_right (by omega), Nat.add_sub_cancel_left, List.getElem?_append_left (by rw [cv_length]; exact hj), cv_getElem? _ _ _ hj]

theorem ne_nil_of {l : List Nat} {j : Nat} (h : j < l.length) : l ≠ [] := fun e => by
  subst e
  simp at h

theorem magn_end {l : List Nat} {n : Nat} (h : llt l) (hn : n = 4 * l.length) : Ending.returned (.string (can (nat (ofBts (digs 256 n (lval l)))))) = .returned (.string (can (lval l))) := by
  have h1 := lval_lt h
  rw [lpow_eq, ← hn] at h1
  rw [nat_ofBts (digs_lt (by omega) _ _), val_digs, Nat.mod_eq_of_lt h1]
theorem Rd.of_LB {w : World} {g : Nat} {l : List Nat} (h : LB w g l) : Rd w (some ⟨g, 0, none⟩) l := fun _ => ⟨g, [], [], rfl, by rw [List.nil_append, List.append_nil]; exact h⟩
theorem Rd.nil (w : World) (A : Option Addr) : Rd w A [] := fun h => absurd rfl h

set_option maxHeartbeats 400000 in
theorem magnitude_any (A : Option Addr) (l : List Nat) (c : Nat) (w : World) (hl : l.length ≤ 17179869184) (hlt : llt l) (hA : Rd w A l) :
    Calls Tryd.prog 38 #[.slice A l.length c] w fun e w' => e = .returned (.string (can (lval l))) ∧ Below w.heap.size w w' := by
  obtain ⟨n, hn⟩ : ∃ n, n = 4 * l.length := ⟨_, rfl⟩
  have Hn := Lib.hid hn
  have hn1 : n ≤ 68719476736 := by omega
  clear hn
  go_enter Tryd.func38, Tryd.ntmps38
  go_wp2_with (at_make; refine wpList_make_blk _ rfl _ _ 59 rfl 5 .u8 1 Tryd.underlying59 row_u8 _ _ _ _ n rfl rfl (by have := Hn.out; omega) (by have := Hn.out; omega) (by omega) (by omega) ?_; intro w1 hB hb1 hs1)
  go_loopw [4, 11] (fun _ i wr => ∃ k : Nat, k ≤ n ∧ i = .int .i64 k ∧ Blk wr w.heap.size 5 (cv .u8 (digs 256 k (lval l) ++ List.replicate (n - k) 0)) ∧ Below w.heap.size w wr) (fun _ i _ => n - (intOf i).toNat)
  case atStart => exact ⟨0, Nat.zero_le _, rfl, by simpa [digs] using hB, hb1⟩
  case round =>
    obtain ⟨k, hk, rfl, hBr, hbr⟩ := hrel
    clear hB hb1 hs1
    by_cases hkn : k < n
    · have hkl : k / 4 < l.length := by have := Hn.out; omega
      obtain ⟨g, pre, post, rfl, hx⟩ := hA (ne_nil_of hkl)
      have hcell := hBr.next (digs_length _ _ _) (by omega)
      have hfree := hBr.nextFree (digs_length _ _ _) (by omega)
      have hxc := (hx.below hbr hx.lt).cell (mid_at hkl)
      have hx1 := llt_getD hlt (k / 4)
      have hxb := limb_byte hlt k
      have Hxb := Lib.hid hxb
      clear hxb hA hx
      generalize l.getD (k / 4) 0 = d at hxc hx1 Hxb
      go_wp2
      go_roundw
      case rel => exact ⟨k + 1, by omega, by go_num, by rw [digs_succ]; exact hBr.push (digs_length _ _ _) (by omega) (by rw [← Hxb.out]; exact byte_of d (k % 4)) (by omega), hbr.setCell (Nat.le_refl _) _⟩
      case measure => simp [intOf]; omega
    · obtain rfl : k = n := by omega
      have hst := run_str_blk (P := Tryd.prog) (src := 59) (dst := 9) (l := digs 256 k (lval l)) (post := []) (by simpa using hBr) k k (digs_length _ _ _).symm Tryd.underlying59 Tryd.underlying5 Tryd.underlying9
      go_wp2_with (go_at_call 39; refine (Normalize_any _ _ (by rw [size_ofBts, digs_length]; simp [maxLen]; omega)).mono ?_; rintro e w' ⟨rfl, rfl⟩)
      go_ret
      exact ⟨magn_end hlt Hn.out, hbr⟩

/-- What trim returns: the limbs of the number, where the slice lay. -/
def TrimPost (A : Option Addr) (N : Nat) (w : World) (e : Ending) (w' : World) : Prop := ∃ A' c', e = .returned (.slice A' (lim N).length c') ∧ (lim N ≠ [] → A' = A) ∧ (lim N).length ≤ c' ∧ w = w'

theorem trim_zero {l : List Nat} (hz : ∀ j, l.getD j 0 = 0) : lval l = 0 := val_eq_zero hz

theorem trim_round {l : List Nat} {i k : Nat} (hi : i = l.length - k - 1) (hk : k < l.length) (hz : ∀ j, l.length - k ≤ j → l.getD j 0 = 0) (hd : 0 = l.getD i 0) : ∀ j, l.length - (k + 1) ≤ j → l.getD j 0 = 0 := by
  intro j hj
  by_cases e : j = i
  · rw [e, ← hd]
  · exact hz j (by omega)
theorem trim_some {l : List Nat} {A : Option Addr} {w w' : World} {i k d c : Nat} (hlt : llt l) (hil : i < l.length) (hk : k < l.length) (hi : i = l.length - k - 1) (hz : ∀ j, l.length - k ≤ j → l.getD j 0 = 0) (hd : d = l.getD i 0) (hd0 : ¬ d = 0) (hic : i + 1 ≤ c) (hw : w = w') :
    TrimPost A (lval l) w (.returned (.slice A (i + 1) c)) w' := by
  have e := lim_take hlt (i + 1) (by omega) (fun j hj => hz j (by omega)) (.inr (by rw [Nat.add_sub_cancel, ← hd]; exact hd0))
  have el : (lim (lval l)).length = i + 1 := by rw [e, List.length_take]; omega
  exact ⟨A, c, by rw [el], fun _ => rfl, by omega, hw⟩
theorem trim_none {N : Nat} {A : Option Addr} {w w' : World} (h : N = 0) (hw : w = w') : TrimPost A N w (.returned (.slice none 0 0)) w' := by
  subst h
  exact ⟨none, 0, rfl, fun h => absurd lim_zero h, Nat.le_refl _, hw⟩

set_option maxHeartbeats 400000 in
theorem trim_any (A : Option Addr) (l : List Nat) (c : Nat) (w : World) (hl : l.length ≤ 4294967296) (hlc : l.length ≤ c) (hlt : llt l) (hA : Rd w A l) :
    Calls Tryd.prog 45 #[.slice A l.length c] w (TrimPost A (lval l) w) := by
  go_enter Tryd.func45, Tryd.ntmps45
  go_wp2
  go_loop [3, 4, 7] (fun _ _ i => ∃ k : Nat, k ≤ l.length ∧ i = .int .i64 k ∧ ∀ j, l.length - k ≤ j → l.getD j 0 = 0) (fun _ _ i => l.length - (intOf i).toNat)
  case atStart => exact ⟨0, Nat.zero_le _, rfl, fun j hj => by rw [List.getD_eq_getElem?_getD, List.getElem?_eq_none (by omega)]; rfl⟩
  case round =>
    obtain ⟨k, hk, rfl, hz⟩ := hrel
    have Hz := Lib.hid hz
    clear hz
    by_cases hlt2 : k < l.length
    · obtain ⟨i, hi⟩ : ∃ i : Nat, i = l.length - k - 1 := ⟨_, rfl⟩
      have hil : i < l.length := by omega
      obtain ⟨g, pre, post, rfl, hx⟩ := hA (ne_nil_of hil)
      have hxc := hx.cell (mid_at hil)
      have e : ((l.length : Int) - (k : Int)) = (i : Int) + 1 := by omega
      have e2 : ((i : Int) + 1).toNat = i + 1 := by omega
      obtain ⟨d, hd⟩ : ∃ d, d = l.getD i 0 := ⟨_, rfl⟩
      rw [← hd] at hxc
      have Hd := Lib.hid hd
      have Hi := Lib.hid hi
      have hic : i + 1 ≤ c := by omega
      clear hd hi hA hx
      by_cases hd0 : d = 0
      · subst hd0
        go_wp2
        go_round
        case rel => exact ⟨k + 1, by omega, by go_num, trim_round Hi.out hlt2 Hz.out Hd.out⟩
        case measure => simp [intOf]; omega
      · have hdn : ((d : Int) != 0) = true := by simp; omega
        go_wp2
        go_ret
        exact trim_some hlt hil hlt2 Hi.out Hz.out Hd.out hd0 hic rfl
    · go_wp2
      go_ret
      exact trim_none (trim_zero (fun j => Hz.out j (by omega))) rfl
end Go.Proofs.YtmfinfnjamgboaaDoor
