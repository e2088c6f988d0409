/- nat.dropLowBits. -/
import Derived.Test.YtodcomijjmobdaaGreatDoorN3
import Derived.Shelf.Spec.TrailingZeros
import Derived.Test.YtodcomijjmobdaaGreatDoorN4
import Derived.Deep.AppendLies
import Derived.Deep.RegionLaw
import Derived.Deep.RegionWith
import Derived.Test.YtodcomijjmobdaaGreatDoorRows
import Derived.Test.YtodcomijjmobdaaGreatDoorN2
import Derived.ProofKit
import Derived.OpenShut
import Derived.Deep.DeepHandedRow
import Derived.Lib.LaidTab
set_option linter.unusedVariables false
set_option linter.unusedSimpArgs false
namespace Go.Proofs.YtodcomijjmobdaaGreatDoor
open Go.RowKit NM

theorem lim_pre {L : List Nat} (hL : llt L) : ∃ m, L = lim (lval L) ++ List.replicate m 0 := by
  have h1 : llen (lval L) ≤ L.length := (len_le_iff (by omega) _ _).2 (lval_lt hL)
  have h2 : (lim (lval L)).length = llen (lval L) := lim_length _
  refine ⟨L.length - llen (lval L), ?_⟩
  apply val_inj (B := 4294967296) (by omega) hL (lt_append (lim_lt _) (fun x hx => by rw [List.mem_replicate] at hx; omega)) (by rw [List.length_append, List.length_replicate, h2]; omega)
  rw [val_append_zeros]
  exact (lval_lim _).symm
theorem Win.trim {w : World} {A A' : Option Addr} {g : Nat} {pre post : List Value} {L : List Nat} (hW : Win w A g pre L post) (hL : llt L) (hA : lim (lval L) ≠ [] → A' = A) : ∃ post', Win w A' g pre (lim (lval L)) post' := by
  obtain ⟨m, hm⟩ := lim_pre hL
  refine ⟨cv .u32 (List.replicate m 0) ++ post, fun h => ?_⟩
  have hne : L ≠ [] := fun e => h (by rw [e]; rfl)
  obtain ⟨h1, h2⟩ := hW hne
  refine ⟨(hA h).trans h1, ?_⟩
  have e : pre ++ cv .u32 L ++ post = pre ++ cv .u32 (lim (lval L)) ++ (cv .u32 (List.replicate m 0) ++ post) := by
    conv => lhs; rw [hm, cv_append]
    simp only [List.append_assoc]
  rwa [e] at h2
theorem Win.drop {w : World} {A : Option Addr} {g : Nat} {pre post : List Value} {l : List Nat} (hW : Win w A g pre l post) (hl : l ≠ []) {k o : Nat} (hk : k ≤ l.length) (ho : o = pre.length + k) : Win w (some ⟨g, o, none⟩) g (pre ++ cv .u32 (l.take k)) (l.drop k) post := by
  subst ho
  intro _
  obtain ⟨_, h2⟩ := hW hl
  refine ⟨by rw [List.length_append, cv_length, List.length_take, Nat.min_eq_left hk], ?_⟩
  have e : pre ++ cv .u32 (l.take k) ++ cv .u32 (l.drop k) ++ post = pre ++ cv .u32 l ++ post := by
    rw [List.append_assoc pre, ← cv_append, List.take_append_drop]
  rwa [e]

/-- What dropLowBits and trim leave: the limbs of N in block g. -/
def DropPost (g N : Nat) (w : World) (e : Ending) (w' : World) : Prop :=
  ∃ A' c' pre' post', e = .returned (.slice A' (lim N).length c') ∧ Win w' A' g pre' (lim N) post' ∧ (lim N).length ≤ c' ∧ w.grownBy w' (some g)

theorem drop_val {l : List Nat} {k s : Nat} (hk : k ≤ l.length) (hl : llt l) : lval (l.drop k) / 2 ^ s = lval l / 2 ^ (32 * k + s) ∧ lval (lims (l.drop k).length (lval (l.drop k) / 2 ^ s)) = lval l / 2 ^ (32 * k + s) := by
  have h1 := val_take_drop 4294967296 l k hk
  have h2 : val 4294967296 (l.take k) < 4294967296 ^ k := by
    have := val_lt (lt_take hl k)
    rwa [List.length_take, Nat.min_eq_left hk] at this
  have e2 : (4294967296 : Nat) ^ k = 2 ^ (32 * k) := by rw [Nat.pow_mul]
  have h3 : lval l / 2 ^ (32 * k) = lval (l.drop k) := by
    rw [← e2]
    show val 4294967296 l / 4294967296 ^ k = val 4294967296 (l.drop k)
    rw [h1, Nat.add_mul_div_left _ _ (Nat.pow_pos (by omega)), Nat.div_eq_of_lt h2, Nat.zero_add]
  have h4 : lval (l.drop k) / 2 ^ s = lval l / 2 ^ (32 * k + s) := by rw [← h3, Nat.div_div_eq_div_mul, ← Nat.pow_add]
  refine ⟨h4, ?_⟩
  rw [lval_lims, Nat.mod_eq_of_lt (Nat.lt_of_le_of_lt (Nat.div_le_self _ _) (lval_lt (lt_drop hl k))), h4]

theorem drop_win {w : World} {A A' : Option Addr} {g : Nat} {pre post : List Value} {l : List Nat} {k : Nat} (hA : Win w A g pre l post) (hk : k ≤ l.length) (h : l.drop k ≠ [] → A' = A.map fun x => x.add k) :
    Win w A' g (pre ++ cv .u32 (l.take k)) (l.drop k) post := by
  intro hne
  have hl : l ≠ [] := fun e => hne (by rw [e]; exact List.drop_nil)
  have h1 := hA.drop hl hk rfl hne
  refine ⟨?_, h1.2⟩
  rw [h hne, (hA hl).1, h1.1.symm]
  simp [Addr.add]

/-- The rest of dropLowBits, once the slice is cut. -/
theorem shr_trim {A' : Option Addr} {g : Nat} {pre post : List Value} {L : List Nat} {s n c : Nat} {w : World} (hn : L.length = n) (hll : n ≤ 4294967296) (hs : s < 32) (hL : llt L) (hA : Win w A' g pre L post) :
    Calls Tryz.prog 159 #[.slice A' n c, .int .i64 (s : Int)] w (ShrPost A' g pre L post s w) := by
  subst hn
  exact shiftRight_any A' g pre L post c s w (by omega) hL hs hA
theorem trim_at {A' : Option Addr} {g : Nat} {pre post : List Value} {L : List Nat} {n c N : Nat} {w : World} (hn : L.length = n) (hll : n ≤ 4294967296) (hnc : n ≤ c) (hL : llt L) (hN : lval L = N) (hA : Win w A' g pre L post) :
    Calls Tryz.prog 160 #[.slice A' n c] w (DropPost g N w) := by
  subst hn hN
  refine (trim_any A' L c w hll hnc hL hA.rd).mono ?_
  rintro e w' ⟨A'', c', rfl, h1, h2, rfl⟩
  obtain ⟨post', hW⟩ := hA.trim hL h1
  exact ⟨A'', c', pre, post', rfl, hW, h2, World.grownBy.refl _ _⟩

set_option maxHeartbeats 1000000 in
theorem dropLowBits_any (A : Option Addr) (g : Nat) (pre : List Value) (l : List Nat) (post : List Value) (c k s n : Nat) (w : World) (hn : l.length = n) (hll : n ≤ 4294967296) (hl : llt l) (hs : s < 32) (hk : k ≤ n) (hlc : n ≤ c) (hA : Win w A g pre l post) :
    Calls Tryz.prog 163 #[.slice A n c, .int .i64 (32 * (k : Int) + (s : Int))] w (DropPost g (lval l / 2 ^ (32 * k + s)) w) := by
  have e1 : (32 * (k : Int) + (s : Int)) / 32 = (k : Int) := by omega
  have e2 : (32 * (k : Int) + (s : Int)) % 32 = (s : Int) := by omega
  have hwin := fun A' h => drop_win (A' := A') (k := k) hA (by omega) h
  have hlen : (l.drop k).length = n - k := by rw [List.length_drop, hn]
  have hnil : c = k → l.drop k = [] := fun e => List.drop_of_length_le (by omega)
  have hval := drop_val (s := s) (k := k) (l := l) (by omega) hl
  have Hwin := Lib.hid hwin
  have Hlen := Lib.hid hlen
  have Hnil := Lib.hid hnil
  have Hval := Lib.hid hval
  clear hn hwin hlen hnil hval
  have hld : llt (l.drop k) := lt_drop hl k
  go_enter Tryz.func163, Tryz.ntmps163
  go_wp2_with fail
  all_goals
    refine (shr_trim Hlen.out (by omega) hs hld (Hwin.out _ (fun h => by first | rfl | exact absurd (Hnil.out (by assumption)) h))).mono ?_
    rintro e w1 ⟨rfl, hc1, hc2, hc3, hc4⟩
    go_wp2_with fail
    refine (trim_at (g := g) (pre := pre ++ cv .u32 (l.take k)) (post := post) (by rw [hc1]; exact Hlen.out) (by omega) (by omega) (lims_lt _ _) Hval.out.2 (fun h => by
      have hne : l.drop k ≠ [] := fun e => h (by rw [e]; rfl)
      exact ⟨hc4 hne, hc2 hne⟩)).mono ?_
    rintro e w2 ⟨A', c', pre', post', rfl, h1, h2, h3⟩
    go_wp2_with fail
    go_ret
    exact ⟨A', c', pre', post', rfl, h1, h2, gb_trans hc3 h3⟩
end Go.Proofs.YtodcomijjmobdaaGreatDoor

/- math/bits.TrailingZeros32 and nat.trailingZeros. -/
namespace Go.Proofs.YtodcomijjmobdaaGreatDoor
open Go.RowKit NM

/-- The table's cells. -/
def TabC (w : World) : Prop := ∀ j, j < 32 → w.cell? ⟨0, j, none⟩ = some (.int .u8 (Lib.deBruijn32tab.getD j 0 : Nat))

set_option maxHeartbeats 1000000 in
theorem tz32_core (x k idx : Nat) (w : World) (hx0 : ((x : Int) == 0) = false)
    (key : bits BinOp.and IntKind.u32 (x : Int) (-(x : Int) % 4294967296) * 125613361 % 4294967296 / 134217728 = (idx : Int))
    (hi : idx < 32) (hk : k < 32) (hcell : w.cell? ⟨0, idx, none⟩ = some (.int .u8 k)) :
    Calls Tryz.prog 170 #[.int .u32 x] w fun e w' => e = .returned (.int .i64 k) ∧ w = w' := by
  go_enter Tryz.func170, Tryz.ntmps170
  go_wp2_with (simp only [key])
  go_ret
  exact ⟨rfl, rfl⟩

theorem tz32_any (x : Nat) (w : World) (hx : x < 4294967296) (hx0 : x ≠ 0) (hT : TabC w) :
    Calls Tryz.prog 170 #[.int .u32 x] w fun e w' => e = .returned (.int .i64 (Lib.ctz 32 x : Nat)) ∧ w = w' := by
  obtain ⟨hlow, hk⟩ := Lib.lowest_bit 32 x hx0 hx
  obtain ⟨hi, htab⟩ := Lib.deBruijn32_at _ hk
  have hcell := hT _ hi
  rw [htab] at hcell
  exact tz32_core x _ _ w (by simp; omega) (tz32_key x _ hx hx0 hlow) hi hk hcell

theorem ctz_odd {x : Nat} (hx : x < 4294967296) (hx0 : x ≠ 0) : ∃ m, x = 2 ^ Lib.ctz 32 x * (2 * m + 1) ∧ Lib.ctz 32 x < 32 := by
  have h := Lib.ctzFrom_spec 32 x (Nat.pos_of_ne_zero hx0) hx
  rw [Lib.ctz, if_neg hx0]
  exact h
end Go.Proofs.YtodcomijjmobdaaGreatDoor

/- nat.trailingZeros. -/
namespace Go.Proofs.YtodcomijjmobdaaGreatDoor
open Go.RowKit NM

def TzPost (N : Nat) (w : World) (e : Ending) (w' : World) : Prop := ∃ t : Nat, e = .returned (.int .i64 (t : Int)) ∧ (N = 0 → t = 0) ∧ (N ≠ 0 → ∃ q, N = 2 ^ t * (2 * q + 1)) ∧ w = w'

theorem tzs_val {l : List Nat} {k d t m : Nat} (hk : k < l.length) (hz : ∀ j, j < k → l.getD j 0 = 0) (hd : d = l.getD k 0) (hm : d = 2 ^ t * (2 * m + 1)) (ht : t < 32) : ∃ q, lval l = 2 ^ (32 * k + t) * (2 * q + 1) := by
  have h1 := val_take_drop 4294967296 l k (by omega)
  have h0 : val 4294967296 (l.take k) = 0 := val_eq_zero (fun j => by
    rw [List.getD_eq_getElem?_getD, List.getElem?_take]
    by_cases h : j < k
    · rw [if_pos h, ← List.getD_eq_getElem?_getD, hz j h]
    · rw [if_neg h]; rfl)
  have h2 := lhigh_step l k hk
  unfold lhigh at h2
  generalize lval (l.drop (k + 1)) = H at h2
  have e : lval l = 4294967296 ^ k * lval (l.drop k) := by
    show val 4294967296 l = 4294967296 ^ k * val 4294967296 (l.drop k)
    rw [h1, h0, Nat.zero_add]
  have e2 : (4294967296 : Nat) ^ k = 2 ^ (32 * k) := by rw [Nat.pow_mul]
  have e3 : (4294967296 : Nat) = 2 ^ t * (2 * 2 ^ (31 - t)) := by
    rw [show (2 : Nat) * 2 ^ (31 - t) = 2 ^ (32 - t) from by rw [show 32 - t = (31 - t) + 1 from by omega, Nat.pow_succ, Nat.mul_comm], ← Nat.pow_add, show t + (32 - t) = 32 from by omega]
  refine ⟨m + 2 ^ (31 - t) * H, ?_⟩
  rw [e, h2, ← hd, hm, e2, Nat.pow_add, Nat.mul_assoc]
  congr 1
  have e4 : 4294967296 * H = 2 ^ t * (2 * (2 ^ (31 - t) * H)) := by
    conv => lhs; rw [e3]
    rw [Nat.mul_assoc, Nat.mul_assoc]
  rw [e4, ← Nat.mul_add]
  congr 1
  omega
theorem tzs_ret {l : List Nat} {k d t m : Nat} {w w' : World} (hk : k < l.length) (hz : ∀ j, j < k → l.getD j 0 = 0) (hd : d = l.getD k 0) (hm : d = 2 ^ t * (2 * m + 1)) (ht : t < 32) (hw : w = w') :
    TzPost (lval l) w (.returned (.int .i64 (32 * (k : Int) + (t : Int)))) w' := by
  obtain ⟨q, hq⟩ := tzs_val hk hz hd hm ht
  refine ⟨32 * k + t, by go_num, fun h => ?_, fun _ => ⟨q, hq⟩, hw⟩
  rw [hq] at h
  have := Nat.pow_pos (n := 32 * k + t) (show 0 < 2 by omega)
  rcases Nat.mul_eq_zero.1 h with h | h
  · omega
  · omega
theorem tzs_none {l : List Nat} {k : Nat} {w w' : World} (hk : l.length ≤ k) (hz : ∀ j, j < k → l.getD j 0 = 0) (hw : w = w') : TzPost (lval l) w (.returned (.int .i64 0)) w' := by
  have h : lval l = 0 := val_eq_zero (fun j => by
    by_cases h : j < k
    · exact hz j h
    · rw [List.getD_eq_getElem?_getD, List.getElem?_eq_none (by omega)]; rfl)
  exact ⟨0, rfl, fun _ => rfl, fun h' => absurd h h', hw⟩

set_option maxHeartbeats 1000000 in
theorem trailingZeros_any (A : Option Addr) (l : List Nat) (c : Nat) (w : World) (hl : l.length ≤ 4294967296) (hlt : llt l) (hA : Rd w A l) (hT : TabC w) :
    Calls Tryz.prog 161 #[.slice A l.length c] w (TzPost (lval l) w) := by
  go_enter Tryz.func161, Tryz.ntmps161
  go_wp2
  go_loop [3, 6] (fun _ i => ∃ k : Nat, k ≤ l.length ∧ i = .int .i64 k ∧ ∀ j, j < k → l.getD j 0 = 0) (fun _ i => l.length - (intOf i).toNat)
  case atStart => exact ⟨0, Nat.zero_le _, rfl, fun j hj => by omega⟩
  case round =>
    obtain ⟨k, hk, rfl, hz⟩ := hrel
    have Hz := Lib.hid hz
    clear hz
    by_cases hlt2 : k < l.length
    · obtain ⟨g, pre, post, rfl, hx⟩ := hA (ne_nil_of hlt2)
      have hxc := hx.cell (mid_at hlt2)
      have hdl := llt_getD hlt k
      obtain ⟨d, hd⟩ : ∃ d, d = l.getD k 0 := ⟨_, rfl⟩
      rw [← hd] at hxc hdl
      have Hd := Lib.hid hd
      clear hd hA hx
      by_cases hd0 : d = 0
      · subst hd0
        go_wp2
        go_round
        case rel => exact ⟨k + 1, by omega, by go_num, fun j hj => by
          rcases Nat.lt_or_ge j k with h | h
          · exact Hz.out j h
          · obtain rfl : j = k := by omega
            exact Hd.out.symm⟩
        case measure => simp [intOf]; omega
      · have hdn : ((d : Int) != 0) = true := by simp; omega
        have hcall := tz32_any d w hdl hd0 hT
        obtain ⟨m, hm, ht⟩ := ctz_odd hdl hd0
        generalize Lib.ctz 32 d = t at hcall hm ht
        have Hm := Lib.hid hm
        clear hm hT
        have Hcall := Lib.hid hcall
        clear hcall
        go_wp2_with (go_at_call 170; refine (Hcall.out).mono ?_; rintro e w' ⟨rfl, rfl⟩)
        go_ret
        exact tzs_ret hlt2 Hz.out Hd.out Hm.out ht rfl
    · go_wp2
      go_ret
      exact tzs_none (by omega) Hz.out rfl
end Go.Proofs.YtodcomijjmobdaaGreatDoor

/- nat.less. -/
namespace Go.Proofs.YtodcomijjmobdaaGreatDoor
open Go.RowKit NM

theorem lim_len_lt {M N : Nat} (h : (lim M).length < (lim N).length) : M < N := by
  have h1 := lval_lt (lim_lt M)
  rw [lval_lim] at h1
  have hN : N ≠ 0 := fun e => by rw [e, lim_zero] at h; simp at h
  rw [lim_length] at h h1
  rw [lim_length] at h
  have h2 := pow_len_le (B := 4294967296) (by omega) hN
  have h3 : 4294967296 ^ (llen M) ≤ 4294967296 ^ (llen N - 1) := Nat.pow_le_pow_right (by omega) (by omega)
  exact Nat.lt_of_lt_of_le h1 (Nat.le_trans h3 h2)
theorem less_top {M N i k : Nat} (he : (lim M).length = (lim N).length) (hk : k < (lim M).length) (hi : i = (lim M).length - 1 - k) (ht : ∀ j, (lim M).length - k ≤ j → (lim M).getD j 0 = (lim N).getD j 0) (h : (lim M).getD i 0 < (lim N).getD i 0) : M < N := by
  have := val_top (B := 4294967296) (lim_lt M) he i (by omega) (fun j hj => ht j (by omega)) h
  have e1 := lval_lim M
  have e2 := lval_lim N
  unfold lval at e1 e2
  omega
theorem less_ret {b : Bool} {p : Prop} [Decidable p] (h : b = decide p) : Ending.returned (.bool b) = .returned (.bool (decide p)) := by rw [h]

set_option maxHeartbeats 1000000 in
theorem less_any (A B : Option Addr) (M N c1 c2 : Nat) (w : World) (hM : (lim M).length ≤ 4294967296) (_hN : (lim N).length ≤ 4294967296) (hA : Rd w A (lim M)) (hB : Rd w B (lim N)) :
    Calls Tryz.prog 171 #[.slice A (lim M).length c1, .slice B (lim N).length c2] w fun e w' => e = .returned (.bool (decide (M < N))) ∧ Below w.heap.size w w' := by
  by_cases hne : (lim M).length = (lim N).length
  · have hn0 : (((lim M).length : Int) != ((lim N).length : Int)) = false := by rw [hne]; simp
    have Hne := Lib.hid hne
    have hge : (lim M).length ≤ (lim N).length := by omega
    have hle : (lim N).length ≤ (lim M).length := by omega
    clear hne
    go_enter Tryz.func171, Tryz.ntmps171
    go_wp2
    go_loopw [5, 6, 19] (fun _ _ i wr => ∃ k : Nat, k ≤ (lim M).length ∧ i = .int .i64 k ∧ (∀ j, (lim M).length - k ≤ j → (lim M).getD j 0 = (lim N).getD j 0) ∧ Below w.heap.size w wr) (fun _ _ i _ => (lim M).length - (intOf i).toNat)
    case atStart => exact ⟨0, Nat.zero_le _, rfl, fun j hj => by rw [List.getD_eq_getElem?_getD, List.getElem?_eq_none (by omega), List.getD_eq_getElem?_getD, List.getElem?_eq_none (by omega)], Below.refl _ _⟩
    case round =>
      obtain ⟨k, hk, rfl, ht, hb⟩ := hrel
      have Ht := Lib.hid ht
      clear ht
      by_cases hlt : k < (lim M).length
      · obtain ⟨i, hi⟩ : ∃ i : Nat, i = (lim M).length - 1 - k := ⟨_, rfl⟩
        have e : (((lim M).length : Int) - 1 - (k : Int)) = (i : Int) := by omega
        have b2 : i < (lim M).length := by omega
        have b3 : i < (lim N).length := by omega
        obtain ⟨g, pre, post, rfl, hx⟩ := hA (ne_nil_of hlt)
        obtain ⟨g2, pre2, post2, rfl, hy⟩ := hB (ne_nil_of b3)
        have hxc := (hx.keep hb).cell (mid_at b2)
        have hyc := (hy.keep hb).cell (mid_at b3)
        obtain ⟨d, hd⟩ : ∃ d, d = (lim M).getD i 0 := ⟨_, rfl⟩
        obtain ⟨f, hf⟩ : ∃ f, f = (lim N).getD i 0 := ⟨_, rfl⟩
        rw [← hd] at hxc
        rw [← hf] at hyc
        have Hd := Lib.hid hd
        have Hf := Lib.hid hf
        have Hi := Lib.hid hi
        clear hd hf hA hB hx hy hi
        by_cases heq : d = f
        · subst heq
          have hq : ((d : Int) != (d : Int)) = false := by simp
          go_wp2
          go_quiet (fail)
          go_wp2
          go_roundw
          case rel => exact ⟨k + 1, by omega, by go_num, fun j hj => by
            by_cases h : j = i
            · rw [h, ← Hd.out, ← Hf.out]
            · exact Ht.out j (by have := Hi.out; omega), by exact below_drewN hb _⟩
          case measure => simp [intOf]; omega
        · have hq : ((d : Int) != (f : Int)) = true := by simp; omega
          go_wp2
          go_quiet (fail)
          have hb1 : Below w.heap.size w (wr.drewN nq) := below_drewN hb _
          have hxc1 : (wr.drewN nq).cell? _ = _ := hxc
          have hyc1 : (wr.drewN nq).cell? _ = _ := hyc
          generalize wr.drewN nq = W1 at hb1 hxc1 hyc1 ⊢
          clear hb hxc hyc
          have hres : decide (d < f) = decide (M < N) := by
            rcases Nat.lt_or_ge d f with h | h
            · rw [decide_eq_true h, decide_eq_true (less_top Hne.out hlt Hi.out Ht.out (by rw [← Hd.out, ← Hf.out]; exact h))]
            · have h1 := less_top Hne.out.symm (i := i) (k := k) (by omega) (by rw [← Hne.out]; exact Hi.out) (fun j hj => (Ht.out j (by omega)).symm) (by rw [← Hd.out, ← Hf.out]; omega)
              rw [decide_eq_false (show ¬ d < f by omega), decide_eq_false (show ¬ M < N by omega)]
          have Hres := Lib.hid hres
          clear hres
          go_wp2
          go_quiet (fail)
          go_wp2
          go_ret
          exact ⟨less_ret Hres.out, by exact below_drewN hb1 _⟩
      · have hres : false = decide (M < N) := by
          have h : lim M = lim N := list_ext Hne.out (fun j => Ht.out j (by omega))
          have h1 : M = N := by rw [← lval_lim M, h, lval_lim N]
          rw [decide_eq_false (by omega)]
        have Hres := Lib.hid hres
        clear hres
        go_wp2
        go_ret
        exact ⟨less_ret Hres.out, hb⟩
  · have hn0 : (((lim M).length : Int) != ((lim N).length : Int)) = true := by simp; omega
    have hres : decide ((lim M).length < (lim N).length) = decide (M < N) := by
      rcases Nat.lt_or_ge (lim M).length (lim N).length with h | h
      · rw [decide_eq_true h, decide_eq_true (lim_len_lt h)]
      · have h1 := lim_len_lt (M := N) (N := M) (by omega)
        rw [decide_eq_false (show ¬ (lim M).length < (lim N).length by omega), decide_eq_false (show ¬ M < N by omega)]
    have Hres := Lib.hid hres
    clear hres hne
    go_enter Tryz.func171, Tryz.ntmps171
    go_wp2
    go_ret
    exact ⟨less_ret Hres.out, Below.refl _ _⟩
end Go.Proofs.YtodcomijjmobdaaGreatDoor

/- math/bits.Sub32 and nat.subtract. -/
namespace Go.Proofs.YtodcomijjmobdaaGreatDoor
open Go.RowKit NM

theorem ofInt_32 {a : Nat} (ha : a < 4294967296) : (BitVec.ofInt 32 (a : Int)).toNat = a := by
  rw [BitVec.ofInt_natCast, BitVec.toNat_ofNat]
  exact Nat.mod_eq_of_lt (by omega)
theorem bits_xor_u32_nat (a b : Nat) (ha : a < 4294967296) (hb : b < 4294967296) : bits .xor .u32 (a : Int) (b : Int) = ((a ^^^ b : Nat) : Int) ∧ a ^^^ b < 4294967296 := by
  have hx : a ^^^ b < 2 ^ 32 := Nat.xor_lt_two_pow (by omega) (by omega)
  refine ⟨?_, hx⟩
  show IntKind.u32.wrap ((BitVec.ofInt 32 (a : Int) ^^^ BitVec.ofInt 32 (b : Int)).toNat : Int) = _
  rw [BitVec.toNat_xor, ofInt_32 ha, ofInt_32 hb, wrap_u32']
  omega
theorem bits_or_u32_nat (a b : Nat) (ha : a < 4294967296) (hb : b < 4294967296) : bits .or .u32 (a : Int) (b : Int) = ((a ||| b : Nat) : Int) ∧ a ||| b < 4294967296 := by
  have hx : a ||| b < 2 ^ 32 := Nat.or_lt_two_pow (by omega) (by omega)
  refine ⟨?_, hx⟩
  show IntKind.u32.wrap ((BitVec.ofInt 32 (a : Int) ||| BitVec.ofInt 32 (b : Int)).toNat : Int) = _
  rw [BitVec.toNat_or, ofInt_32 ha, ofInt_32 hb, wrap_u32']
  omega
theorem and_lt_32 {a b : Nat} (hb : b < 4294967296) : a &&& b < 4294967296 := Nat.and_lt_two_pow (n := 32) a hb
theorem top_bit {n : Nat} (h : n < 4294967296) : n / 2147483648 = (n.testBit 31).toNat := by
  rw [Nat.testBit_eq_decide_div_mod_eq]
  by_cases h1 : n / 2 ^ 31 % 2 = 1
  · rw [decide_eq_true h1]
    show n / 2147483648 = 1
    omega
  · rw [decide_eq_false h1]
    show n / 2147483648 = 0
    omega
/-- What the highest bit of the borrow's formula is. -/
theorem borrow_bits {x y d b b' : Nat} (hx : x < 4294967296) (hy : y < 4294967296) (hd : d < 4294967296) (hb : b ≤ 1) (h : d + y + b = x + 4294967296 * b') :
    bits .or .u32 (bits .and .u32 (bits .xor .u32 4294967295 (x : Int)) (y : Int)) (bits .and .u32 (bits .xor .u32 4294967295 (bits .xor .u32 (x : Int) (y : Int))) (d : Int)) / 2147483648 = (b' : Int) := by
  have e0 : (4294967295 : Int) = ((4294967295 : Nat) : Int) := rfl
  obtain ⟨e1, l1⟩ := bits_xor_u32_nat 4294967295 x (by omega) hx
  obtain ⟨e2, l2⟩ := bits_xor_u32_nat x y hx hy
  obtain ⟨e3, l3⟩ := bits_xor_u32_nat 4294967295 (x ^^^ y) (by omega) l2
  rw [e0, e1, e2, e3, bits_and_u32_nat _ _ l1 hy, bits_and_u32_nat _ _ l3 hd]
  obtain ⟨e4, l4⟩ := bits_or_u32_nat _ _ (and_lt_32 (a := 4294967295 ^^^ x) hy) (and_lt_32 (a := 4294967295 ^^^ (x ^^^ y)) hd)
  rw [e4]
  have e5 := top_bit l4
  have e6 : ((((4294967295 ^^^ x) &&& y) ||| ((4294967295 ^^^ (x ^^^ y)) &&& d)) / 2147483648 : Nat) = b' := by
    rw [e5, Nat.testBit_or, Nat.testBit_and, Nat.testBit_and, Nat.testBit_xor, Nat.testBit_xor, Nat.testBit_xor, show Nat.testBit 4294967295 31 = true from by decide]
    have t1 := top_bit hx
    have t2 := top_bit hy
    have t3 := top_bit hd
    generalize x.testBit 31 = p at *
    generalize y.testBit 31 = q at *
    generalize d.testBit 31 = r at *
    cases p <;> cases q <;> cases r <;> simp only [Bool.toNat_true, Bool.toNat_false, Bool.xor_true, Bool.xor_false, Bool.not_true, Bool.not_false, Bool.and_true, Bool.and_false, Bool.or_false, Bool.or_true] at * <;> omega
  rw [← e6]
  rfl

theorem max_u32 : IntKind.u32.max = 4294967295 := by decide +kernel
set_option maxHeartbeats 1000000 in
theorem Sub32_any (x y b d b' : Nat) (w : World) (hx : x < 4294967296) (hy : y < 4294967296) (hb : b ≤ 1) (hd : d < 4294967296) (h : d + y + b = x + 4294967296 * b') :
    Calls Tryz.prog 173 #[.int .u32 (x : Int), .int .u32 (y : Int), .int .u32 (b : Int)] w fun e w' => e = .returned (.tuple #[.int .u32 (d : Int), .int .u32 (b' : Int)]) ∧ w = w' := by
  have e1 : ((x : Int) - (y : Int) - (b : Int)) % 4294967296 = (d : Int) := by omega
  have e2 := borrow_bits hx hy hd hb h
  rw [← max_u32] at e2
  clear h
  go_enter Tryz.func173, Tryz.ntmps173
  go_wp2
  go_ret2
  exact ⟨rfl, rfl⟩

/-- What subtract leaves. -/
def SubPost (A : Option Addr) (g : Nat) (pre : List Value) (X : List Nat) (post : List Value) (N : Nat) (w : World) (e : Ending) (w' : World) : Prop :=
  e = .returned (.tuple #[]) ∧ Chg A g pre X post (lims X.length (lval X - N)) w w'
theorem sub32_end {L X Y : List Nat} {n cy : Nat} (hX : X.length = n) (hY : Y.length ≤ n) (hL : L.length = n) (hLl : llt L) (hXl : llt X) (hle : lval Y ≤ lval X) (hv : lval L + lval (Y.take n) = lval (X.take n) + lpow n * cy) : L = lims X.length (lval X - lval Y) := by
  rw [List.take_of_length_le (show Y.length ≤ n by omega), List.take_of_length_le (show X.length ≤ n by omega)] at hv
  have h4 : lval L < lpow n := by have := lval_lt hLl; rwa [hL] at this
  have h5 : lval X < lpow n := by have := lval_lt hXl; rwa [hX] at this
  have hcy : cy = 0 := by
    rcases Nat.eq_zero_or_pos cy with h | h
    · exact h
    · have : lpow n * 1 ≤ lpow n * cy := Nat.mul_le_mul_left _ h
      omega
  subst hcy
  apply lval_inj hLl (lims_lt _ _) (by rw [lims_length, hL, hX])
  rw [lval_lims, hX, Nat.mod_eq_of_lt (by omega)]
  omega

set_option maxHeartbeats 2000000 in
theorem subtract_any (A B : Option Addr) (g gy : Nat) (pre prey post posty : List Value) (X Y : List Nat) (c1 c2 n m : Nat) (w : World) (hX : X.length = n) (hY : Y.length = m) (hm : m ≤ n) (hn : n ≤ 8589934592)
    (hXl : llt X) (hYl : llt Y) (hle : lval Y ≤ lval X) (hA : Win w A g pre X post) (hB : Win w B gy prey Y posty) (hne : g ≠ gy) :
    Calls Tryz.prog 172 #[.slice A n c1, .slice B m c2] w (SubPost A g pre X post (lval Y) w) := by
  have HX := Lib.hid hX
  have HY := Lib.hid hY
  have Hle := Lib.hid hle
  clear hX hY hle
  go_enter Tryz.func172, Tryz.ntmps172
  go_wp2
  go_loopw [4, 9] (fun c i wr => ∃ (k : Nat) (L : List Nat) (cy : Nat), k ≤ n ∧ i = .int .i64 k ∧ c = .int .u32 cy ∧ cy ≤ 1 ∧ L.length = k ∧ llt L ∧ lval L + lval (Y.take k) = lval (X.take k) + lpow k * cy ∧ (X ≠ [] → MB wr g pre (L ++ X.drop k) post) ∧ w.grownBy wr (some g)) (fun _ i _ => n - (intOf i).toNat)
  case atStart => exact ⟨0, [], 0, Nat.zero_le _, rfl, rfl, by omega, rfl, llt_nil, by rw [List.take_zero, List.take_zero, lval_nil, Nat.mul_zero], fun h => (hA h).2, World.grownBy.refl _ _⟩
  case round =>
    obtain ⟨k, L, cy, hk, rfl, rfl, hcy, hLk, hLl, hv, hM0, hg⟩ := hrel
    have HLk := Lib.hid hLk
    have Hv := Lib.hid hv
    by_cases hlt : k < n
    · have hXne : X ≠ [] := ne_nil_of (j := k) (by rw [HX.out]; exact hlt)
      have hM := hM0 hXne
      obtain ⟨rfl, _⟩ := hA hXne
      have hxc := hM.at_ (j := k) (by rw [app_len hLk (by rw [HX.out]; omega), HX.out]; omega)
      have hxf := hM.free (j := k) (by rw [app_len hLk (by rw [HX.out]; omega), HX.out]; omega)
      rw [app_at hLk] at hxc
      have hx1 := llt_getD hXl k
      clear hLk hv hM0
      obtain ⟨x, hx⟩ : ∃ x, x = X.getD k 0 := ⟨_, rfl⟩
      obtain ⟨y, hy⟩ : ∃ y, y = Y.getD k 0 := ⟨_, rfl⟩
      have hy1 := llt_getD hYl k
      rw [← hx] at hxc hx1
      rw [← hy] at hy1
      obtain ⟨d, b', hd, hb', hdb⟩ : ∃ d b' : Nat, d < 4294967296 ∧ b' ≤ 1 ∧ d + y + cy = x + 4294967296 * b' := by
        by_cases hlo : x < y + cy
        · exact ⟨x + 4294967296 - (y + cy), 1, by omega, by omega, by omega⟩
        · exact ⟨x - (y + cy), 0, by omega, by omega, by omega⟩
      have hcall := fun W : World => Sub32_any x y cy d b' W hx1 hy1 hcy hd hdb
      have Hcall := Lib.hid hcall
      have Hdb := Lib.hid hdb
      have Hx := Lib.hid hx
      clear hcall hdb hx
      by_cases hkm : k < m
      · obtain ⟨rfl, hMy⟩ := hB (ne_nil_of (j := k) (by rw [HY.out]; exact hkm))
        have hyc := (Blk.grown hMy hg (by intro e; exact hne (Option.some.inj e).symm)).cell (mid_at (pre := prey) (post := posty) (l := Y) (j := k) (by rw [HY.out]; exact hkm))
        rw [← hy] at hyc
        have Hy := Lib.hid hy
        clear hy hMy hA hB
        go_wp2_with (go_at_call 173; refine (Hcall.out _).mono ?_; rintro e w' ⟨rfl, rfl⟩)
        go_roundw
        case rel => exact ⟨k + 1, L ++ [d], b', by omega, by go_num, rfl, hb', by rw [List.length_append, HLk.out]; rfl, llt_snoc hLl hd, diff_round HLk.out Hv.out (by rw [← Hx.out, ← Hy.out]; exact Hdb.out), fun _ => by rw [← app_set HLk.out (by rw [HX.out]; omega)]; exact hM.set (by rw [app_len HLk.out (by rw [HX.out]; omega), HX.out]; omega) rfl, gb_set hg _ _⟩
        case measure => simp [intOf]; omega
      · have hy0 : y = 0 := by rw [hy, List.getD_eq_getElem?_getD, List.getElem?_eq_none (by rw [HY.out]; omega)]; rfl
        have Hy := Lib.hid hy
        clear hy hA hB
        subst hy0
        go_wp2_with (go_at_call 173; refine (Hcall.out _).mono ?_; rintro e w' ⟨rfl, rfl⟩)
        go_roundw
        case rel => exact ⟨k + 1, L ++ [d], b', by omega, by go_num, rfl, hb', by rw [List.length_append, HLk.out]; rfl, llt_snoc hLl hd, diff_round HLk.out Hv.out (by rw [← Hx.out, ← Hy.out]; exact Hdb.out), fun _ => by rw [← app_set HLk.out (by rw [HX.out]; omega)]; exact hM.set (by rw [app_len HLk.out (by rw [HX.out]; omega), HX.out]; omega) rfl, gb_set hg _ _⟩
        case measure => simp [intOf]; omega
    · obtain rfl : k = n := by omega
      go_wp2
      go_end0
      have e := sub32_end HX.out (by rw [HY.out]; exact hm) HLk.out hLl hXl Hle.out Hv.out
      refine ⟨rfl, lims_length _ _, fun h => ?_, hg, fun h => (hA h).1⟩
      have h1 := hM0 h
      rw [List.drop_of_length_le (by rw [HX.out]; exact Nat.le_refl _), List.append_nil, e] at h1
      exact h1
end Go.Proofs.YtodcomijjmobdaaGreatDoor

/- nat.oddGcd. -/
namespace Go.Proofs.YtodcomijjmobdaaGreatDoor
open Go.RowKit NM

/-- The number that a slice of limbs holds in a world. -/
def cellNat (w : World) (a : Addr) : Nat := match w.cell? a with
  | some (.int _ z) => z.toNat
  | _ => 0
def numAt (w : World) : Value → Nat
  | .slice (some a) n _ => lval ((List.range n).map fun j => cellNat w ⟨a.block, a.off + j, none⟩)
  | _ => 0
theorem numAt_win {w : World} {A : Option Addr} {g : Nat} {pre l : _} {post : List Value} {c n : Nat} (hW : Win w A g pre l post) (hn : l.length = n) : numAt w (.slice A n c) = lval l := by
  subst hn
  by_cases h : l = []
  · subst h
    cases A <;> rfl
  · obtain ⟨rfl, hB⟩ := hW h
    have hM : MB w g pre l post := hB
    show lval ((List.range l.length).map fun j => cellNat w ⟨g, pre.length + j, none⟩) = lval l
    congr 1
    apply List.ext_getElem (by simp)
    intro j h1 h2
    rw [List.getElem_map, List.getElem_range]
    have hc := hM.at_ (j := j) h2
    unfold cellNat
    rw [hc]
    show ((l.getD j 0 : Nat) : Int).toNat = l[j]
    rw [List.getD_eq_getElem?_getD, List.getElem?_eq_getElem h2]
    rfl
theorem Win.grown {w w' : World} {A : Option Addr} {g g' : Nat} {pre post : List Value} {l : List Nat} (h : Win w A g pre l post) (hg : w.grownBy w' (some g')) (hne : g ≠ g') : Win w' A g pre l post := fun hl => ⟨(h hl).1, Blk.grown (h hl).2 hg (by intro e; exact hne (Option.some.inj e))⟩
theorem TabC.below {w w' : World} {B : Nat} (h : TabC w) (hb : Below B w w') (hB : 0 < B) : TabC w' := fun j hj => (World.cell?_of_block (hb.block 0 hB)).trans (h j hj)
theorem lim_len_mono {M N : Nat} (h : M ≤ N) : (lim M).length ≤ (lim N).length := by
  rw [lim_length, lim_length]
  exact len_mono (by omega) h
theorem lim_pos {N : Nat} (h : N ≠ 0) : 0 < (lim N).length := List.length_pos_iff.2 (fun e => h (lim_eq_nil.1 e))

theorem dropLowBits_t (A : Option Addr) (g : Nat) (pre : List Value) (N : Nat) (post : List Value) (c t : Nat) (w : World) (hll : (lim N).length ≤ 4294967296) (ht : N = 0 → t = 0) (ht2 : N ≠ 0 → ∃ q, N = 2 ^ t * (2 * q + 1)) (hlc : (lim N).length ≤ c) (hA : Win w A g pre (lim N) post) :
    Calls Tryz.prog 163 #[.slice A (lim N).length c, .int .i64 (t : Int)] w (DropPost g (N / 2 ^ t) w) := by
  obtain ⟨k, s, rfl, hs⟩ : ∃ k s, t = 32 * k + s ∧ s < 32 := ⟨t / 32, t % 32, by omega, by omega⟩
  have hk : k ≤ (lim N).length := by
    by_cases h : N = 0
    · have := ht h
      omega
    · obtain ⟨q, hq⟩ := ht2 h
      have h1 := lval_lt (lim_lt N)
      rw [lval_lim] at h1
      have h2 : 2 ^ (32 * k + s) * 1 ≤ N := by rw [hq]; exact Nat.mul_le_mul_left _ (by omega)
      have h3 : (2 : Nat) ^ (32 * k + s) < 2 ^ (32 * (lim N).length) := by
        rw [Nat.pow_mul]
        exact Nat.lt_of_le_of_lt (by rw [Nat.mul_one] at h2; exact h2) h1
      have := (Nat.pow_lt_pow_iff_right (a := 2) (by omega)).1 h3
      omega
  have := dropLowBits_any A g pre (lim N) post c k s (lim N).length w rfl hll (lim_lt _) hs hk hlc hA
  rw [lval_lim] at this
  rwa [show (32 * (k : Int) + (s : Int)) = ((32 * k + s : Nat) : Int) from by omega] at this

theorem pow_div {t q : Nat} : 2 ^ t * q / 2 ^ t = q := Nat.mul_div_cancel_left _ (Nat.pow_pos (by omega))
theorem gcd_odd_part {t o Q : Nat} (hQ : Q % 2 = 1) : Nat.gcd (2 ^ t * o) Q = Nat.gcd o Q := by
  have h : Nat.Coprime (2 ^ t) Q := by
    apply Nat.Coprime.pow_left
    rw [Nat.coprime_iff_gcd_eq_one, Nat.gcd_rec, hQ]
    decide
  exact Nat.Coprime.gcd_mul_left_cancel _ h
/-- One round: the difference without its twos. -/
theorem odd_step {P Q D t : Nat} (hQ : Q % 2 = 1) (hle : Q ≤ P) (hD : D = P - Q) (ht : D = 0 → t = 0) (ht2 : D ≠ 0 → ∃ q, D = 2 ^ t * (2 * q + 1)) :
    Nat.gcd (D / 2 ^ t) Q = Nat.gcd P Q ∧ (D / 2 ^ t % 2 = 1 ∨ D / 2 ^ t = 0) ∧ D / 2 ^ t < P := by
  have hg : Nat.gcd D Q = Nat.gcd P Q := by
    rw [hD]
    exact Nat.gcd_sub_self_left hle
  refine ⟨?_, ?_, ?_⟩
  · by_cases h : D = 0
    · rw [h, Nat.zero_div, ← h, hg]
    · obtain ⟨q, hq⟩ := ht2 h
      rw [← hg, hq, pow_div, gcd_odd_part hQ]
  · by_cases h : D = 0
    · right
      rw [h, Nat.zero_div]
    · obtain ⟨q, hq⟩ := ht2 h
      left
      rw [hq, pow_div]
      omega
  · have := Nat.div_le_self D (2 ^ t)
    omega

/-- What oddGcd and gcdOfLimbs leave: the limbs of N somewhere in what was made. -/
def GcdPost (base N : Nat) (w : World) (e : Ending) (w' : World) : Prop :=
  ∃ A c g pre post, e = .returned (.slice A (lim N).length c) ∧ Win w' A g pre (lim N) post ∧ (lim N).length ≤ c ∧ Below base w w'
/-- Two slices of limbs in two blocks of what was made. -/
def Two (base K X Y : Nat) (x y : Value) (w : World) : Prop :=
  ∃ A g pre post c B gy prey posty cy, x = .slice A (lim X).length c ∧ y = .slice B (lim Y).length cy ∧ Win w A g pre (lim X) post ∧ Win w B gy prey (lim Y) posty ∧ g ≠ gy ∧ base ≤ g ∧ base ≤ gy ∧ (lim X).length ≤ c ∧ (lim Y).length ≤ cy ∧ (lim X).length ≤ K ∧ (lim Y).length ≤ K
theorem sub_lval {P Q : Nat} : lval (lims (lim P).length (lval (lim P) - lval (lim Q))) = P - Q := by
  rw [lval_lims, lval_lim, lval_lim]
  have h := lval_lt (lim_lt P)
  rw [lval_lim] at h
  exact Nat.mod_eq_of_lt (by omega)
set_option maxHeartbeats 4000000 in
theorem oddGcd_any (base K X Y : Nat) (x y : Value) (w : World) (hK : K ≤ 4294967296) (h2 : Two base K X Y x y w) (hX : X % 2 = 1 ∨ X = 0) (hY : Y % 2 = 1) (hbase : base ≤ w.heap.size) (hT : TabC w) (htab : 0 < base) :
    Calls Tryz.prog 162 #[x, y] w (GcdPost base (Nat.gcd X Y) w) := by
  obtain ⟨G, hG⟩ : ∃ G, G = Nat.gcd X Y := ⟨_, rfl⟩
  rw [← hG]
  go_enter Tryz.func162, Tryz.ntmps162
  go_wp2_with fail
  go_loopw [0, 1] (fun x y wr => ∃ X Y, Two base K X Y x y wr ∧ (X % 2 = 1 ∨ X = 0) ∧ Y % 2 = 1 ∧ Nat.gcd X Y = G ∧ Below base w wr) (fun x y wr => numAt wr x + numAt wr y)
  case atStart => exact ⟨X, Y, h2, hX, hY, hG.symm, Below.refl _ _⟩
  case round =>
    clear h2 hX hY hG X Y x y
    obtain ⟨X, Y, ⟨A, g, pre, post, c, B, gy, prey, posty, cy, rfl, rfl, hA, hB, hne, hg1, hg2, hc1, hc2, hk1, hk2⟩, hX, hY, hG, hb⟩ := hrel
    have hTr := hT.below hb htab
    have hsz : base ≤ wr.heap.size := Nat.le_trans hbase hb.size
    by_cases hz : X = 0
    · have e : lim X = [] := by rw [hz]; rfl
      have el : (lim X).length = 0 := by rw [e]; rfl
      have eY : Y = G := by rw [← hG, hz, Nat.gcd_zero_left]
      subst eY
      rw [el]
      go_wp2_with fail
      go_ret
      exact ⟨B, cy, gy, prey, posty, rfl, hB, hc2, hb⟩
    · have hX1 : X % 2 = 1 := by omega
      have hp := lim_pos hz
      have hpY := lim_pos (N := Y) (by omega)
      have hmeas : numAt wr (.slice A (lim X).length c) + numAt wr (.slice B (lim Y).length cy) = X + Y := by rw [numAt_win hA rfl, numAt_win hB rfl, lval_lim, lval_lim]
      go_wp2_with fail
      refine (less_any A B X Y c cy _ (by omega) (by omega) hA.rd hB.rd).mono ?_
      rintro e w1 ⟨rfl, hb1⟩
      have hA1 := hA.keep hb1
      have hB1 := hB.keep hb1
      have hbb := hb.trans (hb1.mono hsz)
      have hsz1 : base ≤ w1.heap.size := Nat.le_trans hsz hb1.size
      have hT1 := hT.below hbb htab
      clear hA hB hb1 hb hsz
      by_cases hlt : X < Y
      · rw [decide_eq_true hlt]
        have hle : X ≤ Y := by omega
        clear hlt
        go_wp2_with fail
        refine (subtract_any B A gy g prey pre posty post (lim Y) (lim X) cy c (lim Y).length (lim X).length _ rfl rfl (lim_len_mono hle) (by omega) (lim_lt _) (lim_lt _) (by rw [lval_lim, lval_lim]; exact hle) hB1 hA1 hne.symm).mono ?_
        rintro e w2 ⟨rfl, hl2, hM2, hgr2, hA2⟩
        have hPne : lim Y ≠ [] := List.length_pos_iff.1 (by omega)
        have hW2 : Win w2 B gy prey (lims (lim Y).length (lval (lim Y) - lval (lim X))) posty := fun _ => ⟨hA2 hPne, hM2 hPne⟩
        have hQ2 := hA1.grown hgr2 hne
        have hbb2 := hbb.grown hgr2 hsz1 (fun k hk => by injection hk with hk; omega)
        have hsz2 : base ≤ w2.heap.size := Nat.le_trans hsz1 hgr2.size
        clear hM2 hgr2 hA2 hbb hsz1 hA1 hB1
        obtain ⟨D, hD⟩ : ∃ D, D = Y - X := ⟨_, rfl⟩
        have hdl : (lim D).length ≤ (lim Y).length := lim_len_mono (by omega)
        have HD := Lib.hid hD
        clear hD
        go_wp2_with fail
        refine (trim_at (g := gy) (N := D) (by rw [lims_length]) (by omega) (by omega) (lims_lt _ _) (by rw [sub_lval, HD.out]) hW2).mono ?_
        rintro e w3 ⟨A3, c3, pre3, post3, rfl, hW3, hc3, hgr3⟩
        have hQ3 := hQ2.grown hgr3 hne
        have hbb3 := hbb2.grown hgr3 hsz2 (fun k hk => by injection hk with hk; omega)
        have hsz3 : base ≤ w3.heap.size := Nat.le_trans hsz2 hgr3.size
        have hT3 := hT.below hbb3 htab
        clear hW2 hQ2 hgr3 hbb2 hsz2
        go_wp2_with fail
        refine (trailingZeros_any A3 (lim D) c3 _ (by omega) (lim_lt _) hW3.rd hT3).mono ?_
        rintro e w4 ⟨t, rfl, ht0, ht1, rfl⟩
        rw [lval_lim] at ht0 ht1
        have hstep := odd_step hX1 hle HD.out ht0 ht1
        go_wp2_with fail
        refine (dropLowBits_t A3 gy pre3 D post3 c3 t _ (by omega) ht0 ht1 hc3 hW3).mono ?_
        rintro e w5 ⟨A5, c5, pre5, post5, rfl, hW5, hc5, hgr5⟩
        have hQ5 := hQ3.grown hgr5 hne
        have hbb5 := hbb3.grown hgr5 hsz3 (fun k hk => by injection hk with hk; omega)
        have hdl5 : (lim (D / 2 ^ t)).length ≤ (lim Y).length := lim_len_mono (by omega)
        go_wp2_with fail
        go_roundw
        case rel => exact ⟨D / 2 ^ t, X, ⟨A5, gy, pre5, post5, c5, A, g, pre, post, c, rfl, rfl, hW5, hQ5, hne.symm, hg2, hg1, hc5, hc1, by omega, by omega⟩, hstep.2.1, hX1, hstep.1.trans ((Nat.gcd_comm _ _).trans hG), hbb5⟩
        case measure =>
          rw [hmeas, numAt_win hW5 rfl, numAt_win hQ5 rfl, lval_lim, lval_lim]
          have := hstep.2.2
          omega
      · rw [decide_eq_false hlt]
        have hle : Y ≤ X := by omega
        clear hlt
        go_wp2_with fail
        refine (subtract_any A B g gy pre prey post posty (lim X) (lim Y) c cy (lim X).length (lim Y).length _ rfl rfl (lim_len_mono hle) (by omega) (lim_lt _) (lim_lt _) (by rw [lval_lim, lval_lim]; exact hle) hA1 hB1 hne).mono ?_
        rintro e w2 ⟨rfl, hl2, hM2, hgr2, hA2⟩
        have hPne : lim X ≠ [] := List.length_pos_iff.1 (by omega)
        have hW2 : Win w2 A g pre (lims (lim X).length (lval (lim X) - lval (lim Y))) post := fun _ => ⟨hA2 hPne, hM2 hPne⟩
        have hQ2 := hB1.grown hgr2 hne.symm
        have hbb2 := hbb.grown hgr2 hsz1 (fun k hk => by injection hk with hk; omega)
        have hsz2 : base ≤ w2.heap.size := Nat.le_trans hsz1 hgr2.size
        clear hM2 hgr2 hA2 hbb hsz1 hA1 hB1
        obtain ⟨D, hD⟩ : ∃ D, D = X - Y := ⟨_, rfl⟩
        have hdl : (lim D).length ≤ (lim X).length := lim_len_mono (by omega)
        have HD := Lib.hid hD
        clear hD
        go_wp2_with fail
        refine (trim_at (g := g) (N := D) (by rw [lims_length]) (by omega) (by omega) (lims_lt _ _) (by rw [sub_lval, HD.out]) hW2).mono ?_
        rintro e w3 ⟨A3, c3, pre3, post3, rfl, hW3, hc3, hgr3⟩
        have hQ3 := hQ2.grown hgr3 hne.symm
        have hbb3 := hbb2.grown hgr3 hsz2 (fun k hk => by injection hk with hk; omega)
        have hsz3 : base ≤ w3.heap.size := Nat.le_trans hsz2 hgr3.size
        have hT3 := hT.below hbb3 htab
        clear hW2 hQ2 hgr3 hbb2 hsz2
        go_wp2_with fail
        refine (trailingZeros_any A3 (lim D) c3 _ (by omega) (lim_lt _) hW3.rd hT3).mono ?_
        rintro e w4 ⟨t, rfl, ht0, ht1, rfl⟩
        rw [lval_lim] at ht0 ht1
        have hstep := odd_step hY hle HD.out ht0 ht1
        go_wp2_with fail
        refine (dropLowBits_t A3 g pre3 D post3 c3 t _ (by omega) ht0 ht1 hc3 hW3).mono ?_
        rintro e w5 ⟨A5, c5, pre5, post5, rfl, hW5, hc5, hgr5⟩
        have hQ5 := hQ3.grown hgr5 hne.symm
        have hbb5 := hbb3.grown hgr5 hsz3 (fun k hk => by injection hk with hk; omega)
        have hdl5 : (lim (D / 2 ^ t)).length ≤ (lim X).length := lim_len_mono (by omega)
        go_wp2_with fail
        go_roundw
        case rel => exact ⟨D / 2 ^ t, Y, ⟨A5, g, pre5, post5, c5, B, gy, prey, posty, cy, rfl, rfl, hW5, hQ5, hne, hg1, hg2, hc5, hc2, by omega, by omega⟩, hstep.2.1, hY, hstep.1.trans hG, hbb5⟩
        case measure =>
          rw [hmeas, numAt_win hW5 rfl, numAt_win hQ5 rfl, lval_lim, lval_lim]
          have := hstep.2.2
          omega
end Go.Proofs.YtodcomijjmobdaaGreatDoor

/- append of a slice to a slice that was made. -/
namespace Go.Proofs.YtodcomijjmobdaaGreatDoor
open Go.RowKit NM

section
variable {P : Program}
/-- k zero limbs. -/
def zerosObj (k : Nat) : Obj := .cells (madeCells #[Value.int .u32 0] k) 143
theorem zeros_own (w : World) (n base : Nat) (hb : base ≤ w.heap.size) (hn : n ≤ 1000000000) : Own (w.alloc (zerosObj n)) base 143 .u32 (.slice (some ⟨w.heap.size, 0, none⟩) n n) (List.replicate n 0) := by
  have e : (madeCells #[Value.int .u32 0] n).toList = cv .u32 (List.replicate n 0) := by
    rw [cv_replicate]
    exact madeCells_int .u32 n
  refine ⟨by rw [cv_length, List.length_replicate, Nat.mul_one], .inr ⟨w.heap.size, n, _, ?_, hb, heap_alloc_new w _, ?_, ?_, ?_, ?_⟩⟩
  · rw [List.length_replicate]
  · rw [List.length_replicate]
    exact Nat.le_refl _
  · simp [maxLen]
    omega
  · rw [← Array.length_toList, e, cv_length, List.length_replicate, Nat.mul_one]
  · rw [e, List.length_replicate, Nat.mul_one]
    exact List.take_of_length_le (by rw [cv_length, List.length_replicate]; exact Nat.le_refl _)
theorem zeros_run (w : World) (n : Nat) (hn : n ≤ 1000000000) : (Instr.makeSlice 133 (.int .i64 (n : Int)) (.int .i64 (n : Int))).run Tryz.prog w = .ok (.slice (some ⟨w.heap.size, 0, none⟩) n n) (w.alloc (zerosObj n)) := by
  obtain ⟨i, hi, hz, hs, hby⟩ := info_parts row_u32
  have h := run_make (P := Tryz.prog) w 133 143 i (.int .u32 0) Tryz.underlying133 hi hz .i64 .i64 n n (by omega) (by omega) (by rw [hby]; omega) (by omega)
  rw [hs] at h
  have e1 : ((n : Int)).toNat = n := Int.toNat_natCast n
  rw [e1, Nat.mul_one] at h
  exact h

theorem step_extend {ops : Array Oper} {o : Oper} {a : Act} {w : World} {K : Act → World → Prop} {Q : Exit → Act → World → Prop} {Z : Prop} (hgd : o.guard = none) (s x : Operand) (t : TypeId)
    (ho : o.op = .call { callee := .builtin .append, args := #[s, x], argTypes := #[t, t] })
    (base : Nat) (E : TypeId) (k : IntKind) (by_ : Nat) (ht : P.underlying t = some (.slice E)) (hrow : (P.info? E).map (fun i => (i.zero, i.size, i.bytes)) = some (some (.int k 0), 1, by_))
    (v : Value) (L : List Nat) (hs : a.eval s = v) (g c m : Nat) (M : List Nat) (hx : a.eval x = .slice (some ⟨g, 0, none⟩) m c) (hm : M.length = m) (hby : by_ ≤ 8) (hown : Own w base E k v L) (hB : Blk w g E (cv k M))
    (hlen : L.length ≤ 8589934592) (hlen2 : m ≤ 8589934592) (hbase : base ≤ w.heap.size)
    (h : ∀ v' w', Own w' base E k v' (L ++ M) → Below base w w' → K (a.put o.dst v') w') : if Region.wanted o (yielded ops a.tmps) = true then Oper.wp P o a w K Q else Z := by
  have hw : Region.wanted o (yielded ops a.tmps) = true := by simp [Region.wanted, hgd]
  rw [if_pos hw]
  subst hm
  obtain ⟨i, hi, hz, hsz, hb⟩ := info_parts hrow
  refine wp_append_own w s x t ho base E i (.int k 0) 1 by_ ht hi hz hsz hb rfl (by decide) v L.length (cv k L) hs hown ⟨g, 0, none⟩ M.length c (cv k M) hx (by rw [cv_length, Nat.mul_one]) ?_ ?_ (by simp [maxLen]; omega) ?_ hbase ?_
  · intro j u hj
    have := hB.cell hj
    by_cases h0 : j = 0
    · subst h0
      simpa [Addr.add] using this
    · simpa [Addr.add, h0] using this
  · intro u hu
    unfold cv at hu
    rw [List.mem_map] at hu
    obtain ⟨y, _, rfl⟩ := hu
    rfl
  · have : (L.length + M.length) * by_ ≤ (L.length + M.length) * 8 := Nat.mul_le_mul_left _ hby
    omega
  · intro v' w' h1 h2 _
    refine h v' w' ?_ ((Below.refl base w).grown h2 hbase (fun b hb => (hown.lt b hb).1))
    unfold Own
    rw [cv_append, List.length_append]
    exact h1
end
end Go.Proofs.YtodcomijjmobdaaGreatDoor

/- nat.gcdOfLimbs. -/
namespace Go.Proofs.YtodcomijjmobdaaGreatDoor
open Go.RowKit NM

theorem gcd_twos' {t1 t2 o1 o2 : Nat} (h : t1 ≤ t2) (h1 : o1 % 2 = 1) : Nat.gcd (2 ^ t1 * o1) (2 ^ t2 * o2) = 2 ^ t1 * Nat.gcd o1 o2 := by
  obtain ⟨d, rfl⟩ : ∃ d, t2 = t1 + d := ⟨t2 - t1, by omega⟩
  rw [Nat.pow_add, Nat.mul_assoc, Nat.gcd_mul_left, Nat.gcd_comm, gcd_odd_part h1, Nat.gcd_comm]
theorem gcd_twos {t1 t2 o1 o2 : Nat} (h1 : o1 % 2 = 1) (h2 : o2 % 2 = 1) : Nat.gcd (2 ^ t1 * o1) (2 ^ t2 * o2) = 2 ^ (min t1 t2) * Nat.gcd o1 o2 := by
  rcases Nat.le_total t1 t2 with h | h
  · rw [Nat.min_eq_left h, gcd_twos' h h1]
  · rw [Nat.min_eq_right h, Nat.gcd_comm, gcd_twos' h h2, Nat.gcd_comm o2]
/-- What gcdOfLimbs leaves. -/
def GolPost (base G : Nat) (w : World) (e : Ending) (w' : World) : Prop :=
  ∃ A c L, e = .returned (.slice A (List.length L) c) ∧ llt L ∧ lval L = G ∧ Rd w' A L ∧ L.length ≤ 17179869184 ∧ Below base w w'
theorem gol_lim {base N c : Nat} {A : Option Addr} {g : Nat} {pre post : List Value} {w w' : World} (h : Win w' A g pre (lim N) post) (hl : (lim N).length ≤ 17179869184) (hb : Below base w w') : GolPost base N w (.returned (.slice A (lim N).length c)) w' :=
  ⟨A, c, lim N, rfl, lim_lt _, lval_lim _, h.rd, hl, hb⟩
theorem gol_own {base k s G1 G : Nat} {w w' : World} {v : Value} {S : List Nat} (ho : Own w' base 143 .u32 v (List.replicate k 0 ++ S)) (hS : llt S) (hv : lval S = G1 * 2 ^ s) (hG : G = 2 ^ (32 * k + s) * G1) (hl : k + S.length ≤ 17179869184) (hb : Below base w w') :
    GolPost base G w (.returned v) w' := by
  obtain ⟨A, c, rfl, h⟩ := ho.form
  refine ⟨A, c, List.replicate k 0 ++ S, rfl, lt_append (fun x hx => by rw [List.mem_replicate] at hx; omega) hS, ?_, ho.rd rfl, by rw [List.length_append, List.length_replicate]; exact hl, hb⟩
  show val 4294967296 (List.replicate k 0 ++ S) = G
  have hv' : val 4294967296 S = G1 * 2 ^ s := hv
  rw [val_append, val_zeros, Nat.zero_add, List.length_replicate, hv', hG, Nat.pow_add, show (2 : Nat) ^ (32 * k) = 4294967296 ^ k from by rw [Nat.pow_mul], Nat.mul_assoc, Nat.mul_comm G1]
theorem odd_of {N t : Nat} (h0 : N ≠ 0) (h : N ≠ 0 → ∃ q, N = 2 ^ t * (2 * q + 1)) : N = 2 ^ t * (N / 2 ^ t) ∧ N / 2 ^ t % 2 = 1 ∧ t ≤ 32 * (lim N).length := by
  obtain ⟨q, hq⟩ := h h0
  have e : N / 2 ^ t = 2 * q + 1 := by
    conv => lhs; rw [hq]
    exact pow_div
  refine ⟨by rw [e]; exact hq, by omega, ?_⟩
  have h1 := lval_lt (lim_lt N)
  rw [lval_lim] at h1
  have h2 : 2 ^ t * 1 ≤ N := by rw [hq]; exact Nat.mul_le_mul_left _ (by omega)
  have h3 : (2 : Nat) ^ t < 2 ^ (32 * (lim N).length) := by
    rw [Nat.pow_mul]
    exact Nat.lt_of_le_of_lt (by rw [Nat.mul_one] at h2; exact h2) h1
  have := (Nat.pow_lt_pow_iff_right (a := 2) (by omega)).1 h3
  omega

set_option maxHeartbeats 2000000 in
theorem gcdOfLimbs_any (base gx gy M N : Nat) (w : World) (hM : (lim M).length ≤ 268435456) (hN : (lim N).length ≤ 268435456) (hx : LB w gx (lim M)) (hy : LB w gy (lim N)) (hne : gx ≠ gy) (hgx : base ≤ gx) (hgy : base ≤ gy) (hsz : base ≤ w.heap.size) (hT : TabC w) (htab : 0 < base) :
    Calls Tryz.prog 152 #[.slice (some ⟨gx, 0, none⟩) (lim M).length (lim M).length, .slice (some ⟨gy, 0, none⟩) (lim N).length (lim N).length] w (GolPost base (Nat.gcd M N) w) := by
  obtain ⟨G, hG⟩ : ∃ G, G = Nat.gcd M N := ⟨_, rfl⟩
  rw [← hG]
  have HG0 := Lib.hid hG
  clear hG
  have hb := Below.refl base w
  by_cases hlt : (lim M).length < (lim N).length
  · have HG : _ := Lib.hid ((Nat.gcd_comm N M).trans HG0.out.symm)
    have hWP : Win w (some ⟨gy, 0, none⟩) gy [] (lim N) [] := Win.of_LB hy
    have hWQ : Win w (some ⟨gx, 0, none⟩) gx [] (lim M) [] := Win.of_LB hx
    by_cases hq : M = 0
    · have el : (lim M).length = 0 := by rw [hq]; rfl
      have eG : N = G := by rw [← HG.out, hq, Nat.gcd_zero_right]
      subst eG
      have hQ1 : (((lim M).length : Int) == 0) = true := by rw [el]; rfl
      have el0 : (lim M).length ≤ 0 := by omega
      clear el hq
      go_enter Tryz.func152, Tryz.ntmps152
      go_wp2_with fail
      go_ret
      exact gol_lim hWP (by omega) hb
    · have hQp := lim_pos hq
      have hQ1 : (((lim M).length : Int) == 0) = false := beq_eq_false_iff_ne.2 (by omega)
      have hPX : N ≠ 0 := fun e => by
        have : (lim N).length = 0 := by rw [e]; rfl
        omega
      by_cases hlen : (lim M).length < (lim N).length
      · go_enter Tryz.func152, Tryz.ntmps152
        go_wp2_with fail
        refine (divide_any gy gx N M _ (by omega) (by omega) hq hy hx).mono ?_
        rintro e w1 ⟨Aq, cq, Lq, Ar, cr, Lr, gr, prer, postr, rfl, hq1, hq2, hq3, hq4, hr1, hr2, hr3, hr4, hr5, hr6, hg1⟩
        have hQ1w := hWQ.grown hg1 hne
        have hb1 := hb.grown hg1 hsz (fun k hk => by injection hk with hk; omega)
        have hsz1 : base ≤ w1.heap.size := Nat.le_trans hsz hg1.size
        have hgr : base ≤ gr := by rcases hr4 with h | h <;> omega
        have hQlt : gx < w.heap.size := Blk.lt hx
        have hgrne : gr ≠ gx := by rcases hr4 with h | h <;> omega
        have Hq := Lib.hid (And.intro hq1 (And.intro hq2 (And.intro hq3 hq4)))
        clear hq1 hq2 hq3 hq4
        obtain ⟨R, hR⟩ : ∃ R, R = N % M := ⟨_, rfl⟩
        have HR := Lib.hid hR
        have hrq : (lim R).length ≤ (lim M).length := lim_len_mono (by rw [hR]; exact Nat.le_of_lt (Nat.mod_lt _ (Nat.pos_of_ne_zero hq)))
        clear hR
        go_wp2_with fail
        refine (trim_at (g := gr) (N := R) rfl (by omega) hr5 hr1 (by rw [hr2, HR.out]) hr3).mono ?_
        rintro e w2 ⟨A2, c2, pre2, post2, rfl, hW2, hc2, hg2⟩
        have hQ2w := hQ1w.grown hg2 hgrne.symm
        have hb2 := hb1.grown hg2 hsz1 (fun k hk => by injection hk with hk; omega)
        have hsz2 : base ≤ w2.heap.size := Nat.le_trans hsz1 hg2.size
        have hGR : Nat.gcd M R = G := by rw [HR.out, ← HG.out, Nat.gcd_comm N, Nat.gcd_rec M N, Nat.gcd_comm]
        have HGR := Lib.hid hGR
        clear hGR hb1 hsz1 hQ1w hr3 hr4 hr1 hr2
        by_cases hR0 : R = 0
        · have el : (lim R).length = 0 := by rw [hR0]; rfl
          have hR1 : (((lim R).length : Int) == 0) = true := by rw [el]; rfl
          have eG : M = G := by rw [← HGR.out, hR0, Nat.gcd_zero_right]
          subst eG
          clear el hR0
          go_wp2_with fail
          go_ret
          exact gol_lim hQ2w (by omega) hb2
        · have hR1 : (((lim R).length : Int) == 0) = false := beq_eq_false_iff_ne.2 (by have := lim_pos hR0; omega)
          go_wp2_with fail
          refine (trailingZeros_any (some ⟨gx, 0, none⟩) (lim M) (lim M).length _ (by omega) (lim_lt _) hQ2w.rd (hT.below hb2 htab)).mono ?_
          rintro e w3 ⟨t1, rfl, ht0, ht1, rfl⟩
          rw [lval_lim] at ht0 ht1
          go_wp2_with fail
          refine (trailingZeros_any A2 (lim R) c2 _ (by omega) (lim_lt _) hW2.rd (hT.below hb2 htab)).mono ?_
          rintro e w3 ⟨t2, rfl, ht2, ht3, rfl⟩
          rw [lval_lim] at ht2 ht3
          obtain ⟨eu, ou, bu⟩ := odd_of hq ht1
          obtain ⟨ev, ov, bv⟩ := odd_of hR0 ht3
          obtain ⟨X1, hX1⟩ : ∃ X1, X1 = M / 2 ^ t1 := ⟨_, rfl⟩
          obtain ⟨Y1, hY1⟩ : ∃ Y1, Y1 = R / 2 ^ t2 := ⟨_, rfl⟩
          have lx : (lim X1).length ≤ (lim M).length := lim_len_mono (by rw [hX1]; exact Nat.div_le_self _ _)
          have ly : (lim Y1).length ≤ (lim R).length := lim_len_mono (by rw [hY1]; exact Nat.div_le_self _ _)
          rw [← hX1] at eu ou
          rw [← hY1] at ev ov
          obtain ⟨T, hTT⟩ : ∃ T, T = min t1 t2 := ⟨_, rfl⟩
          have eG : G = 2 ^ T * Nat.gcd X1 Y1 := by rw [← HGR.out, hTT, ← gcd_twos ou ov, ← eu, ← ev]
          have EG := Lib.hid eG
          have HX1 := Lib.hid hX1
          have HY1 := Lib.hid hY1
          have HEU := Lib.hid (And.intro eu ev)
          have HT0 := Lib.hid (And.intro ht0 (And.intro ht1 (And.intro ht2 ht3)))
          have hTb : T ≤ 32 * 268435456 := by omega
          obtain ⟨kk, ss, hks, hss⟩ : ∃ kk ss, T = 32 * kk + ss ∧ ss < 32 := ⟨T / 32, T % 32, by omega, by omega⟩
          clear eG hX1 hY1 eu ev ht0 ht1 ht2 ht3
          go_wp2_with fail
          refine (dropLowBits_t (some ⟨gx, 0, none⟩) gx [] M [] (lim M).length t1 _ (by omega) HT0.out.1 HT0.out.2.1 (Nat.le_refl _) hQ2w).mono ?_
          rw [← HX1.out]
          rintro e w4 ⟨A4, c4, pre4, post4, rfl, hW4, hc4, hg4⟩
          have hV4 := hW2.grown hg4 hgrne
          have hb4 := hb2.grown hg4 hsz2 (fun k hk => by injection hk with hk; omega)
          have hsz4 : base ≤ w4.heap.size := Nat.le_trans hsz2 hg4.size
          go_wp2_with fail
          refine (dropLowBits_t A2 gr pre2 R post2 c2 t2 _ (by omega) HT0.out.2.2.1 HT0.out.2.2.2 hc2 hV4).mono ?_
          rw [← HY1.out]
          rintro e w5 ⟨A5, c5, pre5, post5, rfl, hW5, hc5, hg5⟩
          have hW4' := hW4.grown hg5 hgrne.symm
          have hb5 := hb4.grown hg5 hsz4 (fun k hk => by injection hk with hk; omega)
          have hsz5 : base ≤ w5.heap.size := Nat.le_trans hsz4 hg5.size
          go_wp2_with fail
          refine (oddGcd_any base 268435456 X1 Y1 _ _ _ (by omega) ⟨A4, gx, pre4, post4, c4, A5, gr, pre5, post5, c5, rfl, rfl, hW4', hW5, hgrne.symm, hgx, hgr, hc4, hc5, by omega, by omega⟩ (.inl ou) ov hsz5 (hT.below hb5 htab) htab).mono ?_
          rintro e w6 ⟨A6, c6, g6, pre6, post6, rfl, hW6, hc6, hb56⟩
          have hb6 := hb5.trans hb56
          have hsz6 : base ≤ w6.heap.size := Nat.le_trans hsz5 hb56.size
          obtain ⟨G1, hG1⟩ : ∃ G1, G1 = Nat.gcd X1 Y1 := ⟨_, rfl⟩
          have eG2 : G = 2 ^ (32 * kk + ss) * G1 := by rw [hG1, ← hks]; exact EG.out
          have hG1l : (lim G1).length ≤ 268435456 := Nat.le_trans (lim_len_mono (by rw [hG1]; exact Nat.gcd_le_left _ (by omega))) (Nat.le_trans lx (by omega))
          rw [← hG1] at hW6 hc6 ⊢
          have EG2 := Lib.hid eG2
          have e1 : (T : Int) / 32 = (kk : Int) := by omega
          have e2 : (T : Int) % 32 = (ss : Int) := by omega
          have hkb : kk ≤ 268435456 := by omega
          have emin : min (t1 : Int) (t2 : Int) = (T : Int) := by omega
          have HTT := Lib.hid hTT
          clear hTT
          clear eG2 hG1 hks hW4 hV4 hb4 hsz4 hW4' hW5 hb5 hb56 hsz5
          go_wp2_with fail
          have hmk := fun W : World => zeros_run W kk (by omega)
          have hwk : IntKind.i64.wrap (kk : Int) = (kk : Int) := by rw [IntKind.wrap_i64]; omega
          have e3 : (T : Int).tmod 32 = (ss : Int) := by rw [Int.tmod_eq_emod_of_nonneg (by omega)]; exact e2
          have el2 := lval_lim G1
          have EL := Lib.hid el2
          have Hsh := Lib.hid (fun (W : World) (h : Rd W A6 (lim G1)) => shiftLeft_any A6 (lim G1) c6 ss W (by omega) (lim_lt _) hss h)
          have hal := (Below.refl w6.heap.size w6).alloc (Nat.le_refl _) (zerosObj kk)
          have hO6 := zeros_own w6 kk base hsz6 (by omega)
          have hWr : Rd w6.drew A6 (lim G1) := hW6.rd
          have hWa : Rd (w6.alloc (zerosObj kk)).drew A6 (lim G1) := (hW6.keep hal).rd
          have hba : Below base w (w6.alloc (zerosObj kk)).drew := (hb6.alloc hsz6 (zerosObj kk)).drew
          have hsa : base ≤ (w6.alloc (zerosObj kk)).drew.heap.size := Nat.le_trans hsz6 hal.size
          have hbd : Below base w w6.drew := hb6.drew
          have hsd : base ≤ w6.drew.heap.size := hsz6
          have HX := Lib.hid (And.intro hal (And.intro hWr (And.intro hWa (And.intro hba (And.intro hsa (And.intro hbd (And.intro hsd hO6.drew)))))))
          clear el2 hal hO6 hWr hWa hba hsa hbd hsd hW6 hb6 hsz6
          go_region_law (first
            | (go_simp; go_at_call 157; first
               | (refine (Hsh.out _ HX.out.2.2.1).mono ?_
                  rintro e ws ⟨S, hSl, hSlt, hSv, gS, hgS, rfl, hSB, hbs⟩
                  have hOa := Own.below HX.out.2.2.2.2.2.2.2 hbs
                  have hcur := HX.out.2.2.2.1.trans (hbs.mono HX.out.2.2.2.2.1)
                  have hszc : base ≤ ws.heap.size := Nat.le_trans HX.out.2.2.2.2.1 hbs.size)
               | (refine (Hsh.out _ HX.out.2.1).mono ?_
                  rintro e ws ⟨S, hSl, hSlt, hSv, gS, hgS, rfl, hSB, hbs⟩
                  have hcur := HX.out.2.2.2.2.2.1.trans (hbs.mono HX.out.2.2.2.2.2.2.1)
                  have hszc : base ≤ ws.heap.size := Nat.le_trans HX.out.2.2.2.2.2.2.1 hbs.size))
            | (refine step_extend rfl _ _ 133 rfl base 143 .u32 4 Tryz.underlying133 row_u32 _ (List.replicate kk 0) rfl gS ((lim G1).length + 1) ((lim G1).length + 1) S rfl hSl (by decide) hOa hSB (by rw [List.length_replicate]; omega) (by omega) hszc ?_
               intro v' wv hOv hbv
               replace hcur := hcur.trans hbv)
            | (refine step_extend rfl _ _ 133 rfl base 143 .u32 4 Tryz.underlying133 row_u32 _ (List.replicate kk 0) rfl gS ((lim G1).length + 1) ((lim G1).length + 1) S rfl hSl (by decide) (zeros_own ws kk base hszc (by omega)) (Blk.alloc hSB _) (by rw [List.length_replicate]; omega) (by omega) (Nat.le_trans hszc ((Below.refl ws.heap.size ws).alloc (Nat.le_refl _) _).size) ?_
               intro v' wv hOv hbv
               replace hcur := (hcur.alloc hszc (zerosObj kk)).trans hbv))
          all_goals
            go_wp2
            go_ret
            exact gol_own hOv hSlt (by rw [hSv, EL.out]) EG2.out (by omega) hcur
      · exact absurd hlt hlen
  · have HG : _ := Lib.hid (HG0.out.symm)
    have hWP : Win w (some ⟨gx, 0, none⟩) gx [] (lim M) [] := Win.of_LB hx
    have hWQ : Win w (some ⟨gy, 0, none⟩) gy [] (lim N) [] := Win.of_LB hy
    by_cases hq : N = 0
    · have el : (lim N).length = 0 := by rw [hq]; rfl
      have eG : M = G := by rw [← HG.out, hq, Nat.gcd_zero_right]
      subst eG
      have hQ1 : (((lim N).length : Int) == 0) = true := by rw [el]; rfl
      have el0 : (lim N).length ≤ 0 := by omega
      clear el hq
      go_enter Tryz.func152, Tryz.ntmps152
      go_wp2_with fail
      go_ret
      exact gol_lim hWP (by omega) hb
    · have hQp := lim_pos hq
      have hQ1 : (((lim N).length : Int) == 0) = false := beq_eq_false_iff_ne.2 (by omega)
      have hPX : M ≠ 0 := fun e => by
        have : (lim M).length = 0 := by rw [e]; rfl
        omega
      by_cases hlen : (lim N).length < (lim M).length
      · go_enter Tryz.func152, Tryz.ntmps152
        go_wp2_with fail
        refine (divide_any gx gy M N _ (by omega) (by omega) hq hx hy).mono ?_
        rintro e w1 ⟨Aq, cq, Lq, Ar, cr, Lr, gr, prer, postr, rfl, hq1, hq2, hq3, hq4, hr1, hr2, hr3, hr4, hr5, hr6, hg1⟩
        have hQ1w := hWQ.grown hg1 hne.symm
        have hb1 := hb.grown hg1 hsz (fun k hk => by injection hk with hk; omega)
        have hsz1 : base ≤ w1.heap.size := Nat.le_trans hsz hg1.size
        have hgr : base ≤ gr := by rcases hr4 with h | h <;> omega
        have hQlt : gy < w.heap.size := Blk.lt hy
        have hgrne : gr ≠ gy := by rcases hr4 with h | h <;> omega
        have Hq := Lib.hid (And.intro hq1 (And.intro hq2 (And.intro hq3 hq4)))
        clear hq1 hq2 hq3 hq4
        obtain ⟨R, hR⟩ : ∃ R, R = M % N := ⟨_, rfl⟩
        have HR := Lib.hid hR
        have hrq : (lim R).length ≤ (lim N).length := lim_len_mono (by rw [hR]; exact Nat.le_of_lt (Nat.mod_lt _ (Nat.pos_of_ne_zero hq)))
        clear hR
        go_wp2_with fail
        refine (trim_at (g := gr) (N := R) rfl (by omega) hr5 hr1 (by rw [hr2, HR.out]) hr3).mono ?_
        rintro e w2 ⟨A2, c2, pre2, post2, rfl, hW2, hc2, hg2⟩
        have hQ2w := hQ1w.grown hg2 hgrne.symm
        have hb2 := hb1.grown hg2 hsz1 (fun k hk => by injection hk with hk; omega)
        have hsz2 : base ≤ w2.heap.size := Nat.le_trans hsz1 hg2.size
        have hGR : Nat.gcd N R = G := by rw [HR.out, ← HG.out, Nat.gcd_comm M, Nat.gcd_rec N M, Nat.gcd_comm]
        have HGR := Lib.hid hGR
        clear hGR hb1 hsz1 hQ1w hr3 hr4 hr1 hr2
        by_cases hR0 : R = 0
        · have el : (lim R).length = 0 := by rw [hR0]; rfl
          have hR1 : (((lim R).length : Int) == 0) = true := by rw [el]; rfl
          have eG : N = G := by rw [← HGR.out, hR0, Nat.gcd_zero_right]
          subst eG
          clear el hR0
          go_wp2_with fail
          go_ret
          exact gol_lim hQ2w (by omega) hb2
        · have hR1 : (((lim R).length : Int) == 0) = false := beq_eq_false_iff_ne.2 (by have := lim_pos hR0; omega)
          go_wp2_with fail
          refine (trailingZeros_any (some ⟨gy, 0, none⟩) (lim N) (lim N).length _ (by omega) (lim_lt _) hQ2w.rd (hT.below hb2 htab)).mono ?_
          rintro e w3 ⟨t1, rfl, ht0, ht1, rfl⟩
          rw [lval_lim] at ht0 ht1
          go_wp2_with fail
          refine (trailingZeros_any A2 (lim R) c2 _ (by omega) (lim_lt _) hW2.rd (hT.below hb2 htab)).mono ?_
          rintro e w3 ⟨t2, rfl, ht2, ht3, rfl⟩
          rw [lval_lim] at ht2 ht3
          obtain ⟨eu, ou, bu⟩ := odd_of hq ht1
          obtain ⟨ev, ov, bv⟩ := odd_of hR0 ht3
          obtain ⟨X1, hX1⟩ : ∃ X1, X1 = N / 2 ^ t1 := ⟨_, rfl⟩
          obtain ⟨Y1, hY1⟩ : ∃ Y1, Y1 = R / 2 ^ t2 := ⟨_, rfl⟩
          have lx : (lim X1).length ≤ (lim N).length := lim_len_mono (by rw [hX1]; exact Nat.div_le_self _ _)
          have ly : (lim Y1).length ≤ (lim R).length := lim_len_mono (by rw [hY1]; exact Nat.div_le_self _ _)
          rw [← hX1] at eu ou
          rw [← hY1] at ev ov
          obtain ⟨T, hTT⟩ : ∃ T, T = min t1 t2 := ⟨_, rfl⟩
          have eG : G = 2 ^ T * Nat.gcd X1 Y1 := by rw [← HGR.out, hTT, ← gcd_twos ou ov, ← eu, ← ev]
          have EG := Lib.hid eG
          have HX1 := Lib.hid hX1
          have HY1 := Lib.hid hY1
          have HEU := Lib.hid (And.intro eu ev)
          have HT0 := Lib.hid (And.intro ht0 (And.intro ht1 (And.intro ht2 ht3)))
          have hTb : T ≤ 32 * 268435456 := by omega
          obtain ⟨kk, ss, hks, hss⟩ : ∃ kk ss, T = 32 * kk + ss ∧ ss < 32 := ⟨T / 32, T % 32, by omega, by omega⟩
          clear eG hX1 hY1 eu ev ht0 ht1 ht2 ht3
          go_wp2_with fail
          refine (dropLowBits_t (some ⟨gy, 0, none⟩) gy [] N [] (lim N).length t1 _ (by omega) HT0.out.1 HT0.out.2.1 (Nat.le_refl _) hQ2w).mono ?_
          rw [← HX1.out]
          rintro e w4 ⟨A4, c4, pre4, post4, rfl, hW4, hc4, hg4⟩
          have hV4 := hW2.grown hg4 hgrne
          have hb4 := hb2.grown hg4 hsz2 (fun k hk => by injection hk with hk; omega)
          have hsz4 : base ≤ w4.heap.size := Nat.le_trans hsz2 hg4.size
          go_wp2_with fail
          refine (dropLowBits_t A2 gr pre2 R post2 c2 t2 _ (by omega) HT0.out.2.2.1 HT0.out.2.2.2 hc2 hV4).mono ?_
          rw [← HY1.out]
          rintro e w5 ⟨A5, c5, pre5, post5, rfl, hW5, hc5, hg5⟩
          have hW4' := hW4.grown hg5 hgrne.symm
          have hb5 := hb4.grown hg5 hsz4 (fun k hk => by injection hk with hk; omega)
          have hsz5 : base ≤ w5.heap.size := Nat.le_trans hsz4 hg5.size
          go_wp2_with fail
          refine (oddGcd_any base 268435456 X1 Y1 _ _ _ (by omega) ⟨A4, gy, pre4, post4, c4, A5, gr, pre5, post5, c5, rfl, rfl, hW4', hW5, hgrne.symm, hgy, hgr, hc4, hc5, by omega, by omega⟩ (.inl ou) ov hsz5 (hT.below hb5 htab) htab).mono ?_
          rintro e w6 ⟨A6, c6, g6, pre6, post6, rfl, hW6, hc6, hb56⟩
          have hb6 := hb5.trans hb56
          have hsz6 : base ≤ w6.heap.size := Nat.le_trans hsz5 hb56.size
          obtain ⟨G1, hG1⟩ : ∃ G1, G1 = Nat.gcd X1 Y1 := ⟨_, rfl⟩
          have eG2 : G = 2 ^ (32 * kk + ss) * G1 := by rw [hG1, ← hks]; exact EG.out
          have hG1l : (lim G1).length ≤ 268435456 := Nat.le_trans (lim_len_mono (by rw [hG1]; exact Nat.gcd_le_left _ (by omega))) (Nat.le_trans lx (by omega))
          rw [← hG1] at hW6 hc6 ⊢
          have EG2 := Lib.hid eG2
          have e1 : (T : Int) / 32 = (kk : Int) := by omega
          have e2 : (T : Int) % 32 = (ss : Int) := by omega
          have hkb : kk ≤ 268435456 := by omega
          have emin : min (t1 : Int) (t2 : Int) = (T : Int) := by omega
          have HTT := Lib.hid hTT
          clear hTT
          clear eG2 hG1 hks hW4 hV4 hb4 hsz4 hW4' hW5 hb5 hb56 hsz5
          go_wp2_with fail
          have hmk := fun W : World => zeros_run W kk (by omega)
          have hwk : IntKind.i64.wrap (kk : Int) = (kk : Int) := by rw [IntKind.wrap_i64]; omega
          have e3 : (T : Int).tmod 32 = (ss : Int) := by rw [Int.tmod_eq_emod_of_nonneg (by omega)]; exact e2
          have el2 := lval_lim G1
          have EL := Lib.hid el2
          have Hsh := Lib.hid (fun (W : World) (h : Rd W A6 (lim G1)) => shiftLeft_any A6 (lim G1) c6 ss W (by omega) (lim_lt _) hss h)
          have hal := (Below.refl w6.heap.size w6).alloc (Nat.le_refl _) (zerosObj kk)
          have hO6 := zeros_own w6 kk base hsz6 (by omega)
          have hWr : Rd w6.drew A6 (lim G1) := hW6.rd
          have hWa : Rd (w6.alloc (zerosObj kk)).drew A6 (lim G1) := (hW6.keep hal).rd
          have hba : Below base w (w6.alloc (zerosObj kk)).drew := (hb6.alloc hsz6 (zerosObj kk)).drew
          have hsa : base ≤ (w6.alloc (zerosObj kk)).drew.heap.size := Nat.le_trans hsz6 hal.size
          have hbd : Below base w w6.drew := hb6.drew
          have hsd : base ≤ w6.drew.heap.size := hsz6
          have HX := Lib.hid (And.intro hal (And.intro hWr (And.intro hWa (And.intro hba (And.intro hsa (And.intro hbd (And.intro hsd hO6.drew)))))))
          clear el2 hal hO6 hWr hWa hba hsa hbd hsd hW6 hb6 hsz6
          go_region_law (first
            | (go_simp; go_at_call 157; first
               | (refine (Hsh.out _ HX.out.2.2.1).mono ?_
                  rintro e ws ⟨S, hSl, hSlt, hSv, gS, hgS, rfl, hSB, hbs⟩
                  have hOa := Own.below HX.out.2.2.2.2.2.2.2 hbs
                  have hcur := HX.out.2.2.2.1.trans (hbs.mono HX.out.2.2.2.2.1)
                  have hszc : base ≤ ws.heap.size := Nat.le_trans HX.out.2.2.2.2.1 hbs.size)
               | (refine (Hsh.out _ HX.out.2.1).mono ?_
                  rintro e ws ⟨S, hSl, hSlt, hSv, gS, hgS, rfl, hSB, hbs⟩
                  have hcur := HX.out.2.2.2.2.2.1.trans (hbs.mono HX.out.2.2.2.2.2.2.1)
                  have hszc : base ≤ ws.heap.size := Nat.le_trans HX.out.2.2.2.2.2.2.1 hbs.size))
            | (refine step_extend rfl _ _ 133 rfl base 143 .u32 4 Tryz.underlying133 row_u32 _ (List.replicate kk 0) rfl gS ((lim G1).length + 1) ((lim G1).length + 1) S rfl hSl (by decide) hOa hSB (by rw [List.length_replicate]; omega) (by omega) hszc ?_
               intro v' wv hOv hbv
               replace hcur := hcur.trans hbv)
            | (refine step_extend rfl _ _ 133 rfl base 143 .u32 4 Tryz.underlying133 row_u32 _ (List.replicate kk 0) rfl gS ((lim G1).length + 1) ((lim G1).length + 1) S rfl hSl (by decide) (zeros_own ws kk base hszc (by omega)) (Blk.alloc hSB _) (by rw [List.length_replicate]; omega) (by omega) (Nat.le_trans hszc ((Below.refl ws.heap.size ws).alloc (Nat.le_refl _) _).size) ?_
               intro v' wv hOv hbv
               replace hcur := (hcur.alloc hszc (zerosObj kk)).trans hbv))
          all_goals
            go_wp2
            go_ret
            exact gol_own hOv hSlt (by rw [hSv, EL.out]) EG2.out (by omega) hcur
      · go_enter Tryz.func152, Tryz.ntmps152
        go_wp2_with fail
        refine (trailingZeros_any (some ⟨gx, 0, none⟩) (lim M) (lim M).length _ (by omega) (lim_lt _) hWP.rd (hT.below hb htab)).mono ?_
        rintro e w3 ⟨t1, rfl, ht0, ht1, rfl⟩
        rw [lval_lim] at ht0 ht1
        go_wp2_with fail
        refine (trailingZeros_any (some ⟨gy, 0, none⟩) (lim N) (lim N).length _ (by omega) (lim_lt _) hWQ.rd (hT.below hb htab)).mono ?_
        rintro e w3 ⟨t2, rfl, ht2, ht3, rfl⟩
        rw [lval_lim] at ht2 ht3
        obtain ⟨eu, ou, bu⟩ := odd_of hPX ht1
        obtain ⟨ev, ov, bv⟩ := odd_of hq ht3
        obtain ⟨X1, hX1⟩ : ∃ X1, X1 = M / 2 ^ t1 := ⟨_, rfl⟩
        obtain ⟨Y1, hY1⟩ : ∃ Y1, Y1 = N / 2 ^ t2 := ⟨_, rfl⟩
        have lx : (lim X1).length ≤ (lim M).length := lim_len_mono (by rw [hX1]; exact Nat.div_le_self _ _)
        have ly : (lim Y1).length ≤ (lim N).length := lim_len_mono (by rw [hY1]; exact Nat.div_le_self _ _)
        rw [← hX1] at eu ou
        rw [← hY1] at ev ov
        obtain ⟨T, hTT⟩ : ∃ T, T = min t1 t2 := ⟨_, rfl⟩
        have eG : G = 2 ^ T * Nat.gcd X1 Y1 := by rw [← HG.out, hTT, ← gcd_twos ou ov, ← eu, ← ev]
        have EG := Lib.hid eG
        have HX1 := Lib.hid hX1
        have HY1 := Lib.hid hY1
        have HEU := Lib.hid (And.intro eu ev)
        have HT0 := Lib.hid (And.intro ht0 (And.intro ht1 (And.intro ht2 ht3)))
        have hTb : T ≤ 32 * 268435456 := by omega
        obtain ⟨kk, ss, hks, hss⟩ : ∃ kk ss, T = 32 * kk + ss ∧ ss < 32 := ⟨T / 32, T % 32, by omega, by omega⟩
        clear eG hX1 hY1 eu ev ht0 ht1 ht2 ht3
        go_wp2_with fail
        refine (dropLowBits_t (some ⟨gx, 0, none⟩) gx [] M [] (lim M).length t1 _ (by omega) HT0.out.1 HT0.out.2.1 (Nat.le_refl _) hWP).mono ?_
        rw [← HX1.out]
        rintro e w4 ⟨A4, c4, pre4, post4, rfl, hW4, hc4, hg4⟩
        have hV4 := hWQ.grown hg4 hne.symm
        have hb4 := hb.grown hg4 hsz (fun k hk => by injection hk with hk; omega)
        have hsz4 : base ≤ w4.heap.size := Nat.le_trans hsz hg4.size
        go_wp2_with fail
        refine (dropLowBits_t (some ⟨gy, 0, none⟩) gy [] N [] (lim N).length t2 _ (by omega) HT0.out.2.2.1 HT0.out.2.2.2 (Nat.le_refl _) hV4).mono ?_
        rw [← HY1.out]
        rintro e w5 ⟨A5, c5, pre5, post5, rfl, hW5, hc5, hg5⟩
        have hW4' := hW4.grown hg5 hne
        have hb5 := hb4.grown hg5 hsz4 (fun k hk => by injection hk with hk; omega)
        have hsz5 : base ≤ w5.heap.size := Nat.le_trans hsz4 hg5.size
        go_wp2_with fail
        refine (oddGcd_any base 268435456 X1 Y1 _ _ _ (by omega) ⟨A4, gx, pre4, post4, c4, A5, gy, pre5, post5, c5, rfl, rfl, hW4', hW5, hne, hgx, hgy, hc4, hc5, by omega, by omega⟩ (.inl ou) ov hsz5 (hT.below hb5 htab) htab).mono ?_
        rintro e w6 ⟨A6, c6, g6, pre6, post6, rfl, hW6, hc6, hb56⟩
        have hb6 := hb5.trans hb56
        have hsz6 : base ≤ w6.heap.size := Nat.le_trans hsz5 hb56.size
        obtain ⟨G1, hG1⟩ : ∃ G1, G1 = Nat.gcd X1 Y1 := ⟨_, rfl⟩
        have eG2 : G = 2 ^ (32 * kk + ss) * G1 := by rw [hG1, ← hks]; exact EG.out
        have hG1l : (lim G1).length ≤ 268435456 := Nat.le_trans (lim_len_mono (by rw [hG1]; exact Nat.gcd_le_left _ (by omega))) (Nat.le_trans lx (by omega))
        rw [← hG1] at hW6 hc6 ⊢
        have EG2 := Lib.hid eG2
        have e1 : (T : Int) / 32 = (kk : Int) := by omega
        have e2 : (T : Int) % 32 = (ss : Int) := by omega
        have hkb : kk ≤ 268435456 := by omega
        have emin : min (t1 : Int) (t2 : Int) = (T : Int) := by omega
        have HTT := Lib.hid hTT
        clear hTT
        clear eG2 hG1 hks hW4 hV4 hb4 hsz4 hW4' hW5 hb5 hb56 hsz5
        go_wp2_with fail
        have hmk := fun W : World => zeros_run W kk (by omega)
        have hwk : IntKind.i64.wrap (kk : Int) = (kk : Int) := by rw [IntKind.wrap_i64]; omega
        have e3 : (T : Int).tmod 32 = (ss : Int) := by rw [Int.tmod_eq_emod_of_nonneg (by omega)]; exact e2
        have el2 := lval_lim G1
        have EL := Lib.hid el2
        have Hsh := Lib.hid (fun (W : World) (h : Rd W A6 (lim G1)) => shiftLeft_any A6 (lim G1) c6 ss W (by omega) (lim_lt _) hss h)
        have hal := (Below.refl w6.heap.size w6).alloc (Nat.le_refl _) (zerosObj kk)
        have hO6 := zeros_own w6 kk base hsz6 (by omega)
        have hWr : Rd w6.drew A6 (lim G1) := hW6.rd
        have hWa : Rd (w6.alloc (zerosObj kk)).drew A6 (lim G1) := (hW6.keep hal).rd
        have hba : Below base w (w6.alloc (zerosObj kk)).drew := (hb6.alloc hsz6 (zerosObj kk)).drew
        have hsa : base ≤ (w6.alloc (zerosObj kk)).drew.heap.size := Nat.le_trans hsz6 hal.size
        have hbd : Below base w w6.drew := hb6.drew
        have hsd : base ≤ w6.drew.heap.size := hsz6
        have HX := Lib.hid (And.intro hal (And.intro hWr (And.intro hWa (And.intro hba (And.intro hsa (And.intro hbd (And.intro hsd hO6.drew)))))))
        clear el2 hal hO6 hWr hWa hba hsa hbd hsd hW6 hb6 hsz6
        go_region_law (first
          | (go_simp; go_at_call 157; first
             | (refine (Hsh.out _ HX.out.2.2.1).mono ?_
                rintro e ws ⟨S, hSl, hSlt, hSv, gS, hgS, rfl, hSB, hbs⟩
                have hOa := Own.below HX.out.2.2.2.2.2.2.2 hbs
                have hcur := HX.out.2.2.2.1.trans (hbs.mono HX.out.2.2.2.2.1)
                have hszc : base ≤ ws.heap.size := Nat.le_trans HX.out.2.2.2.2.1 hbs.size)
             | (refine (Hsh.out _ HX.out.2.1).mono ?_
                rintro e ws ⟨S, hSl, hSlt, hSv, gS, hgS, rfl, hSB, hbs⟩
                have hcur := HX.out.2.2.2.2.2.1.trans (hbs.mono HX.out.2.2.2.2.2.2.1)
                have hszc : base ≤ ws.heap.size := Nat.le_trans HX.out.2.2.2.2.2.2.1 hbs.size))
          | (refine step_extend rfl _ _ 133 rfl base 143 .u32 4 Tryz.underlying133 row_u32 _ (List.replicate kk 0) rfl gS ((lim G1).length + 1) ((lim G1).length + 1) S rfl hSl (by decide) hOa hSB (by rw [List.length_replicate]; omega) (by omega) hszc ?_
             intro v' wv hOv hbv
             replace hcur := hcur.trans hbv)
          | (refine step_extend rfl _ _ 133 rfl base 143 .u32 4 Tryz.underlying133 row_u32 _ (List.replicate kk 0) rfl gS ((lim G1).length + 1) ((lim G1).length + 1) S rfl hSl (by decide) (zeros_own ws kk base hszc (by omega)) (Blk.alloc hSB _) (by rw [List.length_replicate]; omega) (by omega) (Nat.le_trans hszc ((Below.refl ws.heap.size ws).alloc (Nat.le_refl _) _).size) ?_
             intro v' wv hOv hbv
             replace hcur := (hcur.alloc hszc (zerosObj kk)).trans hbv))
        all_goals
          go_wp2
          go_ret
          exact gol_own hOv hSlt (by rw [hSv, EL.out]) EG2.out (by omega) hcur
end Go.Proofs.YtodcomijjmobdaaGreatDoor

/- From a walk to a row: arguments of plain values, nothing that was there has turned. The table that the rows list. -/
namespace Go.Proofs.YtodcomijjmobdaaGreatDoor
open Go.ChangeShapes Go.WideShapes Go.ChangeAt Go.RowKit

section
variable {H : Type} {enc : TypeId × Value → H} {P : Program}
/-- The post of a call that takes plain values alone, returns one, and turns nothing that was there. -/
theorem post_plain {f : Func} {s : ChangeSpec} {apart fresh handsOn again : Bool} {W W' : World} {args : Array Value} {v : Value} {ds : List (DataW H)}
    (hv : s.vars = []) (hW : DataW.Whole enc P f.params.toList s.vars apart W args.toList ds [] [])
    (hres : ∀ (b : Nat) (sp : Nat → Bool) (hd : Bool), DataW.TrodAll enc P W' b sp hd f.resultTypes.toList (v.resultList f.resultTypes.size) (s.fn H (ds ++ [])).results [])
    (hargs : ∀ sp : Nat → Bool, DataW.TrodAll enc P W' 0 sp true f.params.toList args.toList (s.fn H (ds ++ [])).args []) (hfn : (s.fn H (ds ++ [])).vars = [])
    (hb : Below W.heap.size W W')
    (hok : ∀ (j : Nat) (t : TypeId) (r : Value), f.resultTypes[j]? = some t → (v.resultList f.resultTypes.size)[j]? = some r → Value.okWide P W' .any 0 t r) :
    s.post enc P f apart fresh handsOn again W args v W' := by
  have hvars : ∀ sp : Nat → Bool, DataW.TrodVars enc P W' sp s.vars (s.fn H (ds ++ [])).vars [] := fun sp => by rw [hv, hfn]; rfl
  refine ⟨ds, [], [], [], [], [], hW, hres _ _ _, hargs _, hvars _, hb.frame _, fun _ => ⟨hok, _, _, [], ⟨[], [], trodAll_append (hargs _) (hres _ _ _), hvars _, rfl, ?_, ?_⟩, ?_⟩⟩
  · intro b off h
    cases h
  · intro _
    exact List.nodup_nil
  · intro p h
    cases h
end

theorem own : ownKnob Tryz.prog.godebug = none := by kernel_rfl
theorem gTab : Tryz.prog.globalNamed "math/bits.deBruijn32tab" = some 0 := by kernel_rfl
theorem gTabType : (Tryz.prog.globals[0]?).map (·.type) = some 162 := by kernel_rfl
theorem cellsTab : Tryz.prog.cellsOf 162 = 32 := by kernel_rfl
theorem cellsByte : Tryz.prog.cellsOf 5 = 1 := by kernel_rfl
/-- The numbers of the table. -/
def tabNums : List Int := [0, 1, 28, 2, 29, 14, 24, 3, 30, 22, 20, 15, 25, 17, 4, 8, 31, 27, 13, 23, 21, 19, 16, 7, 26, 12, 18, 6, 11, 5, 10, 9]
/-- The world holds the table. -/
def Tab (w : World) : Prop := Lib.TabIs Tryz.prog w "math/bits.deBruijn32tab" .u8 tabNums
theorem tab_of_laid {W : World} (h : laidMetH Tryz.prog [("math/bits.deBruijn32tab", Rows.laid_math_bits_deBruijn32tab)] W) : Tab W :=
  Lib.tabIs_of_head (rest := []) gTab gTabType Tryz.underlying162 Tryz.underlying5 cellsByte cellsTab h

/-- A world for the witness: the settled one, the table as its initialiser lays it. -/
noncomputable def laidWorld (os : Os) : World :=
  { World.holding Tryz.prog os ⟨#[], #[], []⟩ with heap := (World.holding Tryz.prog os ⟨#[], #[], []⟩).heap.modify 0 fun
      | .cells _ t frozen => .cells (tabNums.map (Value.int .u8)).toArray t frozen
      | o => o }
end Go.Proofs.YtodcomijjmobdaaGreatDoor

/- nat.Gcd and voussoirref01.Gcd. -/
namespace Go.Proofs.YtodcomijjmobdaaGreatDoor
open Go.RowKit NM

theorem cell_lt {w : World} {a : Addr} {v : Value} (h : w.cell? a = some v) : a.block < w.heap.size := by
  rcases Nat.lt_or_ge a.block w.heap.size with h1 | h1
  · exact h1
  · unfold World.cell? at h
    rw [Array.getElem?_eq_none h1] at h
    simp at h
theorem Tab.cells {w : World} (h : Tab w) : TabC w := fun j hj => by
  have h1 := Lib.TabIs.cell h gTab j (by simpa [tabNums] using hj)
  rw [h1]
  congr 2
  have : ∀ j, j < 32 → tabNums.getD j 0 = ((Lib.deBruijn32tab.getD j 0 : Nat) : Int) := by decide
  rw [← this j hj]
theorem TabC.lt {w : World} (h : TabC w) : 0 < w.heap.size := cell_lt (h 0 (by omega))

set_option maxHeartbeats 1000000 in
theorem Gcd_any (a b : ByteArray) (w : World) (ha : a.size ≤ 268435456) (hb : b.size ≤ 268435456) (hT : TabC w) :
    Calls Tryz.prog 145 #[.string a, .string b] w fun e w' => e = .returned (.string (can (Nat.gcd (nat a) (nat b)))) ∧ Below w.heap.size w w' := by
  by_cases hw : nat a < 18446744073709551616 ∧ nat b < 18446744073709551616
  · exact Gcd_word a b w (by simp [maxLen]; omega) (by simp [maxLen]; omega) hw.1 hw.2
  · have la := lim_size a
    have lb := lim_size b
    have h3 : (u64B (nat a) && u64B (nat b)) = false := by
      unfold u64B
      by_cases h1 : nat a < 18446744073709551616
      · have h2 : ¬ nat b < 18446744073709551616 := fun h => hw ⟨h1, h⟩
        rw [decide_eq_false h2, Bool.and_false]
      · rw [decide_eq_false h1, Bool.false_and]
    have htab := hT.lt
    have HT := Lib.hid (And.intro hT htab)
    clear hw hT htab
    have hcase : u64B (nat a) = false ∨ (u64B (nat a) = true ∧ u64B (nat b) = false) := by
      cases h : u64B (nat a)
      · exact .inl rfl
      · rw [h, Bool.true_and] at h3
        exact .inr ⟨rfl, h3⟩
    clear h3
    rcases hcase with h1 | ⟨h1, h2⟩
    all_goals
      go_enter Tryz.func145, Tryz.ntmps145
      go_wp2_with fail
      refine (Uint64_any a _ (by simp [maxLen]; omega)).mono ?_
      rintro e w1 ⟨rfl, rfl⟩
      rw [u64Val_eq]
      go_wp2_with fail
      refine (Uint64_any b _ (by simp [maxLen]; omega)).mono ?_
      rintro e w1 ⟨rfl, rfl⟩
      rw [u64Val_eq]
      go_wp2_with fail
      refine (limbs_any a _ (by omega)).mono ?_
      rintro e w1 ⟨g1, hg1, rfl, hB1, hb1⟩
      go_wp2_with fail
      refine (limbs_any b _ (by omega)).mono ?_
      rintro e w2 ⟨g2, hg2, rfl, hB2, hb2⟩
      have hg1l := Blk.lt hB1
      have hb12 := hb1.trans (hb2.mono hb1.size)
      go_wp2_with fail
      refine (gcdOfLimbs_any w.heap.size g1 g2 (nat a) (nat b) _ (by omega) (by omega) (Blk.keep hB1 hb2) hB2 (by omega) hg1 (Nat.le_trans hb1.size hg2) hb12.size (HT.out.1.below hb12 HT.out.2) HT.out.2).mono ?_
      rintro e w3 ⟨A, c, L, rfl, hL1, hL2, hL3, hL4, hb3⟩
      go_wp2_with fail
      refine (magnitude_any A L c _ hL4 hL1 hL3).mono ?_
      rintro e w4 ⟨rfl, hb4⟩
      rw [hL2]
      have hb34 := hb3.trans (hb4.mono (Nat.le_trans hb12.size hb3.size))
      clear hL2
      go_wp2_with fail
      go_ret
      exact ⟨rfl, hb12.trans hb34⟩

attribute [local go_sem] nat_can
theorem can_mono {m n : Nat} (h : m ≤ n) : (can m).size ≤ (can n).size := by
  rw [can_size, can_size]
  exact len_mono (by omega) h
set_option maxHeartbeats 1000000 in
theorem refGcd_any (a b : ByteArray) (w : World) (ha : a.size ≤ 1073741824) (hb : b.size ≤ 1073741824) :
    Calls Tryz.prog 104 #[.string a, .string b] w fun e w' => e = .returned (.string (can (Nat.gcd (nat a) (nat b)))) ∧ Below w.heap.size w w' := by
  have sa := can_size_le_size a
  have sb := can_size_le_size b
  obtain ⟨M, hM⟩ : ∃ M, M = nat a := ⟨_, rfl⟩
  obtain ⟨N, hN⟩ : ∃ N, N = nat b := ⟨_, rfl⟩
  obtain ⟨G, hG⟩ : ∃ G, G = Nat.gcd M N := ⟨_, rfl⟩
  rw [← hM] at sa ⊢
  rw [← hN] at sb ⊢
  rw [← hG]
  have HM := Lib.hid hM
  have HN := Lib.hid hN
  have HG := Lib.hid hG
  clear hM hN hG
  go_enter Tryz.func104, Tryz.ntmps104
  go_wp2_with (go_at_call 102; refine (Norm_any _ _ (by simp [maxLen]; omega)).mono ?_; rintro e w' ⟨rfl, rfl⟩)
  rw [← HM.out, ← HN.out]
  go_loopw [5, 6] (fun x y wr => ∃ m n : Nat, x = .string (can m) ∧ y = .string (can n) ∧ (can m).size ≤ 1073741824 ∧ (can n).size ≤ 1073741824 ∧ Nat.gcd m n = G ∧ Below w.heap.size w wr) (fun _ y _ => nat (strOf y))
  case atStart => exact ⟨M, N, rfl, rfl, by omega, by omega, HG.out.symm, Below.refl _ _⟩
  case round =>
    obtain ⟨m, n, rfl, rfl, hm, hn, hg, hbr⟩ := hrel
    have Hg := Lib.hid hg
    clear hg
    by_cases hz : n = 0
    · have hc := isEmpty_pos hz
      have e : G = m := by rw [← Hg.out, hz, Nat.gcd_zero_right]
      have He := Lib.hid e
      clear hz e
      go_wp2_with fail
      go_ret
      exact ⟨by rw [He.out]; rfl, hbr⟩
    · have hc := isEmpty_neg hz
      have hd := divVal_pos (m := m) hz
      have hs := can_mono (Nat.le_of_lt (Nat.mod_lt m (Nat.pos_of_ne_zero hz)))
      have Hz := Lib.hid hz
      clear hz
      go_wp2_with fail
      refine (refDiv_any _ _ _ hm hn).mono ?_
      rintro e w1 ⟨rfl, hb1⟩
      rw [nat_can, nat_can, hd]
      clear hd
      go_wp2_with fail
      go_roundw
      case rel => exact ⟨n, m % n, rfl, rfl, hn, by omega, by rw [← Hg.out, Nat.gcd_comm n, ← Nat.gcd_rec, Nat.gcd_comm], then_ hbr hb1⟩
      case measure =>
        show nat (can (m % n)) < nat (can n)
        rw [nat_can, nat_can]
        exact Nat.mod_lt _ (Nat.pos_of_ne_zero Hz.out)
end Go.Proofs.YtodcomijjmobdaaGreatDoor
