/- nat.trailingZeros. -/
import Derived.Test.YtmfinfnjamgboaaDoorTz
namespace Go.Proofs.YtmfinfnjamgboaaDoor
open Go.RowKit NM

def TzPost (N : Nat) (w : World) (e : Ending) (w' : World) : Prop := ∃ t : Nat, e = .returned (.int .i64 (t : Int)) ∧ (N = 0 → t = 0) ∧ (N ≠ 0 → ∃ q, N = 2 ^ t * (2 * q + 1)) ∧ w = w'

theorem tzs_val {l : List Nat} {k d t m : Nat} (hk : k < l.length) (hz : ∀ j, j < k → l.getD j 0 = 0) (hd : d = l.getD k 0) (hm : d = 2 ^ t * (2 * m + 1)) (ht : t < 32) : ∃ q, lval l = 2 ^ (32 * k + t) * (2 * q + 1) := by
  have h1 := val_take_drop 4294967296 l k (by omega)
  have h0 : val 4294967296 (l.take k) = 0 := val_eq_zero (fun j => by
    rw [List.getD_eq_getElem?_getD, List.getElem?_take]
    by_cases h : j < k
    · rw [if_pos h, ← List.getD_eq_getElem?_getD, hz j h]
    · rw [if_neg h]; rfl)
  have h2 := lhigh_step l k hk
  unfold lhigh at h2
  generalize lval (l.drop (k + 1)) = H at h2
  have e : lval l = 4294967296 ^ k * lval (l.drop k) := by
    show val 4294967296 l = 4294967296 ^ k * val 4294967296 (l.drop k)
    rw [h1, h0, Nat.zero_add]
  have e2 : (4294967296 : Nat) ^ k = 2 ^ (32 * k) := by rw [Nat.pow_mul]
  have e3 : (4294967296 : Nat) = 2 ^ t * (2 * 2 ^ (31 - t)) := by
    rw [show (2 : Nat) * 2 ^ (31 - t) = 2 ^ (32 - t) from by rw [show 32 - t = (31 - t) + 1 from by omega, Nat.pow_succ, Nat.mul_comm], ← Nat.pow_add, show t + (32 - t) = 32 from by omega]
  refine ⟨m + 2 ^ (31 - t) * H, ?_⟩
  rw [e, h2, ← hd, hm, e2, Nat.pow_add, Nat.mul_assoc]
  congr 1
  have e4 : 4294967296 * H = 2 ^ t * (2 * (2 ^ (31 - t) * H)) := by
    conv => lhs; rw [e3]
    rw [Nat.mul_assoc, Nat.mul_assoc]
  rw [e4, ← Nat.mul_add]
  congr 1
  omega
theorem tzs_ret {l : List Nat} {k d t m : Nat} {w w' : World} (hk : k < l.length) (hz : ∀ j, j < k → l.getD j 0 = 0) (hd : d = l.getD k 0) (hm : d = 2 ^ t * (2 * m + 1)) (ht : t < 32) (hw : w = w') :
    TzPost (lval l) w (.returned (.int .i64 (32 * (k : Int) + (t : Int)))) w' := by
  obtain ⟨q, hq⟩ := tzs_val hk hz hd hm ht
  refine ⟨32 * k + t, by go_num, fun h => ?_, fun _ => ⟨q, hq⟩, hw⟩
  rw [hq] at h
  have := Nat.pow_pos (n := 32 * k + t) (show 0 < 2 by omega)
  rcases Nat.mul_eq_zero.1 h with h | h
  · omega
  · omega
theorem tzs_none {l : List Nat} {k : Nat} {w w' : World} (hk : l.length ≤ k) (hz : ∀ j, j < k → l.getD j 0 = 0) (hw : w = w') : TzPost (lval l) w (.returned (.int .i64 0)) w' := by
  have h : lval l = 0 := val_eq_zero (fun j => by
    by_cases h : j < k
    · exact hz j h
    · rw [List.getD_eq_getElem?_getD, List.getElem?_eq_none (by omega)]; rfl)
  exact ⟨0, rfl, fun _ => rfl, fun h' => absurd h h', hw⟩

set_option maxHeartbeats 1000000 in
theorem trailingZeros_any (A : Option Addr) (l : List Nat) (c : Nat) (w : World) (hl : l.length ≤ 4294967296) (hlt : llt l) (hA : Rd w A l) (hT : TabC w) :
    Calls Tryd.prog 59 #[.slice A l.length c] w (TzPost (lval l) w) := by
  go_enter Tryd.func59, Tryd.ntmps59
  go_wp2
  go_loop [3, 6] (fun _ i => ∃ k : Nat, k ≤ l.length ∧ i = .int .i64 k ∧ ∀ j, j < k → l.getD j 0 = 0) (fun _ i => l.length - (intOf i).toNat)
  case atStart => exact ⟨0, Nat.zero_le _, rfl, fun j hj => by omega⟩
  case round =>
    obtain ⟨k, hk, rfl, hz⟩ := hrel
    have Hz := Lib.hid hz
    clear hz
    by_cases hlt2 : k < l.length
    · obtain ⟨g, pre, post, rfl, hx⟩ := hA (ne_nil_of hlt2)
      have hxc := hx.cell (mid_at hlt2)
      have hdl := llt_getD hlt k
      obtain ⟨d, hd⟩ : ∃ d, d = l.getD k 0 := ⟨_, rfl⟩
      rw [← hd] at hxc hdl
      have Hd := Lib.hid hd
      clear hd hA hx
      by_cases hd0 : d = 0
      · subst hd0
        go_wp2
        go_round
        case rel => exact ⟨k + 1, by omega, by go_num, fun j hj => by
          rcases Nat.lt_or_ge j k with h | h
          · exact Hz.out j h
          · obtain rfl : j = k := by omega
            exact Hd.out.symm⟩
        case measure => simp [intOf]; omega
      · have hdn : ((d : Int) != 0) = true := by simp; omega
        have hcall := tz32_any d w hdl hd0 hT
        obtain ⟨m, hm, ht⟩ := ctz_odd hdl hd0
        generalize Lib.ctz 32 d = t at hcall hm ht
        have Hm := Lib.hid hm
        clear hm hT
        have Hcall := Lib.hid hcall
        clear hcall
        go_wp2_with (go_at_call 68; refine (Hcall.out).mono ?_; rintro e w' ⟨rfl, rfl⟩)
        go_ret
        exact tzs_ret hlt2 Hz.out Hd.out Hm.out ht rfl
    · go_wp2
      go_ret
      exact tzs_none (by omega) Hz.out rfl
end Go.Proofs.YtmfinfnjamgboaaDoor
