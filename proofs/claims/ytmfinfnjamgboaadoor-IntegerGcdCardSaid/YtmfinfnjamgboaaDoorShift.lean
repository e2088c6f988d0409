/- nat.shiftRight and math/bits.LeadingZeros32. -/
import Derived.Test.YtmfinfnjamgboaaDoorByLimb
namespace Go.Proofs.YtmfinfnjamgboaaDoor
open Go.RowKit NM

/-- A limb of the number shifted right. -/
theorem shr_limb {l : List Nat} (hl : llt l) {s : Nat} (hs : s < 32) (i : Nat) : lval l / 2 ^ s / lpow i % 4294967296 = (l.getD i 0 + 4294967296 * l.getD (i + 1) 0) / 2 ^ s % 4294967296 := by
  have h1 := lval_digit hl i
  have h2 := lval_digit hl (i + 1)
  rw [lpow_succ, ← Nat.div_div_eq_div_mul] at h2
  rw [← h1, ← h2, Nat.div_div_eq_div_mul, Nat.mul_comm, ← Nat.div_div_eq_div_mul]
  generalize lval l / lpow i = M
  have e1 := Nat.div_add_mod M 4294967296
  have e2 := Nat.div_add_mod (M / 4294967296) 4294967296
  have e3 : M = (M % 4294967296 + 4294967296 * (M / 4294967296 % 4294967296)) + 2 ^ s * (2 ^ (32 - s) * 4294967296 * (M / 4294967296 / 4294967296)) := by
    have e4 : 2 ^ s * (2 ^ (32 - s) * 4294967296 * (M / 4294967296 / 4294967296)) = 4294967296 * (4294967296 * (M / 4294967296 / 4294967296)) := by
      rw [← Nat.mul_assoc, ← Nat.mul_assoc, Nat.mul_comm (2 ^ s), ← pow_split hs, Nat.mul_assoc]
    rw [e4]
    omega
  conv => lhs; rw [e3]
  rw [Nat.add_mul_div_left _ _ (two_pow_pos' s), Nat.mul_right_comm, Nat.add_mul_mod_self_right]

/-- The list behind k rounds of a shift to the right. -/
def shrl (l : List Nat) (s k : Nat) : List Nat := lims k (lval l / 2 ^ s) ++ l.drop k
theorem shrl_length (l : List Nat) (s k : Nat) (h : k ≤ l.length) : (shrl l s k).length = l.length := by
  unfold shrl
  rw [List.length_append, List.length_drop, lims_length]
  omega
theorem shrl_at (l : List Nat) (s k j : Nat) (h : k ≤ j) : (shrl l s k).getD j 0 = l.getD j 0 := by
  unfold shrl
  rw [List.getD_eq_getElem?_getD, List.getElem?_append_right (by rw [lims_length]; exact h), lims_length, List.getElem?_drop, List.getD_eq_getElem?_getD]
  congr 2
  omega
theorem shrl_set (l : List Nat) (s k v : Nat) (hk : k < l.length) (hv : v = lval l / 2 ^ s / lpow k % 4294967296) : (shrl l s k).set k v = shrl l s (k + 1) := by
  unfold shrl
  rw [lims_succ, List.set_append_right _ _ (by rw [lims_length]; omega), lims_length, Nat.sub_self, List.drop_eq_getElem_cons hk, List.set_cons_zero, hv]
  simp
theorem shrl_start (l : List Nat) (s : Nat) : shrl l s 0 = l := rfl
theorem shrl_end (l : List Nat) (s k : Nat) (h : k = l.length) : shrl l s k = lims l.length (lval l / 2 ^ s) := by
  unfold shrl
  rw [h, List.drop_of_length_le (Nat.le_refl _), List.append_nil]

theorem shr_wide {x y : Nat} (hx : x < 4294967296) (hy : y < 4294967296) : bits .or .u64 (x : Int) ((y : Int) * 4294967296) = ((x + 4294967296 * y : Nat) : Int) := by
  have e : (y : Int) * 4294967296 = ((y * 4294967296 : Nat) : Int) := by omega
  rw [e, u64_or_nat _ _ (by omega) (by omega)]
  congr 1
  simpa using or_shift (v := x) (x := y) (k := 4) (by omega)

/-- What shiftRight leaves. -/
def ShrPost (A : Option Addr) (g : Nat) (pre : List Value) (l : List Nat) (post : List Value) (s : Nat) (w : World) (e : Ending) (w' : World) : Prop := e = .returned (.tuple #[]) ∧ Chg A g pre l post (lims l.length (lval l / 2 ^ s)) w w'

theorem shr_val1 {x s v : Nat} (h : v = x / 2 ^ s % 4294967296) : Value.int .u32 ((x : Int) / 2 ^ s % 4294967296) = .int .u32 ((v : Nat) : Int) := by
  rw [h, two_pow_cast]
  rfl
theorem shr_val2 {x y s v : Nat} (h : v = (x + 4294967296 * y) / 2 ^ s % 4294967296) : Value.int .u32 (((x : Int) + 4294967296 * (y : Int)) / 2 ^ s % 4294967296) = .int .u32 ((v : Nat) : Int) := by
  rw [h, two_pow_cast]
  rfl

set_option maxHeartbeats 1000000 in
theorem shiftRight_any (A : Option Addr) (g : Nat) (pre : List Value) (l : List Nat) (post : List Value) (c s : Nat) (w : World) (hll : l.length ≤ 17179869184) (hl : llt l) (hs : s < 32) (hA : Win w A g pre l post) :
    Calls Tryd.prog 65 #[.slice A l.length c, .int .i64 (s : Int)] w (ShrPost A g pre l post s w) := by
  go_enter Tryd.func65, Tryd.ntmps65
  go_wp2
  go_loopw [4, 5, 8] (fun _ _ i wr => ∃ k : Nat, k ≤ l.length ∧ i = .int .i64 k ∧ (l ≠ [] → MB wr g pre (shrl l s k) post) ∧ w.grownBy wr (some g)) (fun _ _ i _ => l.length - (intOf i).toNat)
  case atStart => exact ⟨0, Nat.zero_le _, rfl, fun h => (hA h).2, World.grownBy.refl _ _⟩
  case round =>
    obtain ⟨k, hk, rfl, hM, hg⟩ := hrel
    by_cases hlt : k < l.length
    · have hM1 := hM (ne_nil_of hlt)
      obtain ⟨rfl, _⟩ := hA (ne_nil_of hlt)
      have hcell := hM1.at_ (j := k) (by rw [shrl_length _ _ _ hk]; exact hlt)
      have hfree := hM1.free (j := k) (by rw [shrl_length _ _ _ hk]; exact hlt)
      rw [shrl_at _ _ _ _ (Nat.le_refl _)] at hcell
      have hx := llt_getD hl k
      have hlimb := shr_limb hl hs k
      by_cases hlt2 : k + 1 < l.length
      · have hcell2 := hM1.at_ (j := k + 1) (by rw [shrl_length _ _ _ hk]; exact hlt2)
        rw [shrl_at _ _ _ _ (by omega)] at hcell2
        have hy := llt_getD hl (k + 1)
        have Hlimb := Lib.hid hlimb
        clear hlimb hM hA
        generalize l.getD k 0 = x at hcell hx Hlimb
        generalize l.getD (k + 1) 0 = y at hcell2 hy Hlimb
        have hor := shr_wide hx hy
        go_wp2
        go_roundw
        case rel => exact ⟨k + 1, by omega, by go_num, fun _ => by rw [← shrl_set l s k _ hlt rfl]; exact hM1.set (by rw [shrl_length _ _ _ hk]; exact hlt) (shr_val2 Hlimb.out), gb_set hg _ _⟩
        case measure => simp [intOf]; omega
      · have hz : l.getD (k + 1) 0 = 0 := by rw [List.getD_eq_getElem?_getD, List.getElem?_eq_none (by omega)]; rfl
        rw [hz, Nat.mul_zero, Nat.add_zero] at hlimb
        have Hlimb := Lib.hid hlimb
        clear hlimb hM hA hz
        generalize l.getD k 0 = x at hcell hx Hlimb
        go_wp2
        go_roundw
        case rel => exact ⟨k + 1, by omega, by go_num, fun _ => by rw [← shrl_set l s k _ hlt rfl]; exact hM1.set (by rw [shrl_length _ _ _ hk]; exact hlt) (shr_val1 Hlimb.out), gb_set hg _ _⟩
        case measure => simp [intOf]; omega
    · go_wp2
      go_end0
      exact ⟨rfl, lims_length _ _, fun h => by rw [← shrl_end l s k (by omega)]; exact hM h, hg, fun h => (hA h).1⟩
end Go.Proofs.YtmfinfnjamgboaaDoor
