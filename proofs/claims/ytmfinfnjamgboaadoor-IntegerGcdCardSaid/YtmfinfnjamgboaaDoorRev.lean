/- slices.Reverse and slices.IndexFunc at []byte. -/
import Derived.Test.YtmfinfnjamgboaaDoorByLimb
import Derived.RegionTactic
import Derived.BigRegion
namespace Go.Proofs.YtmfinfnjamgboaaDoor
open Go.RowKit NM

/-- The list behind i exchanges. -/
def RevAt (L M : List Nat) (i : Nat) : Prop := M.length = L.length ∧ ∀ t, t < L.length → M.getD t 0 = if t < i ∨ L.length ≤ t + i then L.getD (L.length - 1 - t) 0 else L.getD t 0
theorem RevAt.start (L : List Nat) : RevAt L L 0 := ⟨rfl, fun t ht => by rw [if_neg (by omega)]⟩
theorem RevAt.here {L M : List Nat} {i t : Nat} (h : RevAt L M i) (ht : t < L.length) (h1 : i ≤ t) (h2 : t + i < L.length) : M.getD t 0 = L.getD t 0 := by
  rw [h.2 t ht, if_neg (by omega)]
theorem getD_set {l : List Nat} {i j x : Nat} (h : i < l.length) : (l.set i x).getD j 0 = if i = j then x else l.getD j 0 := by
  by_cases e : i = j
  · subst e
    rw [if_pos rfl, List.getD_eq_getElem?_getD, List.getElem?_set_self h]
    rfl
  · rw [if_neg e, getD_set_ne e]
theorem RevAt.step {L M : List Nat} {i j : Nat} (h : RevAt L M i) (hj : j + i + 1 = L.length) (hij : i < j) : RevAt L ((M.set i (L.getD j 0)).set j (L.getD i 0)) (i + 1) := by
  refine ⟨by rw [List.length_set, List.length_set]; exact h.1, fun t ht => ?_⟩
  have hl := h.1
  rw [getD_set (by rw [List.length_set]; omega), getD_set (by omega)]
  by_cases e1 : j = t
  · subst e1
    rw [if_pos rfl, if_pos (by omega)]
    congr 1
    omega
  · rw [if_neg e1]
    by_cases e2 : i = t
    · subst e2
      rw [if_pos rfl, if_pos (by omega)]
      congr 1
      omega
    · rw [if_neg e2, h.2 t ht]
      by_cases e3 : t < i ∨ L.length ≤ t + i
      · rw [if_pos e3, if_pos (by omega)]
      · rw [if_neg e3, if_neg (by omega)]
theorem RevAt.end_ {L M : List Nat} {i : Nat} (h : RevAt L M i) (hi : L.length ≤ i + i + 1) : M = L.reverse := by
  apply list_ext (by rw [h.1, List.length_reverse])
  intro t
  by_cases ht : t < L.length
  · have e : L.reverse.getD t 0 = L.getD (L.length - 1 - t) 0 := by
      rw [List.getD_eq_getElem?_getD, List.getElem?_reverse ht, ← List.getD_eq_getElem?_getD]
    rw [e, h.2 t ht]
    by_cases e3 : t < i ∨ L.length ≤ t + i
    · rw [if_pos e3]
    · rw [if_neg e3]
      congr 1
      omega
  · rw [List.getD_eq_getElem?_getD, List.getElem?_eq_none (by rw [h.1]; omega), List.getD_eq_getElem?_getD, List.getElem?_eq_none (by rw [List.length_reverse]; omega)]

theorem pre_at {k : IntKind} {l : List Nat} {post : List Value} {j : Nat} (hj : j < l.length) : (cv k l ++ post)[j]? = some (.int k (l.getD j 0 : Nat)) := by
  rw [List.getElem?_append_left (by rw [cv_length]; exact hj), cv_getElem? _ _ _ hj]
theorem pre_set {k : IntKind} {l : List Nat} {post : List Value} {j d : Nat} (hj : j < l.length) : (cv k l ++ post).set j (.int k (d : Int)) = cv k (l.set j d) ++ post := by
  rw [List.set_append_left _ _ (by rw [cv_length]; exact hj), cv_set]

/-- What Reverse leaves. -/
def RevPost (g : Nat) (E : TypeId) (L : List Nat) (post : List Value) (w : World) (e : Ending) (w' : World) : Prop := e = .returned (.tuple #[]) ∧ Blk w' g E (cv .u8 L.reverse ++ post) ∧ w.grownBy w' (some g)

set_option maxHeartbeats 1000000 in
theorem Reverse_any (g : Nat) (E : TypeId) (L : List Nat) (post : List Value) (n c : Nat) (w : World) (hn : n = L.length) (hL : L.length ≤ 1099511627776) (hB : Blk w g E (cv .u8 L ++ post)) :
    Calls Tryd.prog 46 #[.slice (some ⟨g, 0, none⟩) n c] w (RevPost g E L post w) := by
  subst hn
  go_enter Tryd.func46, Tryd.ntmps46
  go_wp2
  go_loopw [2, 3] (fun i j wr => ∃ (k : Nat) (M : List Nat), i = .int .i64 k ∧ j = .int .i64 ((L.length : Int) - 1 - k) ∧ k ≤ L.length ∧ RevAt L M k ∧ Blk wr g E (cv .u8 M ++ post) ∧ w.grownBy wr (some g)) (fun i j _ => (intOf j - intOf i).toNat)
  case atStart => exact ⟨0, L, rfl, by go_num, Nat.zero_le _, RevAt.start L, hB, World.grownBy.refl _ _⟩
  case round =>
    obtain ⟨i, M, rfl, rfl, hi, hM, hBr, hg⟩ := hrel
    by_cases hlt : i + i + 1 < L.length
    · obtain ⟨j, hj⟩ : ∃ j : Nat, j + i + 1 = L.length := ⟨L.length - 1 - i, by omega⟩
      have e : (L.length : Int) - 1 - (i : Int) = (j : Int) := by omega
      have hij : i < j := by omega
      have hil : i < L.length := by omega
      have hjl : j < L.length := by omega
      have c1 := hBr.cell (pre_at (by rw [hM.1]; exact hil))
      have c2 := hBr.cell (pre_at (by rw [hM.1]; exact hjl))
      have f1 := hBr.free (j := i) (by simp [cv_length, hM.1]; omega)
      have f2 := hBr.free (j := j) (by simp [cv_length, hM.1]; omega)
      rw [hM.here hil (by omega) (by omega)] at c1
      rw [hM.here hjl (by omega) (by omega)] at c2
      have HM := Lib.hid hM
      have Hj := Lib.hid hj
      rw [e]
      clear hM hj
      obtain ⟨x, hx⟩ : ∃ x, x = L.getD i 0 := ⟨_, rfl⟩
      obtain ⟨y, hy⟩ : ∃ y, y = L.getD j 0 := ⟨_, rfl⟩
      rw [← hx] at c1
      rw [← hy] at c2
      have Hx := Lib.hid hx
      have Hy := Lib.hid hy
      clear hx hy
      go_wp2
      go_region
      go_wp2
      go_roundw
      case rel => exact ⟨i + 1, (M.set i y).set j x, by go_num, by have := Hj.out; go_num, by omega, by rw [Hx.out, Hy.out]; exact HM.out.step Hj.out hij, by rw [← pre_set (by rw [List.length_set, HM.out.1]; exact hjl), ← pre_set (by rw [HM.out.1]; exact hil)]; exact ((hBr.set i _).set j _).drew, gb_drewN (gb_set (gb_set hg _ _) _ _) 1⟩
      case measure => simp [intOf]; omega
    · go_wp2
      go_end0
      exact ⟨rfl, by rw [← hM.end_ (by omega)]; exact hBr, hg⟩

set_option maxHeartbeats 400000 in
theorem Format1_any (d : Nat) (w : World) : Calls Tryd.prog 48 #[.int .u8 (d : Int)] w fun e w' => e = .returned (.bool ((d : Int) != 48)) ∧ w = w' := by
  go_enter Tryd.func48, Tryd.ntmps48
  go_wp2
  go_ret
  exact ⟨rfl, rfl⟩

set_option maxHeartbeats 1000000 in
/-- IndexFunc at Format's own test: the first place that is not the digit 0. -/
theorem IndexFunc_any (g : Nat) (E : TypeId) (L : List Nat) (post : List Value) (n c f : Nat) (F : Value) (w : World) (hF : F = .func (.func 48) #[] #[]) (hn : n = L.length) (hL : L.length ≤ 1099511627776) (hB : Blk w g E (cv .u8 L ++ post)) (hf : f < L.length) (hz : ∀ j, j < f → L.getD j 0 = 48) (hnz : L.getD f 0 ≠ 48) :
    Calls Tryd.prog 47 #[.slice (some ⟨g, 0, none⟩) n c, F] w fun e w' => e = .returned (.int .i64 (f : Int)) ∧ Below w.heap.size w w' := by
  subst hn hF
  have Hz := Lib.hid hz
  have Hnz := Lib.hid hnz
  clear hz hnz
  go_enter Tryd.func47, Tryd.ntmps47
  go_wp2
  go_loopw [8] (fun i wr => ∃ k : Nat, k ≤ f ∧ i = .int .i64 k ∧ Below w.heap.size w wr) (fun i _ => L.length - (intOf i).toNat)
  case atStart => exact ⟨0, Nat.zero_le _, rfl, Below.refl _ _⟩
  case round =>
    obtain ⟨k, hk, rfl, hb⟩ := hrel
    have hkl : k < L.length := by omega
    have hc := (hB.keep hb).cell (pre_at hkl)
    by_cases hkf : k = f
    · have hd : L.getD k 0 ≠ 48 := by rw [hkf]; exact Hnz.out
      have Hkf := Lib.hid hkf
      clear hkf
      generalize L.getD k 0 = d at hc hd
      have ht : ((d : Int) != 48) = true := by simp; omega
      go_wp2_with (go_at_call 48; refine (Format1_any d _).mono ?_; rintro e w' ⟨rfl, rfl⟩)
      go_ret
      exact ⟨ret_int (by rw [Hkf.out]), hb⟩
    · have hd := Hz.out k (by omega)
      rw [hd] at hc
      clear hd
      go_wp2_with (go_at_call 48; refine (Format1_any 48 _).mono ?_; rintro e w' ⟨rfl, rfl⟩)
      go_roundw
      case rel => exact ⟨k + 1, by omega, by go_num, hb⟩
      case measure => simp [intOf]; omega
end Go.Proofs.YtmfinfnjamgboaaDoor
