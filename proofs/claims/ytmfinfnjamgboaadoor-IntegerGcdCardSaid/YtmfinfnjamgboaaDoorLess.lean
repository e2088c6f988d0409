/- nat.less. -/
import Derived.Test.YtmfinfnjamgboaaDoorByLimb
namespace Go.Proofs.YtmfinfnjamgboaaDoor
open Go.RowKit NM

theorem lim_len_lt {M N : Nat} (h : (lim M).length < (lim N).length) : M < N := by
  have h1 := lval_lt (lim_lt M)
  rw [lval_lim] at h1
  have hN : N ≠ 0 := fun e => by rw [e, lim_zero] at h; simp at h
  rw [lim_length] at h h1
  rw [lim_length] at h
  have h2 := pow_len_le (B := 4294967296) (by omega) hN
  have h3 : 4294967296 ^ (llen M) ≤ 4294967296 ^ (llen N - 1) := Nat.pow_le_pow_right (by omega) (by omega)
  exact Nat.lt_of_lt_of_le h1 (Nat.le_trans h3 h2)
theorem less_top {M N i k : Nat} (he : (lim M).length = (lim N).length) (hk : k < (lim M).length) (hi : i = (lim M).length - 1 - k) (ht : ∀ j, (lim M).length - k ≤ j → (lim M).getD j 0 = (lim N).getD j 0) (h : (lim M).getD i 0 < (lim N).getD i 0) : M < N := by
  have := val_top (B := 4294967296) (lim_lt M) he i (by omega) (fun j hj => ht j (by omega)) h
  have e1 := lval_lim M
  have e2 := lval_lim N
  unfold lval at e1 e2
  omega
theorem less_ret {b : Bool} {p : Prop} [Decidable p] (h : b = decide p) : Ending.returned (.bool b) = .returned (.bool (decide p)) := by rw [h]

set_option maxHeartbeats 1000000 in
theorem less_any (A B : Option Addr) (M N c1 c2 : Nat) (w : World) (hM : (lim M).length ≤ 4294967296) (_hN : (lim N).length ≤ 4294967296) (hA : Rd w A (lim M)) (hB : Rd w B (lim N)) :
    Calls Tryd.prog 69 #[.slice A (lim M).length c1, .slice B (lim N).length c2] w fun e w' => e = .returned (.bool (decide (M < N))) ∧ Below w.heap.size w w' := by
  by_cases hne : (lim M).length = (lim N).length
  · have hn0 : (((lim M).length : Int) != ((lim N).length : Int)) = false := by rw [hne]; simp
    have Hne := Lib.hid hne
    have hge : (lim M).length ≤ (lim N).length := by omega
    have hle : (lim N).length ≤ (lim M).length := by omega
    clear hne
    go_enter Tryd.func69, Tryd.ntmps69
    go_wp2
    go_loopw [5, 6, 19] (fun _ _ i wr => ∃ k : Nat, k ≤ (lim M).length ∧ i = .int .i64 k ∧ (∀ j, (lim M).length - k ≤ j → (lim M).getD j 0 = (lim N).getD j 0) ∧ Below w.heap.size w wr) (fun _ _ i _ => (lim M).length - (intOf i).toNat)
    case atStart => exact ⟨0, Nat.zero_le _, rfl, fun j hj => by rw [List.getD_eq_getElem?_getD, List.getElem?_eq_none (by omega), List.getD_eq_getElem?_getD, List.getElem?_eq_none (by omega)], Below.refl _ _⟩
    case round =>
      obtain ⟨k, hk, rfl, ht, hb⟩ := hrel
      have Ht := Lib.hid ht
      clear ht
      by_cases hlt : k < (lim M).length
      · obtain ⟨i, hi⟩ : ∃ i : Nat, i = (lim M).length - 1 - k := ⟨_, rfl⟩
        have e : (((lim M).length : Int) - 1 - (k : Int)) = (i : Int) := by omega
        have b2 : i < (lim M).length := by omega
        have b3 : i < (lim N).length := by omega
        obtain ⟨g, pre, post, rfl, hx⟩ := hA (ne_nil_of hlt)
        obtain ⟨g2, pre2, post2, rfl, hy⟩ := hB (ne_nil_of b3)
        have hxc := (hx.keep hb).cell (mid_at b2)
        have hyc := (hy.keep hb).cell (mid_at b3)
        obtain ⟨d, hd⟩ : ∃ d, d = (lim M).getD i 0 := ⟨_, rfl⟩
        obtain ⟨f, hf⟩ : ∃ f, f = (lim N).getD i 0 := ⟨_, rfl⟩
        rw [← hd] at hxc
        rw [← hf] at hyc
        have Hd := Lib.hid hd
        have Hf := Lib.hid hf
        have Hi := Lib.hid hi
        clear hd hf hA hB hx hy hi
        by_cases heq : d = f
        · subst heq
          have hq : ((d : Int) != (d : Int)) = false := by simp
          go_wp2
          go_quiet (fail)
          go_wp2
          go_roundw
          case rel => exact ⟨k + 1, by omega, by go_num, fun j hj => by
            by_cases h : j = i
            · rw [h, ← Hd.out, ← Hf.out]
            · exact Ht.out j (by have := Hi.out; omega), by exact below_drewN hb _⟩
          case measure => simp [intOf]; omega
        · have hq : ((d : Int) != (f : Int)) = true := by simp; omega
          go_wp2
          go_quiet (fail)
          have hb1 : Below w.heap.size w (wr.drewN nq) := below_drewN hb _
          have hxc1 : (wr.drewN nq).cell? _ = _ := hxc
          have hyc1 : (wr.drewN nq).cell? _ = _ := hyc
          generalize wr.drewN nq = W1 at hb1 hxc1 hyc1 ⊢
          clear hb hxc hyc
          have hres : decide (d < f) = decide (M < N) := by
            rcases Nat.lt_or_ge d f with h | h
            · rw [decide_eq_true h, decide_eq_true (less_top Hne.out hlt Hi.out Ht.out (by rw [← Hd.out, ← Hf.out]; exact h))]
            · have h1 := less_top Hne.out.symm (i := i) (k := k) (by omega) (by rw [← Hne.out]; exact Hi.out) (fun j hj => (Ht.out j (by omega)).symm) (by rw [← Hd.out, ← Hf.out]; omega)
              rw [decide_eq_false (show ¬ d < f by omega), decide_eq_false (show ¬ M < N by omega)]
          have Hres := Lib.hid hres
          clear hres
          go_wp2
          go_quiet (fail)
          go_wp2
          go_ret
          exact ⟨less_ret Hres.out, by exact below_drewN hb1 _⟩
      · have hres : false = decide (M < N) := by
          have h : lim M = lim N := list_ext Hne.out (fun j => Ht.out j (by omega))
          have h1 : M = N := by rw [← lval_lim M, h, lval_lim N]
          rw [decide_eq_false (by omega)]
        have Hres := Lib.hid hres
        clear hres
        go_wp2
        go_ret
        exact ⟨less_ret Hres.out, hb⟩
  · have hn0 : (((lim M).length : Int) != ((lim N).length : Int)) = true := by simp; omega
    have hres : decide ((lim M).length < (lim N).length) = decide (M < N) := by
      rcases Nat.lt_or_ge (lim M).length (lim N).length with h | h
      · rw [decide_eq_true h, decide_eq_true (lim_len_lt h)]
      · have h1 := lim_len_lt (M := N) (N := M) (by omega)
        rw [decide_eq_false (show ¬ (lim M).length < (lim N).length by omega), decide_eq_false (show ¬ M < N by omega)]
    have Hres := Lib.hid hres
    clear hres hne
    go_enter Tryd.func69, Tryd.ntmps69
    go_wp2
    go_ret
    exact ⟨less_ret Hres.out, Below.refl _ _⟩
end Go.Proofs.YtmfinfnjamgboaaDoor
