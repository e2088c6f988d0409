/- nat.oddGcd. -/
import Derived.Test.YtmfinfnjamgboaaDoorDrop
import Derived.Test.YtmfinfnjamgboaaDoorTzs
import Derived.Test.YtmfinfnjamgboaaDoorLess
import Derived.Test.YtmfinfnjamgboaaDoorSub32
namespace Go.Proofs.YtmfinfnjamgboaaDoor
open Go.RowKit NM

/-- The number that a slice of limbs holds in a world. -/
def cellNat (w : World) (a : Addr) : Nat := match w.cell? a with
  | some (.int _ z) => z.toNat
  | _ => 0
def numAt (w : World) : Value → Nat
  | .slice (some a) n _ => lval ((List.range n).map fun j => cellNat w ⟨a.block, a.off + j, none⟩)
  | _ => 0
theorem numAt_win {w : World} {A : Option Addr} {g : Nat} {pre l : _} {post : List Value} {c n : Nat} (hW : Win w A g pre l post) (hn : l.length = n) : numAt w (.slice A n c) = lval l := by
  subst hn
  by_cases h : l = []
  · subst h
    cases A <;> rfl
  · obtain ⟨rfl, hB⟩ := hW h
    have hM : MB w g pre l post := hB
    show lval ((List.range l.length).map fun j => cellNat w ⟨g, pre.length + j, none⟩) = lval l
    congr 1
    apply List.ext_getElem (by simp)
    intro j h1 h2
    rw [List.getElem_map, List.getElem_range]
    have hc := hM.at_ (j := j) h2
    unfold cellNat
    rw [hc]
    show ((l.getD j 0 : Nat) : Int).toNat = l[j]
    rw [List.getD_eq_getElem?_getD, List.getElem?_eq_getElem h2]
    rfl
theorem Win.grown {w w' : World} {A : Option Addr} {g g' : Nat} {pre post : List Value} {l : List Nat} (h : Win w A g pre l post) (hg : w.grownBy w' (some g')) (hne : g ≠ g') : Win w' A g pre l post := fun hl => ⟨(h hl).1, Blk.grown (h hl).2 hg (by intro e; exact hne (Option.some.inj e))⟩
theorem TabC.below {w w' : World} {B : Nat} (h : TabC w) (hb : Below B w w') (hB : 0 < B) : TabC w' := fun j hj => (World.cell?_of_block (hb.block 0 hB)).trans (h j hj)
theorem lim_len_mono {M N : Nat} (h : M ≤ N) : (lim M).length ≤ (lim N).length := by
  rw [lim_length, lim_length]
  exact len_mono (by omega) h
theorem lim_pos {N : Nat} (h : N ≠ 0) : 0 < (lim N).length := List.length_pos_iff.2 (fun e => h (lim_eq_nil.1 e))

theorem dropLowBits_t (A : Option Addr) (g : Nat) (pre : List Value) (N : Nat) (post : List Value) (c t : Nat) (w : World) (hll : (lim N).length ≤ 4294967296) (ht : N = 0 → t = 0) (ht2 : N ≠ 0 → ∃ q, N = 2 ^ t * (2 * q + 1)) (hlc : (lim N).length ≤ c) (hA : Win w A g pre (lim N) post) :
    Calls Tryd.prog 61 #[.slice A (lim N).length c, .int .i64 (t : Int)] w (DropPost g (N / 2 ^ t) w) := by
  obtain ⟨k, s, rfl, hs⟩ : ∃ k s, t = 32 * k + s ∧ s < 32 := ⟨t / 32, t % 32, by omega, by omega⟩
  have hk : k ≤ (lim N).length := by
    by_cases h : N = 0
    · have := ht h
      omega
    · obtain ⟨q, hq⟩ := ht2 h
      have h1 := lval_lt (lim_lt N)
      rw [lval_lim] at h1
      have h2 : 2 ^ (32 * k + s) * 1 ≤ N := by rw [hq]; exact Nat.mul_le_mul_left _ (by omega)
      have h3 : (2 : Nat) ^ (32 * k + s) < 2 ^ (32 * (lim N).length) := by
        rw [Nat.pow_mul]
        exact Nat.lt_of_le_of_lt (by rw [Nat.mul_one] at h2; exact h2) h1
      have := (Nat.pow_lt_pow_iff_right (a := 2) (by omega)).1 h3
      omega
  have := dropLowBits_any A g pre (lim N) post c k s (lim N).length w rfl hll (lim_lt _) hs hk hlc hA
  rw [lval_lim] at this
  rwa [show (32 * (k : Int) + (s : Int)) = ((32 * k + s : Nat) : Int) from by omega] at this

theorem pow_div {t q : Nat} : 2 ^ t * q / 2 ^ t = q := Nat.mul_div_cancel_left _ (Nat.pow_pos (by omega))
theorem gcd_odd_part {t o Q : Nat} (hQ : Q % 2 = 1) : Nat.gcd (2 ^ t * o) Q = Nat.gcd o Q := by
  have h : Nat.Coprime (2 ^ t) Q := by
    apply Nat.Coprime.pow_left
    rw [Nat.coprime_iff_gcd_eq_one, Nat.gcd_rec, hQ]
    decide
  exact Nat.Coprime.gcd_mul_left_cancel _ h
/-- One round: the difference without its twos. -/
theorem odd_step {P Q D t : Nat} (hQ : Q % 2 = 1) (hle : Q ≤ P) (hD : D = P - Q) (ht : D = 0 → t = 0) (ht2 : D ≠ 0 → ∃ q, D = 2 ^ t * (2 * q + 1)) :
    Nat.gcd (D / 2 ^ t) Q = Nat.gcd P Q ∧ (D / 2 ^ t % 2 = 1 ∨ D / 2 ^ t = 0) ∧ D / 2 ^ t < P := by
  have hg : Nat.gcd D Q = Nat.gcd P Q := by
    rw [hD]
    exact Nat.gcd_sub_self_left hle
  refine ⟨?_, ?_, ?_⟩
  · by_cases h : D = 0
    · rw [h, Nat.zero_div, ← h, hg]
    · obtain ⟨q, hq⟩ := ht2 h
      rw [← hg, hq, pow_div, gcd_odd_part hQ]
  · by_cases h : D = 0
    · right
      rw [h, Nat.zero_div]
    · obtain ⟨q, hq⟩ := ht2 h
      left
      rw [hq, pow_div]
      omega
  · have := Nat.div_le_self D (2 ^ t)
    omega

/-- What oddGcd and gcdOfLimbs leave: the limbs of N somewhere in what was made. -/
def GcdPost (base N : Nat) (w : World) (e : Ending) (w' : World) : Prop :=
  ∃ A c g pre post, e = .returned (.slice A (lim N).length c) ∧ Win w' A g pre (lim N) post ∧ (lim N).length ≤ c ∧ Below base w w'
/-- Two slices of limbs in two blocks of what was made. -/
def Two (base K X Y : Nat) (x y : Value) (w : World) : Prop :=
  ∃ A g pre post c B gy prey posty cy, x = .slice A (lim X).length c ∧ y = .slice B (lim Y).length cy ∧ Win w A g pre (lim X) post ∧ Win w B gy prey (lim Y) posty ∧ g ≠ gy ∧ base ≤ g ∧ base ≤ gy ∧ (lim X).length ≤ c ∧ (lim Y).length ≤ cy ∧ (lim X).length ≤ K ∧ (lim Y).length ≤ K
theorem sub_lval {P Q : Nat} : lval (lims (lim P).length (lval (lim P) - lval (lim Q))) = P - Q := by
  rw [lval_lims, lval_lim, lval_lim]
  have h := lval_lt (lim_lt P)
  rw [lval_lim] at h
  exact Nat.mod_eq_of_lt (by omega)
theorem cast_gt {n : Nat} (h : 0 < n) : decide ((0 : Int) < (n : Int)) = true := decide_eq_true (by omega)

set_option maxHeartbeats 4000000 in
theorem oddGcd_any (base K X Y : Nat) (x y : Value) (w : World) (hK : K ≤ 4294967296) (h2 : Two base K X Y x y w) (hX : X % 2 = 1 ∨ X = 0) (hY : Y % 2 = 1) (hbase : base ≤ w.heap.size) (hT : TabC w) (htab : 0 < base) :
    Calls Tryd.prog 60 #[x, y] w (GcdPost base (Nat.gcd X Y) w) := by
  obtain ⟨G, hG⟩ : ∃ G, G = Nat.gcd X Y := ⟨_, rfl⟩
  rw [← hG]
  go_enter Tryd.func60, Tryd.ntmps60
  go_wp2_with fail
  go_loopw [0, 1] (fun x y wr => ∃ X Y, Two base K X Y x y wr ∧ (X % 2 = 1 ∨ X = 0) ∧ Y % 2 = 1 ∧ Nat.gcd X Y = G ∧ Below base w wr) (fun x y wr => numAt wr x + numAt wr y)
  case atStart => exact ⟨X, Y, h2, hX, hY, hG.symm, Below.refl _ _⟩
  case round =>
    clear h2 hX hY hG X Y x y
    obtain ⟨X, Y, ⟨A, g, pre, post, c, B, gy, prey, posty, cy, rfl, rfl, hA, hB, hne, hg1, hg2, hc1, hc2, hk1, hk2⟩, hX, hY, hG, hb⟩ := hrel
    have hTr := hT.below hb htab
    have hsz : base ≤ wr.heap.size := Nat.le_trans hbase hb.size
    by_cases hz : X = 0
    · have e : lim X = [] := by rw [hz]; rfl
      have el : (lim X).length = 0 := by rw [e]; rfl
      have eY : Y = G := by rw [← hG, hz, Nat.gcd_zero_left]
      subst eY
      rw [el]
      go_wp2_with fail
      go_ret
      exact ⟨B, cy, gy, prey, posty, rfl, hB, hc2, hb⟩
    · have hX1 : X % 2 = 1 := by omega
      have hp := lim_pos hz
      have hpY := lim_pos (N := Y) (by omega)
      have hmeas : numAt wr (.slice A (lim X).length c) + numAt wr (.slice B (lim Y).length cy) = X + Y := by rw [numAt_win hA rfl, numAt_win hB rfl, lval_lim, lval_lim]
      go_wp2_with fail
      refine (less_any A B X Y c cy _ (by omega) (by omega) hA.rd hB.rd).mono ?_
      rintro e w1 ⟨rfl, hb1⟩
      have hA1 := hA.keep hb1
      have hB1 := hB.keep hb1
      have hbb := hb.trans (hb1.mono hsz)
      have hsz1 : base ≤ w1.heap.size := Nat.le_trans hsz hb1.size
      have hT1 := hT.below hbb htab
      clear hA hB hb1 hb hsz
      by_cases hlt : X < Y
      · rw [decide_eq_true hlt]
        have hle : X ≤ Y := by omega
        clear hlt
        go_wp2_with fail
        refine (subtract_any B A gy g prey pre posty post (lim Y) (lim X) cy c (lim Y).length (lim X).length _ rfl rfl (lim_len_mono hle) (by omega) (lim_lt _) (lim_lt _) (by rw [lval_lim, lval_lim]; exact hle) hB1 hA1 hne.symm).mono ?_
        rintro e w2 ⟨rfl, hl2, hM2, hgr2, hA2⟩
        have hPne : lim Y ≠ [] := List.length_pos_iff.1 (by omega)
        have hW2 : Win w2 B gy prey (lims (lim Y).length (lval (lim Y) - lval (lim X))) posty := fun _ => ⟨hA2 hPne, hM2 hPne⟩
        have hQ2 := hA1.grown hgr2 hne
        have hbb2 := hbb.grown hgr2 hsz1 (fun k hk => by injection hk with hk; omega)
        have hsz2 : base ≤ w2.heap.size := Nat.le_trans hsz1 hgr2.size
        clear hM2 hgr2 hA2 hbb hsz1 hA1 hB1
        obtain ⟨D, hD⟩ : ∃ D, D = Y - X := ⟨_, rfl⟩
        have hdl : (lim D).length ≤ (lim Y).length := lim_len_mono (by omega)
        have HD := Lib.hid hD
        clear hD
        go_wp2_with fail
        refine (trim_at (g := gy) (N := D) (by rw [lims_length]) (by omega) (by omega) (lims_lt _ _) (by rw [sub_lval, HD.out]) hW2).mono ?_
        rintro e w3 ⟨A3, c3, pre3, post3, rfl, hW3, hc3, hgr3⟩
        have hQ3 := hQ2.grown hgr3 hne
        have hbb3 := hbb2.grown hgr3 hsz2 (fun k hk => by injection hk with hk; omega)
        have hsz3 : base ≤ w3.heap.size := Nat.le_trans hsz2 hgr3.size
        have hT3 := hT.below hbb3 htab
        clear hW2 hQ2 hgr3 hbb2 hsz2
        go_wp2_with fail
        refine (trailingZeros_any A3 (lim D) c3 _ (by omega) (lim_lt _) hW3.rd hT3).mono ?_
        rintro e w4 ⟨t, rfl, ht0, ht1, rfl⟩
        rw [lval_lim] at ht0 ht1
        have hstep := odd_step hX1 hle HD.out ht0 ht1
        go_wp2_with fail
        refine (dropLowBits_t A3 gy pre3 D post3 c3 t _ (by omega) ht0 ht1 hc3 hW3).mono ?_
        rintro e w5 ⟨A5, c5, pre5, post5, rfl, hW5, hc5, hgr5⟩
        have hQ5 := hQ3.grown hgr5 hne
        have hbb5 := hbb3.grown hgr5 hsz3 (fun k hk => by injection hk with hk; omega)
        have hdl5 : (lim (D / 2 ^ t)).length ≤ (lim Y).length := lim_len_mono (by omega)
        go_wp2_with fail
        go_roundw
        case rel => exact ⟨D / 2 ^ t, X, ⟨A5, gy, pre5, post5, c5, A, g, pre, post, c, rfl, rfl, hW5, hQ5, hne.symm, hg2, hg1, hc5, hc1, by omega, by omega⟩, hstep.2.1, hX1, hstep.1.trans ((Nat.gcd_comm _ _).trans hG), hbb5⟩
        case measure =>
          rw [hmeas, numAt_win hW5 rfl, numAt_win hQ5 rfl, lval_lim, lval_lim]
          have := hstep.2.2
          omega
      · rw [decide_eq_false hlt]
        have hle : Y ≤ X := by omega
        clear hlt
        go_wp2_with fail
        refine (subtract_any A B g gy pre prey post posty (lim X) (lim Y) c cy (lim X).length (lim Y).length _ rfl rfl (lim_len_mono hle) (by omega) (lim_lt _) (lim_lt _) (by rw [lval_lim, lval_lim]; exact hle) hA1 hB1 hne).mono ?_
        rintro e w2 ⟨rfl, hl2, hM2, hgr2, hA2⟩
        have hPne : lim X ≠ [] := List.length_pos_iff.1 (by omega)
        have hW2 : Win w2 A g pre (lims (lim X).length (lval (lim X) - lval (lim Y))) post := fun _ => ⟨hA2 hPne, hM2 hPne⟩
        have hQ2 := hB1.grown hgr2 hne.symm
        have hbb2 := hbb.grown hgr2 hsz1 (fun k hk => by injection hk with hk; omega)
        have hsz2 : base ≤ w2.heap.size := Nat.le_trans hsz1 hgr2.size
        clear hM2 hgr2 hA2 hbb hsz1 hA1 hB1
        obtain ⟨D, hD⟩ : ∃ D, D = X - Y := ⟨_, rfl⟩
        have hdl : (lim D).length ≤ (lim X).length := lim_len_mono (by omega)
        have HD := Lib.hid hD
        clear hD
        go_wp2_with fail
        refine (trim_at (g := g) (N := D) (by rw [lims_length]) (by omega) (by omega) (lims_lt _ _) (by rw [sub_lval, HD.out]) hW2).mono ?_
        rintro e w3 ⟨A3, c3, pre3, post3, rfl, hW3, hc3, hgr3⟩
        have hQ3 := hQ2.grown hgr3 hne.symm
        have hbb3 := hbb2.grown hgr3 hsz2 (fun k hk => by injection hk with hk; omega)
        have hsz3 : base ≤ w3.heap.size := Nat.le_trans hsz2 hgr3.size
        have hT3 := hT.below hbb3 htab
        clear hW2 hQ2 hgr3 hbb2 hsz2
        go_wp2_with fail
        refine (trailingZeros_any A3 (lim D) c3 _ (by omega) (lim_lt _) hW3.rd hT3).mono ?_
        rintro e w4 ⟨t, rfl, ht0, ht1, rfl⟩
        rw [lval_lim] at ht0 ht1
        have hstep := odd_step hY hle HD.out ht0 ht1
        go_wp2_with fail
        refine (dropLowBits_t A3 g pre3 D post3 c3 t _ (by omega) ht0 ht1 hc3 hW3).mono ?_
        rintro e w5 ⟨A5, c5, pre5, post5, rfl, hW5, hc5, hgr5⟩
        have hQ5 := hQ3.grown hgr5 hne.symm
        have hbb5 := hbb3.grown hgr5 hsz3 (fun k hk => by injection hk with hk; omega)
        have hdl5 : (lim (D / 2 ^ t)).length ≤ (lim X).length := lim_len_mono (by omega)
        go_wp2_with fail
        go_roundw
        case rel => exact ⟨D / 2 ^ t, Y, ⟨A5, g, pre5, post5, c5, B, gy, prey, posty, cy, rfl, rfl, hW5, hQ5, hne, hg1, hg2, hc5, hc2, by omega, by omega⟩, hstep.2.1, hY, hstep.1.trans hG, hbb5⟩
        case measure =>
          rw [hmeas, numAt_win hW5 rfl, numAt_win hQ5 rfl, lval_lim, lval_lim]
          have := hstep.2.2
          omega
end Go.Proofs.YtmfinfnjamgboaaDoor
