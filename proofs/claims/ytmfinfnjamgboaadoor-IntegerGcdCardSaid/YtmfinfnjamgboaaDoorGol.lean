/- nat.gcdOfLimbs. -/
import Derived.Test.YtmfinfnjamgboaaDoorOddGcd
import Derived.Test.YtmfinfnjamgboaaDoorExt
import Derived.Test.YtmfinfnjamgboaaDoorDiv
import Derived.Deep.RegionWith
namespace Go.Proofs.YtmfinfnjamgboaaDoor
open Go.RowKit NM

theorem gcd_twos' {t1 t2 o1 o2 : Nat} (h : t1 ≤ t2) (h1 : o1 % 2 = 1) : Nat.gcd (2 ^ t1 * o1) (2 ^ t2 * o2) = 2 ^ t1 * Nat.gcd o1 o2 := by
  obtain ⟨d, rfl⟩ : ∃ d, t2 = t1 + d := ⟨t2 - t1, by omega⟩
  rw [Nat.pow_add, Nat.mul_assoc, Nat.gcd_mul_left, Nat.gcd_comm, gcd_odd_part h1, Nat.gcd_comm]
theorem gcd_twos {t1 t2 o1 o2 : Nat} (h1 : o1 % 2 = 1) (h2 : o2 % 2 = 1) : Nat.gcd (2 ^ t1 * o1) (2 ^ t2 * o2) = 2 ^ (min t1 t2) * Nat.gcd o1 o2 := by
  rcases Nat.le_total t1 t2 with h | h
  · rw [Nat.min_eq_left h, gcd_twos' h h1]
  · rw [Nat.min_eq_right h, Nat.gcd_comm, gcd_twos' h h2, Nat.gcd_comm o2]
/-- What gcdOfLimbs leaves. -/
def GolPost (base G : Nat) (w : World) (e : Ending) (w' : World) : Prop :=
  ∃ A c L, e = .returned (.slice A (List.length L) c) ∧ llt L ∧ lval L = G ∧ Rd w' A L ∧ L.length ≤ 17179869184 ∧ Below base w w'
theorem gol_lim {base N c : Nat} {A : Option Addr} {g : Nat} {pre post : List Value} {w w' : World} (h : Win w' A g pre (lim N) post) (hl : (lim N).length ≤ 17179869184) (hb : Below base w w') : GolPost base N w (.returned (.slice A (lim N).length c)) w' :=
  ⟨A, c, lim N, rfl, lim_lt _, lval_lim _, h.rd, hl, hb⟩
theorem gol_own {base k s G1 G : Nat} {w w' : World} {v : Value} {S : List Nat} (ho : Own w' base 54 .u32 v (List.replicate k 0 ++ S)) (hS : llt S) (hv : lval S = G1 * 2 ^ s) (hG : G = 2 ^ (32 * k + s) * G1) (hl : k + S.length ≤ 17179869184) (hb : Below base w w') :
    GolPost base G w (.returned v) w' := by
  obtain ⟨A, c, rfl, h⟩ := ho.form
  refine ⟨A, c, List.replicate k 0 ++ S, rfl, lt_append (fun x hx => by rw [List.mem_replicate] at hx; omega) hS, ?_, ho.rd rfl, by rw [List.length_append, List.length_replicate]; exact hl, hb⟩
  show val 4294967296 (List.replicate k 0 ++ S) = G
  have hv' : val 4294967296 S = G1 * 2 ^ s := hv
  rw [val_append, val_zeros, Nat.zero_add, List.length_replicate, hv', hG, Nat.pow_add, show (2 : Nat) ^ (32 * k) = 4294967296 ^ k from by rw [Nat.pow_mul], Nat.mul_assoc, Nat.mul_comm G1]
theorem odd_of {N t : Nat} (h0 : N ≠ 0) (h : N ≠ 0 → ∃ q, N = 2 ^ t * (2 * q + 1)) : N = 2 ^ t * (N / 2 ^ t) ∧ N / 2 ^ t % 2 = 1 ∧ t ≤ 32 * (lim N).length := by
  obtain ⟨q, hq⟩ := h h0
  have e : N / 2 ^ t = 2 * q + 1 := by
    conv => lhs; rw [hq]
    exact pow_div
  refine ⟨by rw [e]; exact hq, by omega, ?_⟩
  have h1 := lval_lt (lim_lt N)
  rw [lval_lim] at h1
  have h2 : 2 ^ t * 1 ≤ N := by rw [hq]; exact Nat.mul_le_mul_left _ (by omega)
  have h3 : (2 : Nat) ^ t < 2 ^ (32 * (lim N).length) := by
    rw [Nat.pow_mul]
    exact Nat.lt_of_le_of_lt (by rw [Nat.mul_one] at h2; exact h2) h1
  have := (Nat.pow_lt_pow_iff_right (a := 2) (by omega)).1 h3
  omega

set_option maxHeartbeats 2000000 in
theorem gcdOfLimbs_any (base gx gy M N : Nat) (w : World) (hM : (lim M).length ≤ 268435456) (hN : (lim N).length ≤ 268435456) (hx : LB w gx (lim M)) (hy : LB w gy (lim N)) (hne : gx ≠ gy) (hgx : base ≤ gx) (hgy : base ≤ gy) (hsz : base ≤ w.heap.size) (hT : TabC w) (htab : 0 < base) :
    Calls Tryd.prog 51 #[.slice (some ⟨gx, 0, none⟩) (lim M).length (lim M).length, .slice (some ⟨gy, 0, none⟩) (lim N).length (lim N).length] w (GolPost base (Nat.gcd M N) w) := by
  obtain ⟨G, hG⟩ : ∃ G, G = Nat.gcd M N := ⟨_, rfl⟩
  rw [← hG]
  have HG0 := Lib.hid hG
  clear hG
  have hb := Below.refl base w
  by_cases hlt : (lim M).length < (lim N).length
  · have HG : _ := Lib.hid ((Nat.gcd_comm N M).trans HG0.out.symm)
    have hWP : Win w (some ⟨gy, 0, none⟩) gy [] (lim N) [] := Win.of_LB hy
    have hWQ : Win w (some ⟨gx, 0, none⟩) gx [] (lim M) [] := Win.of_LB hx
    by_cases hq : M = 0
    · have el : (lim M).length = 0 := by rw [hq]; rfl
      have eG : N = G := by rw [← HG.out, hq, Nat.gcd_zero_right]
      subst eG
      have hQ1 : (((lim M).length : Int) == 0) = true := by rw [el]; rfl
      have el0 : (lim M).length ≤ 0 := by omega
      clear el hq
      go_enter Tryd.func51, Tryd.ntmps51
      go_wp2_with fail
      go_ret
      exact gol_lim hWP (by omega) hb
    · have hQp := lim_pos hq
      have hQ1 : (((lim M).length : Int) == 0) = false := beq_eq_false_iff_ne.2 (by omega)
      have hPX : N ≠ 0 := fun e => by
        have : (lim N).length = 0 := by rw [e]; rfl
        omega
      by_cases hlen : (lim M).length < (lim N).length
      · go_enter Tryd.func51, Tryd.ntmps51
        go_wp2_with fail
        refine (divide_any gy gx N M _ (by omega) (by omega) hq hy hx).mono ?_
        rintro e w1 ⟨Aq, cq, Lq, Ar, cr, Lr, gr, prer, postr, rfl, hq1, hq2, hq3, hq4, hr1, hr2, hr3, hr4, hr5, hr6, hg1⟩
        have hQ1w := hWQ.grown hg1 hne
        have hb1 := hb.grown hg1 hsz (fun k hk => by injection hk with hk; omega)
        have hsz1 : base ≤ w1.heap.size := Nat.le_trans hsz hg1.size
        have hgr : base ≤ gr := by rcases hr4 with h | h <;> omega
        have hQlt : gx < w.heap.size := Blk.lt hx
        have hgrne : gr ≠ gx := by rcases hr4 with h | h <;> omega
        have Hq := Lib.hid (And.intro hq1 (And.intro hq2 (And.intro hq3 hq4)))
        clear hq1 hq2 hq3 hq4
        obtain ⟨R, hR⟩ : ∃ R, R = N % M := ⟨_, rfl⟩
        have HR := Lib.hid hR
        have hrq : (lim R).length ≤ (lim M).length := lim_len_mono (by rw [hR]; exact Nat.le_of_lt (Nat.mod_lt _ (Nat.pos_of_ne_zero hq)))
        clear hR
        go_wp2_with fail
        refine (trim_at (g := gr) (N := R) rfl (by omega) hr5 hr1 (by rw [hr2, HR.out]) hr3).mono ?_
        rintro e w2 ⟨A2, c2, pre2, post2, rfl, hW2, hc2, hg2⟩
        have hQ2w := hQ1w.grown hg2 hgrne.symm
        have hb2 := hb1.grown hg2 hsz1 (fun k hk => by injection hk with hk; omega)
        have hsz2 : base ≤ w2.heap.size := Nat.le_trans hsz1 hg2.size
        have hGR : Nat.gcd M R = G := by rw [HR.out, ← HG.out, Nat.gcd_comm N, Nat.gcd_rec M N, Nat.gcd_comm]
        have HGR := Lib.hid hGR
        clear hGR hb1 hsz1 hQ1w hr3 hr4 hr1 hr2
        by_cases hR0 : R = 0
        · have el : (lim R).length = 0 := by rw [hR0]; rfl
          have hR1 : (((lim R).length : Int) == 0) = true := by rw [el]; rfl
          have eG : M = G := by rw [← HGR.out, hR0, Nat.gcd_zero_right]
          subst eG
          clear el hR0
          go_wp2_with fail
          go_ret
          exact gol_lim hQ2w (by omega) hb2
        · have hR1 : (((lim R).length : Int) == 0) = false := beq_eq_false_iff_ne.2 (by have := lim_pos hR0; omega)
          go_wp2_with fail
          refine (trailingZeros_any (some ⟨gx, 0, none⟩) (lim M) (lim M).length _ (by omega) (lim_lt _) hQ2w.rd (hT.below hb2 htab)).mono ?_
          rintro e w3 ⟨t1, rfl, ht0, ht1, rfl⟩
          rw [lval_lim] at ht0 ht1
          go_wp2_with fail
          refine (trailingZeros_any A2 (lim R) c2 _ (by omega) (lim_lt _) hW2.rd (hT.below hb2 htab)).mono ?_
          rintro e w3 ⟨t2, rfl, ht2, ht3, rfl⟩
          rw [lval_lim] at ht2 ht3
          obtain ⟨eu, ou, bu⟩ := odd_of hq ht1
          obtain ⟨ev, ov, bv⟩ := odd_of hR0 ht3
          obtain ⟨X1, hX1⟩ : ∃ X1, X1 = M / 2 ^ t1 := ⟨_, rfl⟩
          obtain ⟨Y1, hY1⟩ : ∃ Y1, Y1 = R / 2 ^ t2 := ⟨_, rfl⟩
          have lx : (lim X1).length ≤ (lim M).length := lim_len_mono (by rw [hX1]; exact Nat.div_le_self _ _)
          have ly : (lim Y1).length ≤ (lim R).length := lim_len_mono (by rw [hY1]; exact Nat.div_le_self _ _)
          rw [← hX1] at eu ou
          rw [← hY1] at ev ov
          obtain ⟨T, hTT⟩ : ∃ T, T = min t1 t2 := ⟨_, rfl⟩
          have eG : G = 2 ^ T * Nat.gcd X1 Y1 := by rw [← HGR.out, hTT, ← gcd_twos ou ov, ← eu, ← ev]
          have EG := Lib.hid eG
          have HX1 := Lib.hid hX1
          have HY1 := Lib.hid hY1
          have HEU := Lib.hid (And.intro eu ev)
          have HT0 := Lib.hid (And.intro ht0 (And.intro ht1 (And.intro ht2 ht3)))
          have hTb : T ≤ 32 * 268435456 := by omega
          obtain ⟨kk, ss, hks, hss⟩ : ∃ kk ss, T = 32 * kk + ss ∧ ss < 32 := ⟨T / 32, T % 32, by omega, by omega⟩
          clear eG hX1 hY1 eu ev ht0 ht1 ht2 ht3
          go_wp2_with fail
          refine (dropLowBits_t (some ⟨gx, 0, none⟩) gx [] M [] (lim M).length t1 _ (by omega) HT0.out.1 HT0.out.2.1 (Nat.le_refl _) hQ2w).mono ?_
          rw [← HX1.out]
          rintro e w4 ⟨A4, c4, pre4, post4, rfl, hW4, hc4, hg4⟩
          have hV4 := hW2.grown hg4 hgrne
          have hb4 := hb2.grown hg4 hsz2 (fun k hk => by injection hk with hk; omega)
          have hsz4 : base ≤ w4.heap.size := Nat.le_trans hsz2 hg4.size
          go_wp2_with fail
          refine (dropLowBits_t A2 gr pre2 R post2 c2 t2 _ (by omega) HT0.out.2.2.1 HT0.out.2.2.2 hc2 hV4).mono ?_
          rw [← HY1.out]
          rintro e w5 ⟨A5, c5, pre5, post5, rfl, hW5, hc5, hg5⟩
          have hW4' := hW4.grown hg5 hgrne.symm
          have hb5 := hb4.grown hg5 hsz4 (fun k hk => by injection hk with hk; omega)
          have hsz5 : base ≤ w5.heap.size := Nat.le_trans hsz4 hg5.size
          go_wp2_with fail
          refine (oddGcd_any base 268435456 X1 Y1 _ _ _ (by omega) ⟨A4, gx, pre4, post4, c4, A5, gr, pre5, post5, c5, rfl, rfl, hW4', hW5, hgrne.symm, hgx, hgr, hc4, hc5, by omega, by omega⟩ (.inl ou) ov hsz5 (hT.below hb5 htab) htab).mono ?_
          rintro e w6 ⟨A6, c6, g6, pre6, post6, rfl, hW6, hc6, hb56⟩
          have hb6 := hb5.trans hb56
          have hsz6 : base ≤ w6.heap.size := Nat.le_trans hsz5 hb56.size
          obtain ⟨G1, hG1⟩ : ∃ G1, G1 = Nat.gcd X1 Y1 := ⟨_, rfl⟩
          have eG2 : G = 2 ^ (32 * kk + ss) * G1 := by rw [hG1, ← hks]; exact EG.out
          have hG1l : (lim G1).length ≤ 268435456 := Nat.le_trans (lim_len_mono (by rw [hG1]; exact Nat.gcd_le_left _ (by omega))) (Nat.le_trans lx (by omega))
          rw [← hG1] at hW6 hc6 ⊢
          have EG2 := Lib.hid eG2
          have e1 : (T : Int) / 32 = (kk : Int) := by omega
          have e2 : (T : Int) % 32 = (ss : Int) := by omega
          have hkb : kk ≤ 268435456 := by omega
          have emin : min (t1 : Int) (t2 : Int) = (T : Int) := by omega
          have HTT := Lib.hid hTT
          clear hTT
          clear eG2 hG1 hks hW4 hV4 hb4 hsz4 hW4' hW5 hb5 hb56 hsz5
          go_wp2_with fail
          have hmk := fun W : World => zeros_run W kk (by omega)
          have hwk : IntKind.i64.wrap (kk : Int) = (kk : Int) := by rw [IntKind.wrap_i64]; omega
          have e3 : (T : Int).tmod 32 = (ss : Int) := by rw [Int.tmod_eq_emod_of_nonneg (by omega)]; exact e2
          have el2 := lval_lim G1
          have EL := Lib.hid el2
          have Hsh := Lib.hid (fun (W : World) (h : Rd W A6 (lim G1)) => shiftLeft_any A6 (lim G1) c6 ss W (by omega) (lim_lt _) hss h)
          have hal := (Below.refl w6.heap.size w6).alloc (Nat.le_refl _) (zerosObj kk)
          have hO6 := zeros_own w6 kk base hsz6 (by omega)
          have hWr : Rd w6.drew A6 (lim G1) := hW6.rd
          have hWa : Rd (w6.alloc (zerosObj kk)).drew A6 (lim G1) := (hW6.keep hal).rd
          have hba : Below base w (w6.alloc (zerosObj kk)).drew := (hb6.alloc hsz6 (zerosObj kk)).drew
          have hsa : base ≤ (w6.alloc (zerosObj kk)).drew.heap.size := Nat.le_trans hsz6 hal.size
          have hbd : Below base w w6.drew := hb6.drew
          have hsd : base ≤ w6.drew.heap.size := hsz6
          have HX := Lib.hid (And.intro hal (And.intro hWr (And.intro hWa (And.intro hba (And.intro hsa (And.intro hbd (And.intro hsd hO6.drew)))))))
          clear el2 hal hO6 hWr hWa hba hsa hbd hsd hW6 hb6 hsz6
          go_region_law (first
            | (go_simp; go_at_call 62; first
               | (refine (Hsh.out _ HX.out.2.2.1).mono ?_
                  rintro e ws ⟨S, hSl, hSlt, hSv, gS, hgS, rfl, hSB, hbs⟩
                  have hOa := Own.below HX.out.2.2.2.2.2.2.2 hbs
                  have hcur := HX.out.2.2.2.1.trans (hbs.mono HX.out.2.2.2.2.1)
                  have hszc : base ≤ ws.heap.size := Nat.le_trans HX.out.2.2.2.2.1 hbs.size)
               | (refine (Hsh.out _ HX.out.2.1).mono ?_
                  rintro e ws ⟨S, hSl, hSlt, hSv, gS, hgS, rfl, hSB, hbs⟩
                  have hcur := HX.out.2.2.2.2.2.1.trans (hbs.mono HX.out.2.2.2.2.2.2.1)
                  have hszc : base ≤ ws.heap.size := Nat.le_trans HX.out.2.2.2.2.2.2.1 hbs.size))
            | (refine step_extend rfl _ _ 53 rfl base 54 .u32 4 Tryd.underlying53 row_u32 _ (List.replicate kk 0) rfl gS ((lim G1).length + 1) ((lim G1).length + 1) S rfl hSl (by decide) hOa hSB (by rw [List.length_replicate]; omega) (by omega) hszc ?_
               intro v' wv hOv hbv
               replace hcur := hcur.trans hbv)
            | (refine step_extend rfl _ _ 53 rfl base 54 .u32 4 Tryd.underlying53 row_u32 _ (List.replicate kk 0) rfl gS ((lim G1).length + 1) ((lim G1).length + 1) S rfl hSl (by decide) (zeros_own ws kk base hszc (by omega)) (Blk.alloc hSB _) (by rw [List.length_replicate]; omega) (by omega) (Nat.le_trans hszc ((Below.refl ws.heap.size ws).alloc (Nat.le_refl _) _).size) ?_
               intro v' wv hOv hbv
               replace hcur := (hcur.alloc hszc (zerosObj kk)).trans hbv))
          all_goals
            go_wp2
            go_ret
            exact gol_own hOv hSlt (by rw [hSv, EL.out]) EG2.out (by omega) hcur
      · exact absurd hlt hlen
  · have HG : _ := Lib.hid (HG0.out.symm)
    have hWP : Win w (some ⟨gx, 0, none⟩) gx [] (lim M) [] := Win.of_LB hx
    have hWQ : Win w (some ⟨gy, 0, none⟩) gy [] (lim N) [] := Win.of_LB hy
    by_cases hq : N = 0
    · have el : (lim N).length = 0 := by rw [hq]; rfl
      have eG : M = G := by rw [← HG.out, hq, Nat.gcd_zero_right]
      subst eG
      have hQ1 : (((lim N).length : Int) == 0) = true := by rw [el]; rfl
      have el0 : (lim N).length ≤ 0 := by omega
      clear el hq
      go_enter Tryd.func51, Tryd.ntmps51
      go_wp2_with fail
      go_ret
      exact gol_lim hWP (by omega) hb
    · have hQp := lim_pos hq
      have hQ1 : (((lim N).length : Int) == 0) = false := beq_eq_false_iff_ne.2 (by omega)
      have hPX : M ≠ 0 := fun e => by
        have : (lim M).length = 0 := by rw [e]; rfl
        omega
      by_cases hlen : (lim N).length < (lim M).length
      · go_enter Tryd.func51, Tryd.ntmps51
        go_wp2_with fail
        refine (divide_any gx gy M N _ (by omega) (by omega) hq hx hy).mono ?_
        rintro e w1 ⟨Aq, cq, Lq, Ar, cr, Lr, gr, prer, postr, rfl, hq1, hq2, hq3, hq4, hr1, hr2, hr3, hr4, hr5, hr6, hg1⟩
        have hQ1w := hWQ.grown hg1 hne.symm
        have hb1 := hb.grown hg1 hsz (fun k hk => by injection hk with hk; omega)
        have hsz1 : base ≤ w1.heap.size := Nat.le_trans hsz hg1.size
        have hgr : base ≤ gr := by rcases hr4 with h | h <;> omega
        have hQlt : gy < w.heap.size := Blk.lt hy
        have hgrne : gr ≠ gy := by rcases hr4 with h | h <;> omega
        have Hq := Lib.hid (And.intro hq1 (And.intro hq2 (And.intro hq3 hq4)))
        clear hq1 hq2 hq3 hq4
        obtain ⟨R, hR⟩ : ∃ R, R = M % N := ⟨_, rfl⟩
        have HR := Lib.hid hR
        have hrq : (lim R).length ≤ (lim N).length := lim_len_mono (by rw [hR]; exact Nat.le_of_lt (Nat.mod_lt _ (Nat.pos_of_ne_zero hq)))
        clear hR
        go_wp2_with fail
        refine (trim_at (g := gr) (N := R) rfl (by omega) hr5 hr1 (by rw [hr2, HR.out]) hr3).mono ?_
        rintro e w2 ⟨A2, c2, pre2, post2, rfl, hW2, hc2, hg2⟩
        have hQ2w := hQ1w.grown hg2 hgrne.symm
        have hb2 := hb1.grown hg2 hsz1 (fun k hk => by injection hk with hk; omega)
        have hsz2 : base ≤ w2.heap.size := Nat.le_trans hsz1 hg2.size
        have hGR : Nat.gcd N R = G := by rw [HR.out, ← HG.out, Nat.gcd_comm M, Nat.gcd_rec N M, Nat.gcd_comm]
        have HGR := Lib.hid hGR
        clear hGR hb1 hsz1 hQ1w hr3 hr4 hr1 hr2
        by_cases hR0 : R = 0
        · have el : (lim R).length = 0 := by rw [hR0]; rfl
          have hR1 : (((lim R).length : Int) == 0) = true := by rw [el]; rfl
          have eG : N = G := by rw [← HGR.out, hR0, Nat.gcd_zero_right]
          subst eG
          clear el hR0
          go_wp2_with fail
          go_ret
          exact gol_lim hQ2w (by omega) hb2
        · have hR1 : (((lim R).length : Int) == 0) = false := beq_eq_false_iff_ne.2 (by have := lim_pos hR0; omega)
          go_wp2_with fail
          refine (trailingZeros_any (some ⟨gy, 0, none⟩) (lim N) (lim N).length _ (by omega) (lim_lt _) hQ2w.rd (hT.below hb2 htab)).mono ?_
          rintro e w3 ⟨t1, rfl, ht0, ht1, rfl⟩
          rw [lval_lim] at ht0 ht1
          go_wp2_with fail
          refine (trailingZeros_any A2 (lim R) c2 _ (by omega) (lim_lt _) hW2.rd (hT.below hb2 htab)).mono ?_
          rintro e w3 ⟨t2, rfl, ht2, ht3, rfl⟩
          rw [lval_lim] at ht2 ht3
          obtain ⟨eu, ou, bu⟩ := odd_of hq ht1
          obtain ⟨ev, ov, bv⟩ := odd_of hR0 ht3
          obtain ⟨X1, hX1⟩ : ∃ X1, X1 = N / 2 ^ t1 := ⟨_, rfl⟩
          obtain ⟨Y1, hY1⟩ : ∃ Y1, Y1 = R / 2 ^ t2 := ⟨_, rfl⟩
          have lx : (lim X1).length ≤ (lim N).length := lim_len_mono (by rw [hX1]; exact Nat.div_le_self _ _)
          have ly : (lim Y1).length ≤ (lim R).length := lim_len_mono (by rw [hY1]; exact Nat.div_le_self _ _)
          rw [← hX1] at eu ou
          rw [← hY1] at ev ov
          obtain ⟨T, hTT⟩ : ∃ T, T = min t1 t2 := ⟨_, rfl⟩
          have eG : G = 2 ^ T * Nat.gcd X1 Y1 := by rw [← HGR.out, hTT, ← gcd_twos ou ov, ← eu, ← ev]
          have EG := Lib.hid eG
          have HX1 := Lib.hid hX1
          have HY1 := Lib.hid hY1
          have HEU := Lib.hid (And.intro eu ev)
          have HT0 := Lib.hid (And.intro ht0 (And.intro ht1 (And.intro ht2 ht3)))
          have hTb : T ≤ 32 * 268435456 := by omega
          obtain ⟨kk, ss, hks, hss⟩ : ∃ kk ss, T = 32 * kk + ss ∧ ss < 32 := ⟨T / 32, T % 32, by omega, by omega⟩
          clear eG hX1 hY1 eu ev ht0 ht1 ht2 ht3
          go_wp2_with fail
          refine (dropLowBits_t (some ⟨gy, 0, none⟩) gy [] N [] (lim N).length t1 _ (by omega) HT0.out.1 HT0.out.2.1 (Nat.le_refl _) hQ2w).mono ?_
          rw [← HX1.out]
          rintro e w4 ⟨A4, c4, pre4, post4, rfl, hW4, hc4, hg4⟩
          have hV4 := hW2.grown hg4 hgrne
          have hb4 := hb2.grown hg4 hsz2 (fun k hk => by injection hk with hk; omega)
          have hsz4 : base ≤ w4.heap.size := Nat.le_trans hsz2 hg4.size
          go_wp2_with fail
          refine (dropLowBits_t A2 gr pre2 R post2 c2 t2 _ (by omega) HT0.out.2.2.1 HT0.out.2.2.2 hc2 hV4).mono ?_
          rw [← HY1.out]
          rintro e w5 ⟨A5, c5, pre5, post5, rfl, hW5, hc5, hg5⟩
          have hW4' := hW4.grown hg5 hgrne.symm
          have hb5 := hb4.grown hg5 hsz4 (fun k hk => by injection hk with hk; omega)
          have hsz5 : base ≤ w5.heap.size := Nat.le_trans hsz4 hg5.size
          go_wp2_with fail
          refine (oddGcd_any base 268435456 X1 Y1 _ _ _ (by omega) ⟨A4, gy, pre4, post4, c4, A5, gr, pre5, post5, c5, rfl, rfl, hW4', hW5, hgrne.symm, hgy, hgr, hc4, hc5, by omega, by omega⟩ (.inl ou) ov hsz5 (hT.below hb5 htab) htab).mono ?_
          rintro e w6 ⟨A6, c6, g6, pre6, post6, rfl, hW6, hc6, hb56⟩
          have hb6 := hb5.trans hb56
          have hsz6 : base ≤ w6.heap.size := Nat.le_trans hsz5 hb56.size
          obtain ⟨G1, hG1⟩ : ∃ G1, G1 = Nat.gcd X1 Y1 := ⟨_, rfl⟩
          have eG2 : G = 2 ^ (32 * kk + ss) * G1 := by rw [hG1, ← hks]; exact EG.out
          have hG1l : (lim G1).length ≤ 268435456 := Nat.le_trans (lim_len_mono (by rw [hG1]; exact Nat.gcd_le_left _ (by omega))) (Nat.le_trans lx (by omega))
          rw [← hG1] at hW6 hc6 ⊢
          have EG2 := Lib.hid eG2
          have e1 : (T : Int) / 32 = (kk : Int) := by omega
          have e2 : (T : Int) % 32 = (ss : Int) := by omega
          have hkb : kk ≤ 268435456 := by omega
          have emin : min (t1 : Int) (t2 : Int) = (T : Int) := by omega
          have HTT := Lib.hid hTT
          clear hTT
          clear eG2 hG1 hks hW4 hV4 hb4 hsz4 hW4' hW5 hb5 hb56 hsz5
          go_wp2_with fail
          have hmk := fun W : World => zeros_run W kk (by omega)
          have hwk : IntKind.i64.wrap (kk : Int) = (kk : Int) := by rw [IntKind.wrap_i64]; omega
          have e3 : (T : Int).tmod 32 = (ss : Int) := by rw [Int.tmod_eq_emod_of_nonneg (by omega)]; exact e2
          have el2 := lval_lim G1
          have EL := Lib.hid el2
          have Hsh := Lib.hid (fun (W : World) (h : Rd W A6 (lim G1)) => shiftLeft_any A6 (lim G1) c6 ss W (by omega) (lim_lt _) hss h)
          have hal := (Below.refl w6.heap.size w6).alloc (Nat.le_refl _) (zerosObj kk)
          have hO6 := zeros_own w6 kk base hsz6 (by omega)
          have hWr : Rd w6.drew A6 (lim G1) := hW6.rd
          have hWa : Rd (w6.alloc (zerosObj kk)).drew A6 (lim G1) := (hW6.keep hal).rd
          have hba : Below base w (w6.alloc (zerosObj kk)).drew := (hb6.alloc hsz6 (zerosObj kk)).drew
          have hsa : base ≤ (w6.alloc (zerosObj kk)).drew.heap.size := Nat.le_trans hsz6 hal.size
          have hbd : Below base w w6.drew := hb6.drew
          have hsd : base ≤ w6.drew.heap.size := hsz6
          have HX := Lib.hid (And.intro hal (And.intro hWr (And.intro hWa (And.intro hba (And.intro hsa (And.intro hbd (And.intro hsd hO6.drew)))))))
          clear el2 hal hO6 hWr hWa hba hsa hbd hsd hW6 hb6 hsz6
          go_region_law (first
            | (go_simp; go_at_call 62; first
               | (refine (Hsh.out _ HX.out.2.2.1).mono ?_
                  rintro e ws ⟨S, hSl, hSlt, hSv, gS, hgS, rfl, hSB, hbs⟩
                  have hOa := Own.below HX.out.2.2.2.2.2.2.2 hbs
                  have hcur := HX.out.2.2.2.1.trans (hbs.mono HX.out.2.2.2.2.1)
                  have hszc : base ≤ ws.heap.size := Nat.le_trans HX.out.2.2.2.2.1 hbs.size)
               | (refine (Hsh.out _ HX.out.2.1).mono ?_
                  rintro e ws ⟨S, hSl, hSlt, hSv, gS, hgS, rfl, hSB, hbs⟩
                  have hcur := HX.out.2.2.2.2.2.1.trans (hbs.mono HX.out.2.2.2.2.2.2.1)
                  have hszc : base ≤ ws.heap.size := Nat.le_trans HX.out.2.2.2.2.2.2.1 hbs.size))
            | (refine step_extend rfl _ _ 53 rfl base 54 .u32 4 Tryd.underlying53 row_u32 _ (List.replicate kk 0) rfl gS ((lim G1).length + 1) ((lim G1).length + 1) S rfl hSl (by decide) hOa hSB (by rw [List.length_replicate]; omega) (by omega) hszc ?_
               intro v' wv hOv hbv
               replace hcur := hcur.trans hbv)
            | (refine step_extend rfl _ _ 53 rfl base 54 .u32 4 Tryd.underlying53 row_u32 _ (List.replicate kk 0) rfl gS ((lim G1).length + 1) ((lim G1).length + 1) S rfl hSl (by decide) (zeros_own ws kk base hszc (by omega)) (Blk.alloc hSB _) (by rw [List.length_replicate]; omega) (by omega) (Nat.le_trans hszc ((Below.refl ws.heap.size ws).alloc (Nat.le_refl _) _).size) ?_
               intro v' wv hOv hbv
               replace hcur := (hcur.alloc hszc (zerosObj kk)).trans hbv))
          all_goals
            go_wp2
            go_ret
            exact gol_own hOv hSlt (by rw [hSv, EL.out]) EG2.out (by omega) hcur
      · go_enter Tryd.func51, Tryd.ntmps51
        go_wp2_with fail
        refine (trailingZeros_any (some ⟨gx, 0, none⟩) (lim M) (lim M).length _ (by omega) (lim_lt _) hWP.rd (hT.below hb htab)).mono ?_
        rintro e w3 ⟨t1, rfl, ht0, ht1, rfl⟩
        rw [lval_lim] at ht0 ht1
        go_wp2_with fail
        refine (trailingZeros_any (some ⟨gy, 0, none⟩) (lim N) (lim N).length _ (by omega) (lim_lt _) hWQ.rd (hT.below hb htab)).mono ?_
        rintro e w3 ⟨t2, rfl, ht2, ht3, rfl⟩
        rw [lval_lim] at ht2 ht3
        obtain ⟨eu, ou, bu⟩ := odd_of hPX ht1
        obtain ⟨ev, ov, bv⟩ := odd_of hq ht3
        obtain ⟨X1, hX1⟩ : ∃ X1, X1 = M / 2 ^ t1 := ⟨_, rfl⟩
        obtain ⟨Y1, hY1⟩ : ∃ Y1, Y1 = N / 2 ^ t2 := ⟨_, rfl⟩
        have lx : (lim X1).length ≤ (lim M).length := lim_len_mono (by rw [hX1]; exact Nat.div_le_self _ _)
        have ly : (lim Y1).length ≤ (lim N).length := lim_len_mono (by rw [hY1]; exact Nat.div_le_self _ _)
        rw [← hX1] at eu ou
        rw [← hY1] at ev ov
        obtain ⟨T, hTT⟩ : ∃ T, T = min t1 t2 := ⟨_, rfl⟩
        have eG : G = 2 ^ T * Nat.gcd X1 Y1 := by rw [← HG.out, hTT, ← gcd_twos ou ov, ← eu, ← ev]
        have EG := Lib.hid eG
        have HX1 := Lib.hid hX1
        have HY1 := Lib.hid hY1
        have HEU := Lib.hid (And.intro eu ev)
        have HT0 := Lib.hid (And.intro ht0 (And.intro ht1 (And.intro ht2 ht3)))
        have hTb : T ≤ 32 * 268435456 := by omega
        obtain ⟨kk, ss, hks, hss⟩ : ∃ kk ss, T = 32 * kk + ss ∧ ss < 32 := ⟨T / 32, T % 32, by omega, by omega⟩
        clear eG hX1 hY1 eu ev ht0 ht1 ht2 ht3
        go_wp2_with fail
        refine (dropLowBits_t (some ⟨gx, 0, none⟩) gx [] M [] (lim M).length t1 _ (by omega) HT0.out.1 HT0.out.2.1 (Nat.le_refl _) hWP).mono ?_
        rw [← HX1.out]
        rintro e w4 ⟨A4, c4, pre4, post4, rfl, hW4, hc4, hg4⟩
        have hV4 := hWQ.grown hg4 hne.symm
        have hb4 := hb.grown hg4 hsz (fun k hk => by injection hk with hk; omega)
        have hsz4 : base ≤ w4.heap.size := Nat.le_trans hsz hg4.size
        go_wp2_with fail
        refine (dropLowBits_t (some ⟨gy, 0, none⟩) gy [] N [] (lim N).length t2 _ (by omega) HT0.out.2.2.1 HT0.out.2.2.2 (Nat.le_refl _) hV4).mono ?_
        rw [← HY1.out]
        rintro e w5 ⟨A5, c5, pre5, post5, rfl, hW5, hc5, hg5⟩
        have hW4' := hW4.grown hg5 hne
        have hb5 := hb4.grown hg5 hsz4 (fun k hk => by injection hk with hk; omega)
        have hsz5 : base ≤ w5.heap.size := Nat.le_trans hsz4 hg5.size
        go_wp2_with fail
        refine (oddGcd_any base 268435456 X1 Y1 _ _ _ (by omega) ⟨A4, gx, pre4, post4, c4, A5, gy, pre5, post5, c5, rfl, rfl, hW4', hW5, hne, hgx, hgy, hc4, hc5, by omega, by omega⟩ (.inl ou) ov hsz5 (hT.below hb5 htab) htab).mono ?_
        rintro e w6 ⟨A6, c6, g6, pre6, post6, rfl, hW6, hc6, hb56⟩
        have hb6 := hb5.trans hb56
        have hsz6 : base ≤ w6.heap.size := Nat.le_trans hsz5 hb56.size
        obtain ⟨G1, hG1⟩ : ∃ G1, G1 = Nat.gcd X1 Y1 := ⟨_, rfl⟩
        have eG2 : G = 2 ^ (32 * kk + ss) * G1 := by rw [hG1, ← hks]; exact EG.out
        have hG1l : (lim G1).length ≤ 268435456 := Nat.le_trans (lim_len_mono (by rw [hG1]; exact Nat.gcd_le_left _ (by omega))) (Nat.le_trans lx (by omega))
        rw [← hG1] at hW6 hc6 ⊢
        have EG2 := Lib.hid eG2
        have e1 : (T : Int) / 32 = (kk : Int) := by omega
        have e2 : (T : Int) % 32 = (ss : Int) := by omega
        have hkb : kk ≤ 268435456 := by omega
        have emin : min (t1 : Int) (t2 : Int) = (T : Int) := by omega
        have HTT := Lib.hid hTT
        clear hTT
        clear eG2 hG1 hks hW4 hV4 hb4 hsz4 hW4' hW5 hb5 hb56 hsz5
        go_wp2_with fail
        have hmk := fun W : World => zeros_run W kk (by omega)
        have hwk : IntKind.i64.wrap (kk : Int) = (kk : Int) := by rw [IntKind.wrap_i64]; omega
        have e3 : (T : Int).tmod 32 = (ss : Int) := by rw [Int.tmod_eq_emod_of_nonneg (by omega)]; exact e2
        have el2 := lval_lim G1
        have EL := Lib.hid el2
        have Hsh := Lib.hid (fun (W : World) (h : Rd W A6 (lim G1)) => shiftLeft_any A6 (lim G1) c6 ss W (by omega) (lim_lt _) hss h)
        have hal := (Below.refl w6.heap.size w6).alloc (Nat.le_refl _) (zerosObj kk)
        have hO6 := zeros_own w6 kk base hsz6 (by omega)
        have hWr : Rd w6.drew A6 (lim G1) := hW6.rd
        have hWa : Rd (w6.alloc (zerosObj kk)).drew A6 (lim G1) := (hW6.keep hal).rd
        have hba : Below base w (w6.alloc (zerosObj kk)).drew := (hb6.alloc hsz6 (zerosObj kk)).drew
        have hsa : base ≤ (w6.alloc (zerosObj kk)).drew.heap.size := Nat.le_trans hsz6 hal.size
        have hbd : Below base w w6.drew := hb6.drew
        have hsd : base ≤ w6.drew.heap.size := hsz6
        have HX := Lib.hid (And.intro hal (And.intro hWr (And.intro hWa (And.intro hba (And.intro hsa (And.intro hbd (And.intro hsd hO6.drew)))))))
        clear el2 hal hO6 hWr hWa hba hsa hbd hsd hW6 hb6 hsz6
        go_region_law (first
          | (go_simp; go_at_call 62; first
             | (refine (Hsh.out _ HX.out.2.2.1).mono ?_
                rintro e ws ⟨S, hSl, hSlt, hSv, gS, hgS, rfl, hSB, hbs⟩
                have hOa := Own.below HX.out.2.2.2.2.2.2.2 hbs
                have hcur := HX.out.2.2.2.1.trans (hbs.mono HX.out.2.2.2.2.1)
                have hszc : base ≤ ws.heap.size := Nat.le_trans HX.out.2.2.2.2.1 hbs.size)
             | (refine (Hsh.out _ HX.out.2.1).mono ?_
                rintro e ws ⟨S, hSl, hSlt, hSv, gS, hgS, rfl, hSB, hbs⟩
                have hcur := HX.out.2.2.2.2.2.1.trans (hbs.mono HX.out.2.2.2.2.2.2.1)
                have hszc : base ≤ ws.heap.size := Nat.le_trans HX.out.2.2.2.2.2.2.1 hbs.size))
          | (refine step_extend rfl _ _ 53 rfl base 54 .u32 4 Tryd.underlying53 row_u32 _ (List.replicate kk 0) rfl gS ((lim G1).length + 1) ((lim G1).length + 1) S rfl hSl (by decide) hOa hSB (by rw [List.length_replicate]; omega) (by omega) hszc ?_
             intro v' wv hOv hbv
             replace hcur := hcur.trans hbv)
          | (refine step_extend rfl _ _ 53 rfl base 54 .u32 4 Tryd.underlying53 row_u32 _ (List.replicate kk 0) rfl gS ((lim G1).length + 1) ((lim G1).length + 1) S rfl hSl (by decide) (zeros_own ws kk base hszc (by omega)) (Blk.alloc hSB _) (by rw [List.length_replicate]; omega) (by omega) (Nat.le_trans hszc ((Below.refl ws.heap.size ws).alloc (Nat.le_refl _) _).size) ?_
             intro v' wv hOv hbv
             replace hcur := (hcur.alloc hszc (zerosObj kk)).trans hbv))
        all_goals
          go_wp2
          go_ret
          exact gol_own hOv hSlt (by rw [hSv, EL.out]) EG2.out (by omega) hcur
end Go.Proofs.YtmfinfnjamgboaaDoor
