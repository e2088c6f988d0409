/- nat.Format. -/
import Derived.Test.YtmfinfnjamgboaaDoorRev
namespace Go.Proofs.YtmfinfnjamgboaaDoor
open Go.RowKit NM

/-- The decimal digits of a number as bytes, and its decimal string. -/
def decs (n : Nat) : List Nat := if n = 0 then [48] else ((dig 10 n).map (48 + ·)).reverse
def dec (n : Nat) : ByteArray := ofBts (decs n)

/-- k digits of n, least significant first, as bytes. -/
def tens (k n : Nat) : List Nat := (digs 10 k n).map (48 + ·)
theorem tens_length (k n : Nat) : (tens k n).length = k := by unfold tens; rw [List.length_map, digs_length]
theorem tens_succ (k n : Nat) : tens (k + 1) n = tens k n ++ [48 + n / 10 ^ k % 10] := by unfold tens; rw [digs_succ, List.map_append]; rfl
theorem tens_lt (k n : Nat) : NM.lt 256 (tens k n) := by
  intro x hx
  unfold tens at hx
  rw [List.mem_map] at hx
  obtain ⟨y, hy, rfl⟩ := hx
  have := digs_lt (B := 10) (by omega) k n y hy
  omega
theorem digs_more {B k j n : Nat} (hB : 1 < B) (h : n < B ^ k) : digs B (k + j) n = digs B k n ++ List.replicate j 0 := by
  have hz : NM.lt B (List.replicate j 0) := fun x hx => by
    rw [List.mem_replicate] at hx
    omega
  apply val_inj hB (digs_lt (by omega) _ _) (lt_append (digs_lt (by omega) _ _) hz) (by rw [List.length_append, digs_length, digs_length, List.length_replicate])
  have h1 : B ^ k ≤ B ^ (k + j) := Nat.pow_le_pow_right (by omega) (by omega)
  rw [val_append_zeros, val_digs, val_digs, Nat.mod_eq_of_lt h, Nat.mod_eq_of_lt (by omega)]
/-- The digits from above: zeros, then the number's. -/
theorem tens_rev {K n : Nat} (hn : n ≠ 0) (hK : n < 10 ^ K) : (tens K n).reverse = List.replicate (K - len 10 n) 48 ++ decs n ∧ len 10 n ≤ K ∧ (decs n).length = len 10 n ∧ (decs n).getD 0 0 ≠ 48 := by
  have h1 : len 10 n ≤ K := (len_le_iff (by omega) K n).2 hK
  have e : tens K n = (dig 10 n).map (48 + ·) ++ List.replicate (K - len 10 n) 48 := by
    unfold tens dig
    rw [show K = len 10 n + (K - len 10 n) from by omega, digs_more (by omega) (lt_pow_len (by omega) n), List.map_append, List.map_replicate]
    congr 2
    omega
  have hd : decs n = ((dig 10 n).map (48 + ·)).reverse := if_neg hn
  refine ⟨by rw [e, List.reverse_append, List.reverse_replicate, hd], h1, by rw [hd, List.length_reverse, List.length_map, dig_length], ?_⟩
  have hp : 0 < len 10 n := by rw [len_pos (by omega) hn]; omega
  have hl : (dig 10 n).length = len 10 n := dig_length _ _
  rw [hd, List.getD_eq_getElem?_getD, List.getElem?_reverse (by rw [List.length_map, hl]; exact hp), List.length_map, List.getElem?_map, hl, Nat.sub_zero]
  have hdg : (dig 10 n)[len 10 n - 1]? = some (n / 10 ^ (len 10 n - 1) % 10) := digs_getElem? _ _ _ _ (by omega)
  rw [hdg]
  have h2 := pow_len_le (B := 10) (by omega) hn
  have h3 := lt_pow_len (B := 10) (by omega) n
  have h4 : n / 10 ^ (len 10 n - 1) < 10 := by
    rw [Nat.div_lt_iff_lt_mul (Nat.pow_pos (by omega)), Nat.mul_comm, ← Nat.pow_succ, Nat.succ_eq_add_one, Nat.sub_add_cancel hp]
    exact h3
  have h5 : 0 < n / 10 ^ (len 10 n - 1) := Nat.div_pos h2 (Nat.pow_pos (by omega))
  show 48 + n / 10 ^ (len 10 n - 1) % 10 ≠ 48
  omega
/-- A digit of a group of nine. -/
theorem group_digit {n t k : Nat} (hk : k < 9) : n / 10 ^ (9 * t) % 1000000000 / 10 ^ k % 10 = n / 10 ^ (9 * t + k) % 10 := by
  rw [Nat.pow_add, ← Nat.div_div_eq_div_mul]
  generalize n / 10 ^ (9 * t) = M
  rcases (show k = 0 ∨ k = 1 ∨ k = 2 ∨ k = 3 ∨ k = 4 ∨ k = 5 ∨ k = 6 ∨ k = 7 ∨ k = 8 from by omega) with e | e | e | e | e | e | e | e | e <;> rw [e] <;> simp only [Nat.pow_zero, Nat.pow_one, Nat.reducePow] <;> omega

/-- How long a slice is. -/
def lenOf : Value → Nat | .slice _ n _ => n | _ => 0
theorem Own.len {w : World} {base : Nat} {E : TypeId} {k : IntKind} {v : Value} {L : List Nat} (h : Own w base E k v L) : lenOf v = L.length := by
  obtain ⟨_, h⟩ := h
  rcases h with ⟨rfl, hn⟩ | ⟨g, cap, cur, rfl, _⟩
  · rw [hn]; rfl
  · rfl
theorem Own.blk {w : World} {base : Nat} {E : TypeId} {k : IntKind} {v : Value} {L : List Nat} (h : Own w base E k v L) (hne : 0 < L.length) : ∃ g cap post, v = .slice (some ⟨g, 0, none⟩) L.length cap ∧ base ≤ g ∧ Blk w g E (cv k L ++ post) ∧ L.length ≤ cap := by
  obtain ⟨_, h⟩ := h
  rcases h with ⟨_, hn⟩ | ⟨g, cap, cur, rfl, hb, hg, hn, _, hsz, ht⟩
  · omega
  · refine ⟨g, cap, cur.toList.drop (L.length * 1), rfl, hb, ?_, hn⟩
    rw [← ht, List.take_append_drop]
    refine ⟨(0, 0), by rw [hg], fun j _ => ?_⟩
    unfold World.frozen?
    rw [hg]
    simp
/-- The string of a part of a block. -/
theorem run_str_mid {P : Program} {w : World} {g : Nat} {T E src dst : TypeId} {l : List Nat} {post : List Value} {pre : List Nat} (hB : Blk w g T (cv .u8 (pre ++ l) ++ post)) (off n c : Nat) (hoff : off = pre.length) (hn : n = l.length) (hs : P.underlying src = some (.slice E)) (he : P.underlying E = some (.int .u8)) (hd : P.underlying dst = some .string) :
    (convert src dst (.slice (some ⟨g, off, none⟩) n c)).run P w = .ok (.string (ofBts l)) w := by
  have h := run_convert_bytes_arg (P := P) w src E hs he g off n c (l.map fun (x : Nat) => (x : Int)) (by simp [hn]) (fun i hi => by
    have hil : i < l.length := by omega
    rw [hB.cell (v := .int .u8 (l.getD i 0 : Nat)) (by
      rw [pre_at (by rw [List.length_append]; omega), hoff]
      congr 3
      rw [List.getD_eq_getElem?_getD, List.getElem?_append_right (by omega), Nat.add_sub_cancel_left, ← List.getD_eq_getElem?_getD])]
    simp [hil]) dst hd
  rw [h]
  simp [strOfNums, ofBts, List.map_map, Function.comp_def]

theorem Own.grown {w w' : World} {base : Nat} {E : TypeId} {k : IntKind} {v : Value} {L : List Nat} {g : Nat} (h : Own w base E k v L) (hg : w.grownBy w' (some g)) (hb : g < base) : Own w' base E k v L := by
  refine World.ownsRow.kept (row := some g) h hg ?_
  cases hv : v.ownBlock with
  | none => exact .inl rfl
  | some b =>
    right
    intro e
    have := (World.ownsRow.lt h b hv).1
    injection e with e
    omega
theorem lenOf_own {w : World} {base : Nat} {E : TypeId} {k : IntKind} {v : Value} {n t : Nat} (h : Own w base E k v (tens t n)) : lenOf v = t := by rw [h.len, tens_length]
theorem fmt_next {M N t : Nat} (h : M = N / 10 ^ (9 * t)) : M / 1000000000 = N / 10 ^ (9 * (t + 1)) := by
  rw [h, Nat.mul_add, Nat.pow_add, Nat.div_div_eq_div_mul]
theorem fmt_more {t N : Nat} (h : 0 < N / 10 ^ (9 * t)) : 9 * t < len 10 N := by
  rcases Nat.lt_or_ge (9 * t) (len 10 N) with h1 | h1
  · exact h1
  · have := (len_le_iff (B := 10) (by omega) _ _).1 h1
    rw [Nat.div_eq_of_lt this] at h
    omega

set_option maxHeartbeats 2000000 in
theorem Format_any (a : ByteArray) (w : World) (ha : a.size ≤ 1073741824) :
    Calls Tryd.prog 26 #[.string a] w fun e w' => e = .returned (.string (dec (nat a))) ∧ Below w.heap.size w w' := by
  have la := lim_size a
  by_cases hz : nat a = 0
  · have hl : (lim (nat a)).length = 0 := by rw [hz]; rfl
    have h0 : (((lim (nat a)).length : Int) == 0) = true := by rw [hl]; rfl
    rw [show dec (nat a) = ⟨#[48]⟩ from by rw [hz]; rfl]
    clear hz hl
    go_enter Tryd.func26, Tryd.ntmps26
    go_wp2_with fail
    refine (limbs_any a _ (by omega)).mono ?_
    rintro e w1 ⟨g1, hg1, rfl, hB1, hb1⟩
    go_wp2_with fail
    go_ret
    exact ⟨rfl, hb1⟩
  · have hl : 0 < (lim (nat a)).length := List.length_pos_iff.2 (fun e => hz (lim_eq_nil.1 e))
    have h0 : (((lim (nat a)).length : Int) == 0) = false := beq_eq_false_iff_ne.2 (by omega)
    have h10 : len 10 (nat a) ≤ 3221225472 := by
      have : len 10 (nat a) ≤ 3 * a.size := by
        refine (len_le_iff (by omega) _ _).2 ?_
        have h1 := nat_lt a
        have h2 : 256 ^ a.size ≤ (10 ^ 3) ^ a.size := Nat.pow_le_pow_left (by omega) _
        rw [← Nat.pow_mul] at h2
        omega
      omega
    obtain ⟨N, hN⟩ : ∃ N, N = nat a := ⟨_, rfl⟩
    rw [← hN] at hl h0 hz h10 la ⊢
    have HN := Lib.hid hN
    have Hz := Lib.hid hz
    clear hN hz
    go_enter Tryd.func26, Tryd.ntmps26
    go_wp2_with fail
    refine (limbs_any a _ (by omega)).mono ?_
    rw [← HN.out]
    rintro e w1 ⟨g1, hg1, rfl, hB1, hb1⟩
    have l1 : g1 < w1.heap.size := hB1.lt
    go_wp2_with fail
    go_loopw [3, 4] (fun xv v wr => ∃ (t : Nat) (A : Option Addr) (c : Nat) (post : List Value), xv = .slice A (lim (N / 10 ^ (9 * t))).length c ∧ Win wr A g1 [] (lim (N / 10 ^ (9 * t))) post ∧ (lim (N / 10 ^ (9 * t))).length ≤ c ∧ 9 * t < len 10 N + 9 ∧ Own wr w1.heap.size 5 .u8 v (tens (9 * t) N) ∧ w1.heap.size ≤ wr.heap.size ∧ Below w.heap.size w wr) (fun _ v _ => len 10 N + 9 - lenOf v)
    case atStart => exact ⟨0, _, _, [], by rw [Nat.mul_zero, Nat.pow_zero, Nat.div_one], by rw [Nat.mul_zero, Nat.pow_zero, Nat.div_one]; exact Win.of_LB hB1, by rw [Nat.mul_zero, Nat.pow_zero, Nat.div_one]; exact Nat.le_refl _, by omega, Own.nil _ _ _ _, Nat.le_refl _, hb1⟩
    case round =>
      obtain ⟨t, A, c, post, rfl, hW, hc, ht, hown, hws, hbr⟩ := hrel
      obtain ⟨M, hM⟩ : ∃ M, M = N / 10 ^ (9 * t) := ⟨_, rfl⟩
      rw [← hM] at hW hc ⊢
      have hMN : M ≤ N := by rw [hM]; exact Nat.div_le_self _ _
      have hml : (lim M).length ≤ (lim N).length := by
        rw [lim_length, lim_length]
        exact len_mono (by omega) hMN
      by_cases hpos : 0 < M
      · have hlM : 0 < (lim M).length := List.length_pos_iff.2 (fun e => by have := lim_eq_nil.1 e; omega)
        have ht2 := fmt_more (t := t) (N := N) (by rw [← hM]; exact hpos)
        have hdl := divideByLimb_any A g1 [] (lim M) post c 1000000000 wr (by omega) (lim_lt _) (by omega) (by omega) hW
        have Hdl := Lib.hid hdl
        have HM := Lib.hid hM
        clear hdl hM hW
        have hlv := lenOf_own hown
        have Hlv := Lib.hid hlv
        clear hlv
        go_wp2_with fail
        refine Hdl.out.mono ?_
        rintro e w2 ⟨rfl, _, hM2, hg2, hA2⟩
        have hA : A = some ⟨g1, 0, none⟩ := hA2 (List.length_pos_iff.1 hlM)
        have hMB := hM2 (List.length_pos_iff.1 hlM)
        have hown2 := Own.grown hown hg2 l1
        have hbr2 : Below w.heap.size w w2 := hbr.grown hg2 hbr.size (fun k hk => by injection hk with hk; omega)
        rw [lval_lim] at hMB ⊢
        have hlt1 : lval (lims (lim M).length (M / 1000000000)) = M / 1000000000 := by
          rw [lval_lims, Nat.mod_eq_of_lt]
          have := lval_lt (lim_lt M)
          rw [lval_lim] at this
          omega
        have htr := trim_any A (lims (lim M).length (M / 1000000000)) c w2 (by rw [lims_length]; omega) (by rw [lims_length]; exact hc) (lims_lt _ _) (fun _ => ⟨g1, [], post, hA, hMB⟩)
        have hpad := (lim_pad (lims_lt (lim M).length (M / 1000000000))).2
        rw [hlt1, lims_length] at hpad
        rw [lims_length, hlt1] at htr
        have hMB2 : MB w2 g1 [] (lim (M / 1000000000)) (cv .u32 (List.replicate ((lim M).length - llen (M / 1000000000)) 0) ++ post) := by
          unfold MB at hMB ⊢
          rw [hpad, cv_append] at hMB
          simpa using hMB
        have Htr := Lib.hid htr
        have HA := Lib.hid hA
        clear htr hpad hlt1 hMB hM2 hA hown hbr
        go_wp2_with fail
        refine Htr.out.mono ?_
        rintro e w3 ⟨A', c', rfl, hA', hc', rfl⟩
        have hW2 : Win w2 A' g1 [] (lim (M / 1000000000)) (cv .u32 (List.replicate ((lim M).length - llen (M / 1000000000)) 0) ++ post) := fun h => ⟨by rw [hA' h, HA.out]; rfl, hMB2⟩
        clear hA' hMB2
        go_wp2_with fail
        have hws2 : w1.heap.size ≤ w2.heap.size := Nat.le_trans hws hg2.size
        have hr0 : Value.int .u32 ((M % 1000000000 : Nat) : Int) = .int .u32 ((M % 1000000000 / 10 ^ 0 : Nat) : Int) := by rw [Nat.pow_zero, Nat.div_one]
        have Hr0 := Lib.hid hr0
        clear hr0
        go_loopw [4, 5, 19] (fun v gr i wr => ∃ k : Nat, k ≤ 9 ∧ i = .int .i64 k ∧ gr = .int .u32 (M % 1000000000 / 10 ^ k : Nat) ∧ Own wr w1.heap.size 5 .u8 v (tens (9 * t + k) N) ∧ Below w1.heap.size w2 wr) (fun _ _ i _ => 9 - (intOf i).toNat)
        case atStart => exact ⟨0, Nat.zero_le _, rfl, Hr0.out, hown2, Below.refl _ _⟩
        case round =>
          obtain ⟨k, hk, rfl, rfl, hown3, hb3⟩ := hrel
          have hws3 : w1.heap.size ≤ _ := Nat.le_trans hws2 hb3.size
          by_cases hk9 : k < 9
          · have hts := tens_succ (9 * t + k) N
            rw [← group_digit hk9, ← HM.out] at hts
            have hq : M % 1000000000 / 10 ^ (k + 1) = M % 1000000000 / 10 ^ k / 10 := by rw [Nat.pow_succ, ← Nat.div_div_eq_div_mul]
            have hgl : M % 1000000000 / 10 ^ k < 1000000000 := Nat.lt_of_le_of_lt (Nat.div_le_self _ _) (Nat.mod_lt _ (by omega))
            have hll : (tens (9 * t + k) N).length ≤ 17179869184 := by rw [tens_length]; omega
            have Hts := Lib.hid hts
            have Hq := Lib.hid hq
            clear hts hq hown2
            generalize M % 1000000000 / 10 ^ k = G at hgl Hts Hq ⊢
            go_wp2_with (at_builtin; refine wpList_push _ rfl _ _ 59 rfl w1.heap.size 5 .u8 1 Tryd.underlying59 row_u8 _ (tens (9 * t + k) N) rfl (hown3.alloc _) ⟨_, 0, none⟩ 1 rfl (48 + G % 10) (((Blk.new _ _ _).cell (j := 0) rfl).trans (congrArg some (by go_num))) hll (by omega) (by simp; omega) ?_; intro v2 w4 hown4 _ hb4)
            go_roundw
            case rel => exact ⟨k + 1, by omega, by go_num, by rw [Hq.out]; go_num, by rw [← Nat.add_assoc, Hts.out]; exact hown4, (hb3.alloc hws3 _).trans hb4⟩
            case measure => simp [intOf]; omega
          · obtain rfl : k = 9 := by omega
            go_wp2
            go_roundw
            case rel => exact ⟨t + 1, A', c', _, by rw [fmt_next HM.out], by rw [← fmt_next HM.out]; exact fun h => ⟨(hW2 h).1, Blk.below (hW2 h).2 hb3 l1⟩, by rw [← fmt_next HM.out]; exact hc', by omega, hown3, hws3, hbr2.trans (hb3.mono hb1.size)⟩
            case measure => rw [Hlv.out, lenOf_own hown3]; omega
      · obtain rfl : M = 0 := by omega
        have hK : N < 10 ^ (9 * t) := by
          rcases Nat.div_eq_zero_iff.1 hM.symm with h | h
          · have := Nat.pow_pos (n := 9 * t) (show 0 < 10 by omega)
            omega
          · exact h
        obtain ⟨hrev, hlen, hdl, hd0⟩ := tens_rev Hz.out hK
        have hlen1 : 0 < len 10 N := by rw [len_pos (by omega) Hz.out]; omega
        obtain ⟨g, cap, post2, rfl, hg, hB, hcap⟩ := hown.blk (by rw [tens_length]; omega)
        rw [tens_length] at hcap ⊢
        have hRev := Reverse_any g 5 (tens (9 * t) N) post2 (9 * t) cap wr (tens_length _ _).symm (by rw [tens_length]; omega) hB
        have HRev := Lib.hid hRev
        have Hrev := Lib.hid hrev
        have Hdl := Lib.hid hdl
        have Hd0 := Lib.hid hd0
        have hx0 : (((lim 0).length : Int) > 0) = False := by simp [lim_zero]
        clear hRev hrev hdl hd0 hM hW hc hown hB hK
        rw [show (lim 0).length = 0 from rfl]
        go_wp2_with fail
        refine HRev.out.mono ?_
        rintro e w2 ⟨rfl, hB2, hg2⟩
        rw [Hrev.out] at hB2
        have hb2 : Below w.heap.size w w2 := hbr.grown hg2 hbr.size (fun k hk => by injection hk with hk; have := hb1.size; omega)
        have hidx := fun F hF => IndexFunc_any g 5 (List.replicate (9 * t - len 10 N) 48 ++ decs N) post2 (9 * t) cap (9 * t - len 10 N) F w2 hF (by rw [List.length_append, List.length_replicate, Hdl.out]; omega) (by rw [List.length_append, List.length_replicate, Hdl.out]; omega) hB2 (by rw [List.length_append, List.length_replicate, Hdl.out]; omega) (fun j hj => by rw [List.getD_eq_getElem?_getD, List.getElem?_append_left (by rw [List.length_replicate]; exact hj), List.getElem?_replicate, if_pos hj]; rfl) (by rw [List.getD_eq_getElem?_getD, List.getElem?_append_right (by rw [List.length_replicate]; exact Nat.le_refl _), List.length_replicate, Nat.sub_self, ← List.getD_eq_getElem?_getD]; exact Hd0.out)
        have Hidx := Lib.hid hidx
        clear hidx
        go_wp2_with fail
        refine (Hidx.out _ rfl).mono ?_
        rintro e w3 ⟨rfl, hb3⟩
        obtain ⟨f, hf⟩ : ∃ f, f = 9 * t - len 10 N := ⟨_, rfl⟩
        rw [← hf] at hB2 ⊢
        have hft : f ≤ 9 * t := by omega
        have hfc : f < cap := by omega
        have hst := run_str_mid (P := Tryd.prog) (src := 59) (dst := 9) (hB2.keep hb3) f (9 * t - f) (cap - f) (by rw [List.length_replicate]) (by rw [Hdl.out]; omega) Tryd.underlying59 Tryd.underlying5 Tryd.underlying9
        clear hf hB2 hlen
        go_wp2
        go_ret
        exact ⟨rfl, hb2.trans (hb3.mono hb2.size)⟩
end Go.Proofs.YtmfinfnjamgboaaDoor
