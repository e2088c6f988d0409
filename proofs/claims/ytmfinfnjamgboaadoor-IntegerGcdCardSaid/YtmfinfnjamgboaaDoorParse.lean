/- nat.multiplyAdd, nat.Parse, voussoirref01.Parse, voussoirref01.Text. -/
import Derived.Test.YtmfinfnjamgboaaDoorFmt
import Derived.Test.YtmfinfnjamgboaaDoorMul
import Derived.Test.YtmfinfnjamgboaaDoorRefDiv
import Derived.Test.YtmfinfnjamgboaaDoorKnuth
namespace Go.Proofs.YtmfinfnjamgboaaDoor
open Go.RowKit NM

theorem Own.form {w : World} {base : Nat} {E : TypeId} {k : IntKind} {v : Value} {L : List Nat} (h : Own w base E k v L) : ∃ A c, v = .slice A L.length c ∧ (L ≠ [] → ∃ g, A = some ⟨g, 0, none⟩ ∧ base ≤ g) := by
  obtain ⟨_, h⟩ := h
  rcases h with ⟨rfl, hn⟩ | ⟨g, cap, cur, rfl, hb, _⟩
  · refine ⟨none, 0, by rw [hn], fun h => ?_⟩
    exact absurd (List.eq_nil_of_length_eq_zero hn) h
  · exact ⟨some ⟨g, 0, none⟩, cap, rfl, fun _ => ⟨g, rfl, hb⟩⟩
theorem Own.at_ {w : World} {base : Nat} {E : TypeId} {k : IntKind} {L : List Nat} {g n c j : Nat} (h : Own w base E k (.slice (some ⟨g, 0, none⟩) n c) L) (hn : n = L.length) (hj : j < L.length) : w.cell? ⟨g, j, none⟩ = some (.int k (L.getD j 0 : Nat)) := by
  subst hn
  have := World.ownsRow.cellAt h j (by omega)
  rw [this, cv_getElem? _ _ _ hj]
theorem Own.free {w : World} {base : Nat} {E : TypeId} {k : IntKind} {L : List Nat} {g n c : Nat} (h : Own w base E k (.slice (some ⟨g, 0, none⟩) n c) L) (hn : n = L.length) (j : Nat) : w.frozen? ⟨g, j, none⟩ = false := by
  subst hn
  exact World.ownsRow.frozenAt h j
theorem Own.set {w : World} {base : Nat} {E : TypeId} {k : IntKind} {L : List Nat} {g n c : Nat} (h : Own w base E k (.slice (some ⟨g, 0, none⟩) n c) L) (hn : n = L.length) (j : Nat) {v : Value} {d : Nat} (hv : v = .int k (d : Int)) : Own (w.setCell ⟨g, j, none⟩ v) base E k (.slice (some ⟨g, 0, none⟩) n c) (L.set j d) := by
  subst hn hv
  have := (World.ownsRow.stored h j (.int k (d : Int))).1
  rw [cv_set] at this
  unfold Own
  rw [List.length_set]
  exact this
theorem Own.rd {w : World} {base : Nat} {A : Option Addr} {n c : Nat} {L : List Nat} (h : Own w base 54 .u32 (.slice A n c) L) (_hn : n = L.length) : Rd w A L := by
  intro hne
  obtain ⟨g, cap, post, e, _, hB, _⟩ := h.blk (List.length_pos_iff.2 hne)
  injection e with e1 e2 e3
  exact ⟨g, [], post, e1, by rw [List.nil_append]; exact hB⟩

/-- What multiplyAdd leaves: a slice of the call's own with value N. -/
def MulAddPost (base : Nat) (n N : Nat) (w : World) (e : Ending) (w' : World) : Prop := ∃ v X', e = .returned v ∧ Own w' base 54 .u32 v X' ∧ llt X' ∧ lval X' = N ∧ X'.length ≤ n + 1 ∧ Below base w w'

theorem muladd_step {L X : List Nat} {k f s c d c' x : Nat} (hL : L.length = k) (hx : x = X.getD k 0) (hv : lval L + lpow k * c = f * lval (X.take k) + s) (h : d + 4294967296 * c' = c + x * f) :
    lval (L ++ [d]) + lpow (k + 1) * c' = f * lval (X.take (k + 1)) + s := by
  rw [lval_snoc, lval_take_succ, hL, lpow_succ, Nat.mul_add f, Nat.mul_assoc, ← hx]
  have e : lpow k * (d + 4294967296 * c') = lpow k * (c + x * f) := by rw [h]
  rw [Nat.mul_add, Nat.mul_add] at e
  have e2 : f * (lpow k * x) = lpow k * (x * f) := by rw [Nat.mul_left_comm, Nat.mul_comm f]
  rw [e2]
  omega

set_option maxHeartbeats 1000000 in
theorem multiplyAdd_any (base : Nat) (v : Value) (X : List Nat) (f s : Nat) (w : World) (hX : llt X) (hXl : X.length ≤ 4294967296) (hf : f < 4294967296) (hs : s < 4294967296) (hown : Own w base 54 .u32 v X) (hbase : base ≤ w.heap.size) :
    Calls Tryd.prog 37 #[v, .int .u32 (f : Int), .int .u32 (s : Int)] w (MulAddPost base X.length (f * lval X + s) w) := by
  obtain ⟨A, c, rfl, hA⟩ := hown.form
  go_enter Tryd.func37, Tryd.ntmps37
  go_wp2
  go_loopw [7, 13] (fun cy i wr => ∃ (k : Nat) (L : List Nat) (r : Nat), k ≤ X.length ∧ i = .int .i64 k ∧ cy = .int .u64 r ∧ r < 4294967296 ∧ L.length = k ∧ llt L ∧ lval L + lpow k * r = f * lval (X.take k) + s ∧ Own wr base 54 .u32 (.slice A X.length c) (L ++ X.drop k) ∧ base ≤ wr.heap.size ∧ Below base w wr) (fun _ i _ => X.length - (intOf i).toNat)
  case atStart => exact ⟨0, [], s, Nat.zero_le _, rfl, rfl, hs, rfl, llt_nil, by rw [List.take_zero, lval_nil, Nat.mul_zero, lpow_zero]; omega, hown, hbase, Below.refl _ _⟩
  case round =>
    obtain ⟨k, L, r, hk, rfl, rfl, hr, hLk, hLl, hv, ho, hbs, hb⟩ := hrel
    have HLk := Lib.hid hLk
    have Hv := Lib.hid hv
    have hal := app_len hLk hk
    by_cases hlt : k < X.length
    · obtain ⟨g, rfl, hg⟩ := hA (ne_nil_of hlt)
      have hxc := ho.at_ (j := k) hal.symm (by omega)
      have hxf := ho.free hal.symm k
      rw [app_at hLk] at hxc
      have hx1 := llt_getD hX k
      obtain ⟨x, hx⟩ : ∃ x, x = X.getD k 0 := ⟨_, rfl⟩
      rw [← hx] at hxc hx1
      have hpb := mul_bound hx1 hf
      obtain ⟨p, hp⟩ : ∃ p, p = x * f := ⟨_, rfl⟩
      rw [← hp] at hpb
      have hpe : (x : Int) * (f : Int) = (p : Int) := by rw [hp]; simp
      have Hp := Lib.hid hp
      have Hx := Lib.hid hx
      have Hal := Lib.hid hal
      clear hLk hv hp hx hal hA
      go_wp2
      go_roundw
      case rel => exact ⟨k + 1, L ++ [(r + p) % 4294967296], (r + p) / 4294967296, by omega, by go_num, by go_num, by omega, by rw [List.length_append, HLk.out]; rfl, llt_snoc hLl (by omega), muladd_step HLk.out Hx.out Hv.out (by rw [← Hp.out]; omega), by rw [← app_set HLk.out hlt]; exact ho.set Hal.out.symm k (by go_num), by simpa [World.setCell] using hbs, hb.setCell hg _⟩
      case measure => simp [intOf]; omega
    · obtain rfl : k = X.length := by omega
      have hd : L ++ X.drop X.length = L := by rw [List.drop_of_length_le (Nat.le_refl _), List.append_nil]
      rw [hd] at ho
      rw [List.take_of_length_le (Nat.le_refl _)] at hv
      have Hv2 := Lib.hid hv
      have hll : L.length ≤ 17179869184 := by omega
      clear hv hal hd Hv
      by_cases hr0 : r = 0
      · subst hr0
        clear hLk
        go_wp2
        go_ret
        exact ⟨_, L, rfl, ho, hLl, by have := Hv2.out; rw [Nat.mul_zero, Nat.add_zero] at this; exact this, by rw [HLk.out]; omega, hb⟩
      · have hrb : ((r : Int) == 0) = false := beq_eq_false_iff_ne.2 (by omega)
        clear hLk
        go_wp2_with (at_builtin; refine wpList_push _ rfl _ _ 53 rfl base 54 .u32 4 Tryd.underlying53 row_u32 _ L rfl (ho.alloc _) ⟨_, 0, none⟩ 1 rfl r (((Blk.new _ _ _).cell (j := 0) rfl).trans (congrArg some (by go_num))) hll (by omega) (by simp; omega) ?_; intro v2 w2 ho2 _ hb2)
        go_ret
        exact ⟨v2, L ++ [r], rfl, ho2, llt_snoc hLl hr, by rw [lval_snoc, HLk.out]; exact Hv2.out, by rw [List.length_append, HLk.out]; exact Nat.le_refl _, (hb.alloc hbs _).trans hb2⟩

/-- The value of a list of decimal digits. -/
def decVal (l : List Nat) : Nat := l.foldl (fun v d => 10 * v + (d - 48)) 0
theorem decVal_snoc (l : List Nat) (d : Nat) : decVal (l ++ [d]) = 10 * decVal l + (d - 48) := by unfold decVal; rw [List.foldl_append]; rfl
theorem decVal_take {l : List Nat} {k : Nat} (h : k < l.length) : decVal (l.take (k + 1)) = 10 * decVal (l.take k) + (l.getD k 0 - 48) := by
  rw [List.take_succ_eq_append_getElem h, decVal_snoc, List.getD_eq_getElem?_getD, List.getElem?_eq_getElem h]
  rfl
/-- Every byte is a decimal digit. -/
def Digits (s : ByteArray) : Prop := ∀ j, j < s.size → 48 ≤ (bts s).getD j 0 ∧ (bts s).getD j 0 ≤ 57
/-- The strings that Parse accepts. -/
def Decimal (s : ByteArray) : Prop := s.size ≠ 0 ∧ Digits s ∧ ((bts s).getD 0 0 ≠ 48 ∨ s.size = 1)
noncomputable def parseS (s : ByteArray) : ByteArray := @ite _ (Decimal s) (Classical.propDecidable _) (can (decVal (bts s))) ⟨#[]⟩
noncomputable def parseB (s : ByteArray) : Bool := @decide (Decimal s) (Classical.propDecidable _)
noncomputable def parseVal (s : ByteArray) : Value := .tuple #[.string (parseS s), .bool (parseB s)]
theorem parseVal_yes {s : ByteArray} (h : Decimal s) : parseVal s = .tuple #[.string (can (decVal (bts s))), .bool true] := by
  unfold parseVal parseS parseB
  rw [@if_pos _ (Classical.propDecidable _) h, @decide_eq_true _ (Classical.propDecidable _) h]
theorem parseVal_no {s : ByteArray} (h : ¬ Decimal s) : parseVal s = .tuple #[.string ⟨#[]⟩, .bool false] := by
  unfold parseVal parseS parseB
  rw [@if_neg _ (Classical.propDecidable _) h, @decide_eq_false _ (Classical.propDecidable _) h]

/-- How many digits of the group have been read when k of n digits have. -/
def grp (n k : Nat) : Nat := (9 - (n - k) % 9) % 9
theorem grp_start (n : Nat) : grp n 0 ≤ 8 := by unfold grp; omega
theorem grp_le (n k : Nat) : grp n k ≤ 8 := by unfold grp; omega
theorem grp_next {n k : Nat} (hk : k < n) (h : ¬ (n - 1 - k) % 9 = 0) : grp n (k + 1) = grp n k + 1 := by unfold grp; omega
theorem grp_end {n k : Nat} (hk : k < n) (h : (n - 1 - k) % 9 = 0) : grp n k = 8 ∧ grp n (k + 1) = 0 := by unfold grp; omega
theorem grp_n (n : Nat) : grp n n = 0 := by unfold grp; omega
theorem ten_pow_le {e : Nat} (h : e ≤ 8) : 10 ^ e ≤ 100000000 := Nat.pow_le_pow_right (n := 10) (by omega) h

theorem isEmpty_str {s : ByteArray} : s.toList.isEmpty = decide (s.size = 0) := by
  rw [ByteArray.toList_eq, ← bts_length]
  unfold bts
  cases s.data.toList with
  | nil => rfl
  | cons x l => rfl
theorem beq_zero {s : ByteArray} (h : 0 < s.size) (h48 : s[0].toNat = 48) : (s.toList == [48]) = decide (s.size = 1) := by
  have hb := bts_getD s 0 h
  rw [ByteArray.toList_eq, ← bts_length]
  unfold bts at hb ⊢
  cases hl : s.data.toList with
  | nil =>
    have := bts_length s
    unfold bts at this
    rw [hl] at this
    simp at this
    omega
  | cons x l =>
    rw [hl, h48] at hb
    have hx : x = 48 := UInt8.toNat_inj.1 (by simpa using hb)
    subst hx
    cases l with
    | nil => rfl
    | cons y l => simp

theorem parse_no {s : ByteArray} (h : ¬ Decimal s) : Ending.returned (.tuple #[.string ⟨#[]⟩, .bool false]) = .returned (parseVal s) := by rw [parseVal_no h]
theorem parse_bad {s : ByteArray} {k : Nat} (hk : k < s.size) (hd : s[k].toNat < 48 ∨ 57 < s[k].toNat) : ¬ Decimal s := fun h => by
  have := h.2.1 k hk
  rw [bts_getD s k hk] at this
  omega
theorem parse_val {s : ByteArray} {k G e : Nat} {X : List Nat} (hk : k < s.size) (hd : 48 ≤ s[k].toNat) (hv : decVal ((bts s).take k) = lval X * 10 ^ e + G) : decVal ((bts s).take (k + 1)) = lval X * 10 ^ (e + 1) + (G * 10 + (s[k].toNat - 48)) := by
  have := hd
  rw [decVal_take (by rw [bts_length]; exact hk), hv, bts_getD s k hk, Nat.pow_succ, ← Nat.mul_assoc]
  omega

theorem parse_fin {s : ByteArray} {G v : Nat} (hpos : 0 < s.size) (hd : ∀ j, j < s.size → 48 ≤ (bts s).getD j 0 ∧ (bts s).getD j 0 ≤ 57) (hg : (bts s).getD 0 0 ≠ 48 ∨ s.size = 1) (hv : decVal ((bts s).take s.size) = v * 10 ^ grp s.size s.size + G) (hG : G < 10 ^ grp s.size s.size) :
    Ending.returned (.tuple #[.string (can v), .bool true]) = .returned (parseVal s) := by
  rw [grp_n, Nat.pow_zero] at hv hG
  rw [List.take_of_length_le (by rw [bts_length]; exact Nat.le_refl _)] at hv
  rw [parseVal_yes ⟨by omega, hd, hg⟩, hv]
  congr 3
  rw [show G = 0 from by omega, Nat.mul_one, Nat.add_zero]

set_option maxHeartbeats 4000000 in
theorem Parse_any (s : ByteArray) (w : World) (hs : s.size ≤ 4294967296) :
    Calls Tryd.prog 19 #[.string s] w fun e w' => e = .returned (parseVal s) ∧ Below w.heap.size w w' := by
  by_cases h0 : s.size = 0
  · rw [parseVal_no (fun h => h.1 h0)]
    have he : s.toList.isEmpty = true := by rw [isEmpty_str, decide_eq_true h0]
    clear h0
    go_enter Tryd.func19, Tryd.ntmps19
    go_wp2
    go_ret2
    exact ⟨rfl, Below.refl _ _⟩
  · have hpos : 0 < s.size := Nat.pos_of_ne_zero h0
    have he : s.toList.isEmpty = false := by rw [isEmpty_str, decide_eq_false h0]
    have hb0 := bts_getD s 0 hpos
    by_cases hbad : s[0].toNat = 48 ∧ s.size ≠ 1
    · obtain ⟨h48, h1⟩ := hbad
      have hno : ¬ Decimal s := fun h => by
        rcases h.2.2 with h | h
        · exact h (by rw [hb0]; exact h48)
        · exact h1 h
      rw [parseVal_no hno]
      have h48' : ((s[0].toNat : Int) == 48) = true := by rw [h48]; rfl
      have hz : (s.toList == [48]) = false := by rw [beq_zero hpos h48, decide_eq_false h1]
      clear h0 hb0 h48 hno h1
      go_enter Tryd.func19, Tryd.ntmps19
      go_wp2
      go_ret2
      exact ⟨rfl, Below.refl _ _⟩
    · have hgood : (bts s).getD 0 0 ≠ 48 ∨ s.size = 1 := by rw [hb0]; omega
      have hcase : ((s[0].toNat : Int) == 48) = false ∨ (((s[0].toNat : Int) == 48) = true ∧ (s.toList == [48]) = true) := by
        by_cases h48 : s[0].toNat = 48
        · right
          exact ⟨by rw [h48]; rfl, by rw [beq_zero hpos h48, decide_eq_true (by omega)]⟩
        · left
          exact beq_eq_false_iff_ne.2 (by omega)
      have Hgood := Lib.hid hgood
      have Hpos := Lib.hid hpos
      clear hgood hb0 hbad h0
      rcases hcase with h1 | ⟨h1, h2⟩
      all_goals
        go_enter Tryd.func19, Tryd.ntmps19
        go_wp2
        go_loopw [4, 5, 20] (fun x gr i wr => ∃ (k G : Nat) (X : List Nat), k ≤ s.size ∧ i = .int .i64 k ∧ gr = .int .u32 G ∧ G < 10 ^ grp s.size k ∧ (∀ j, j < k → 48 ≤ (bts s).getD j 0 ∧ (bts s).getD j 0 ≤ 57) ∧ decVal ((bts s).take k) = lval X * 10 ^ grp s.size k + G ∧ Own wr w.heap.size 54 .u32 x X ∧ llt X ∧ X.length ≤ k ∧ w.heap.size ≤ wr.heap.size ∧ Below w.heap.size w wr) (fun _ _ i _ => s.size - (intOf i).toNat)
        case atStart => exact ⟨0, 0, [], Nat.zero_le _, rfl, rfl, Nat.pow_pos (by omega), fun j hj => by omega, by rw [List.take_zero, lval_nil, Nat.zero_mul]; rfl, Own.nil _ _ _ _, llt_nil, Nat.le_refl _, Nat.le_refl _, Below.refl _ _⟩
        case round =>
          obtain ⟨k, G, X, hk, rfl, rfl, hG, hdg, hv, hown, hXl, hXk, hbs, hb⟩ := hrel
          have Hdg := Lib.hid hdg
          have Hv := Lib.hid hv
          have HG := Lib.hid hG
          have hG8 : G < 100000000 := by have := ten_pow_le (grp_le s.size k); omega
          clear hdg hv hG
          by_cases hlt : k < s.size
          · have hbd := UInt8.toNat_lt s[k]
            by_cases hlo : s[k].toNat < 48
            · go_wp2
              go_ret2
              exact ⟨parse_no (parse_bad hlt (.inl hlo)), hb⟩
            · by_cases hhi : 57 < s[k].toNat
              · go_wp2
                go_ret2
                exact ⟨parse_no (parse_bad hlt (.inr hhi)), hb⟩
              · obtain ⟨m, hm⟩ : ∃ m, m = s.size - 1 - k := ⟨_, rfl⟩
                have em : (s.size : Int) - 1 - (k : Int) = (m : Int) := by omega
                have Hm := Lib.hid hm
                clear hm
                have hdg' : ∀ j, j < k + 1 → 48 ≤ (bts s).getD j 0 ∧ (bts s).getD j 0 ≤ 57 := fun j hj => by
                  rcases Nat.lt_or_ge j k with h | h
                  · exact Hdg.out j h
                  · obtain rfl : j = k := by omega
                    rw [bts_getD s j hlt]
                    omega
                have Hdg' := Lib.hid hdg'
                have hv' := parse_val hlt (by omega) Hv.out
                have Hv' := Lib.hid hv'
                clear hdg' hv'
                by_cases h9 : m % 9 = 0
                · have h9' : ((m : Int) % 9 == 0) = true := beq_iff_eq.2 (by omega)
                  have hge := grp_end hlt (by rw [← Hm.out]; exact h9)
                  have Hge := Lib.hid hge
                  have H9 := Lib.hid h9
                  clear hge h9
                  go_wp2_with fail
                  rw [show (G : Int) * 10 + ((s[k].toNat : Int) - 48) = ((G * 10 + (s[k].toNat - 48) : Nat) : Int) from by omega]
                  refine (multiplyAdd_any w.heap.size _ X 1000000000 (G * 10 + (s[k].toNat - 48)) _ hXl (by omega) (by omega) (by omega) hown hbs).mono ?_
                  rintro e w2 ⟨v2, X2, rfl, hown2, hX2, hXv, hXl2, hb2⟩
                  have hws2 : w.heap.size ≤ w2.heap.size := Nat.le_trans hbs hb2.size
                  have HXv := Lib.hid hXv
                  clear hXv
                  go_wp2_with fail
                  go_roundw
                  case rel => exact ⟨k + 1, 0, X2, by omega, by go_num, rfl, Nat.pow_pos (by omega), Hdg'.out, by rw [Hv'.out, HXv.out, Hge.out.1, Hge.out.2]; omega, hown2, hX2, by omega, hws2, hb.trans hb2⟩
                  case measure => simp [intOf]; omega
                · have h9' : ((m : Int) % 9 == 0) = false := beq_eq_false_iff_ne.2 (by omega)
                  have hge := grp_next hlt (by rw [← Hm.out]; exact h9)
                  have Hge := Lib.hid hge
                  have H9 := Lib.hid h9
                  clear hge h9
                  go_wp2_with fail
                  go_roundw
                  case rel => exact ⟨k + 1, G * 10 + (s[k].toNat - 48), X, by omega, by go_num, by go_num, by rw [Hge.out, Nat.pow_succ]; have := HG.out; omega, Hdg'.out, by rw [Hv'.out, Hge.out], hown, hXl, by omega, hbs, hb⟩
                  case measure => simp [intOf]; omega
          · obtain rfl : k = s.size := by omega
            have hfin := parse_fin Hpos.out Hdg.out Hgood.out Hv.out HG.out
            have Hfin := Lib.hid hfin
            clear hfin
            have hrd := hown
            obtain ⟨A, c, hAc, hA⟩ := hown.form
            rw [hAc] at hrd ⊢
            clear hAc hA
            go_wp2_with fail
            refine (magnitude_any A X c _ (by omega) hXl (Own.rd hrd rfl)).mono ?_
            rintro e w2 ⟨rfl, hb2⟩
            go_wp2_with fail
            go_ret2
            exact ⟨Hfin.out, hb.trans (hb2.mono hbs)⟩
end Go.Proofs.YtmfinfnjamgboaaDoor
