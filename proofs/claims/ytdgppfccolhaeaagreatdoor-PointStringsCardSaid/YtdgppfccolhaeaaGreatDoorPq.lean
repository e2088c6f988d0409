/- Texts of rational numbers: plain mathematics. -/
import Derived.Test.YtdgppfccolhaeaaGreatDoorQ0
import Derived.Test.YtdgppfccolhaeaaGreatDoorStr
import Derived.Test.YtdgppfccolhaeaaGreatDoorDecZ
set_option linter.unusedVariables false
set_option linter.unusedSimpArgs false
namespace Go.Proofs.YtdgppfccolhaeaaGreatDoor
open Go.RowKit NM

theorem makeV_eq (N D : Int) : makeV N D = .tuple #[QV (Rat.divInt N D), .bool (decide (D ≠ 0))] := by
  by_cases h : D = 0
  · rw [makeV_zero h, h, Rat.divInt_zero]; rfl
  · rw [makeV_pos h, decide_eq_true h]
theorem getD_cons0 (b : UInt8) (l : List UInt8) : ((b :: l).map UInt8.toNat).getD 0 0 = b.toNat := rfl
theorem negS_eq (s : ByteArray) : negS s = decide ((bts s).getD 0 0 = 45) := by
  unfold negS Lib.hasPrefix bts
  show List.isPrefixOf [45] s.data.toList = _
  cases s.data.toList with
  | nil => rfl
  | cons b l =>
    rw [getD_cons0]
    simp only [List.isPrefixOf, Bool.and_true]
    rw [Bool.eq_iff_iff, beq_iff_eq, decide_eq_true_eq]
    constructor
    · intro h; rw [← h]; rfl
    · intro h; exact (UInt8.toNat_inj.1 h).symm
theorem restS_true {s : ByteArray} (h : negS s = true) : restS s = s.extract 1 s.size := by
  have h' : Lib.hasPrefix s.data.toList (⟨#[45]⟩ : ByteArray).data.toList = true := h
  apply bts_inj
  rw [bts_extract, List.take_of_length_le (by rw [bts_length]; exact Nat.le_refl _)]
  unfold restS Lib.trimPrefix bts
  rw [h', if_pos rfl, List.map_drop]
  rfl
/-- The index of the first byte of a kind, or the length. -/
def at_ (c : Nat) (s : ByteArray) : Nat := (bts s).findIdx (· == c)
theorem at_le (c : Nat) (s : ByteArray) : at_ c s ≤ s.size := by rw [← bts_length]; exact List.findIdx_le_length
theorem indexByte_at (s : ByteArray) (c : UInt8) : Lib.indexByte s.data.toList c = if at_ c.toNat s < s.size then ((at_ c.toNat s : Nat) : Int) else -1 := by
  have hl : s.size = s.data.toList.length := by rw [Array.length_toList]; rfl
  unfold at_ bts
  rw [hl]
  generalize s.data.toList = l
  induction l with
  | nil => rfl
  | cons b l ih =>
    rw [Lib.indexByte, List.map_cons, List.findIdx_cons, List.length_cons]
    have e : (b.toNat == c.toNat) = (b == c) := by
      rw [Bool.eq_iff_iff, beq_iff_eq, beq_iff_eq]
      exact ⟨fun h => UInt8.toNat_inj.1 h, fun h => by rw [h]⟩
    rw [e]
    cases hb : b == c with
    | true => simp
    | false =>
      rw [ih]
      generalize List.findIdx (· == c.toNat) (List.map UInt8.toNat l) = k
      generalize l.length = m
      by_cases h : k < m
      · have h2 : (((k : Nat) : Int) == -1) = false := by rw [beq_eq_false_iff_ne]; omega
        have h3 : k + 1 < m + 1 := by omega
        simp [h, h2, h3]
      · simp [h]
/-- A text without its leading zeros. -/
def trimZ (s : ByteArray) : ByteArray := ⟨(Lib.trimLeftB s.data.toList 48).toArray⟩
theorem bts_trimZ (s : ByteArray) : bts (trimZ s) = (bts s).dropWhile (· == 48) := by
  unfold bts trimZ Lib.trimLeftB
  show List.map _ (List.dropWhile _ s.data.toList) = _
  generalize s.data.toList = l
  induction l with
  | nil => rfl
  | cons b l ih =>
    rw [List.dropWhile_cons, List.map_cons, List.dropWhile_cons]
    have e : (b.toNat == 48) = (b == 48) := by
      rw [Bool.eq_iff_iff, beq_iff_eq, beq_iff_eq]
      exact ⟨fun h => UInt8.toNat_inj.1 h, fun h => by rw [h]; rfl⟩
    rw [e]
    cases hb : b == 48 with
    | true => simpa using ih
    | false => simp
theorem trimZ_size (s : ByteArray) : (trimZ s).size ≤ s.size := by
  rw [← bts_length, ← bts_length s, bts_trimZ]
  exact (List.dropWhile_sublist _).length_le
theorem digits_iff (s : ByteArray) : Digits s ↔ allDig (bts s) = true := by
  unfold Digits
  rw [← bts_length]
  constructor
  · intro h
    cases ha : allDig (bts s) with
    | true => rfl
    | false =>
      obtain ⟨k, hk, hb, _⟩ := allDig_bad ha
      have := h k hk
      omega
  · exact fun h j hj => allDig_get h hj
theorem decimal_trim {s : ByteArray} (h0 : (trimZ s).size ≠ 0) : Decimal (trimZ s) ↔ allDig (bts s) = true := by
  unfold Decimal
  rw [digits_iff, bts_trimZ, ← allDig_zeros]
  constructor
  · exact fun h => h.2.1
  · intro h
    refine ⟨h0, h, .inl ?_⟩
    rcases zeros_head (bts s) with h1 | h1
    · exact h1
    · rw [← bts_trimZ, bts_nil_iff] at h1
      exact absurd h1 h0
theorem digV_app {a b : List Nat} {x y : Nat} (h1 : digV a = some x) (h2 : digV b = some y) : digV (a ++ b) = some (x * 10 ^ b.length + y) := by
  unfold digV at *
  split at h1
  · cases h1
  split at h2
  · cases h2
  rename_i h3 h4
  rw [not_or] at h3 h4
  have h5 : allDig a = true := by cases h : allDig a <;> simp_all
  have h6 : allDig b = true := by cases h : allDig b <;> simp_all
  rw [if_neg (by rw [not_or]; exact ⟨by simp [h3.1], by rw [allDig_append, h5, h6]; decide⟩), decVal_app a b h6]
  cases h1
  cases h2
  rfl
theorem digV_val {l : List Nat} {x : Nat} (h : digV l = some x) : (can x).size ≤ l.length := by
  unfold digV at h
  split at h
  · cases h
  · rename_i h3
    rw [not_or] at h3
    cases h
    exact decVal_size (by cases h : allDig l <;> simp_all)
/-- The numerator and the denominator that a text without a sign stands for. -/
def fracV (u : ByteArray) : Option (Nat × Nat) :=
  if at_ 47 u < u.size then (digV (bts (u.extract 0 (at_ 47 u)))).bind fun x => (digV (bts (u.extract (at_ 47 u + 1) u.size))).bind fun y => some (x, y)
  else if at_ 46 u < u.size then (digV (bts (u.extract 0 (at_ 46 u)))).bind fun x => (digV (bts (u.extract (at_ 46 u + 1) u.size))).bind fun y => some (x * 10 ^ (u.extract (at_ 46 u + 1) u.size).size + y, 10 ^ (u.extract (at_ 46 u + 1) u.size).size)
  else (digV (bts u)).bind fun x => some (x, 1)
/-- The number with a sign, and whether there is one. -/
def signV (n : Bool) (o : Option (Nat × Nat)) : Value := match o with
  | some p => makeV (iv n (can p.1)) ((p.2 : Nat) : Int)
  | none => .tuple #[Q3 false ⟨#[]⟩ ⟨#[]⟩, .bool false]
/-- What Parse returns. -/
def parseQV (s : ByteArray) : Value := signV (negS s) (fracV (restS s))
theorem norm_sign {n : Bool} {x y : Nat} (h : y ≠ 0) : (.tuple #[QV (rq n (can x) (can y)), .bool true] : Value) = signV n (some (x, y)) := by
  show _ = makeV _ _
  rw [makeV_pos (by show ((y : Nat) : Int) ≠ 0; omega), rq_divInt, dn_ne (by rw [nat_can]; exact h), nat_can]
theorem bad_sign {n : Bool} {x : Nat} : signV n (some (x, 0)) = .tuple #[Q3 false ⟨#[]⟩ ⟨#[]⟩, .bool false] := makeV_zero rfl

/-! A number's text is read back. -/
theorem at_none {c : Nat} {s : ByteArray} (h : ∀ x ∈ bts s, x ≠ c) : at_ c s = s.size := by
  rw [← bts_length]
  exact List.findIdx_eq_length.2 (fun x hx => by simpa using h x hx)
theorem at_mid {c : UInt8} {a b : ByteArray} (h : ∀ x ∈ bts a, x ≠ c.toNat) : at_ c.toNat (a ++ ⟨#[c]⟩ ++ b) = a.size := by
  unfold at_
  rw [bts_append, bts_append, List.append_assoc, List.findIdx_append]
  have e : List.findIdx (· == c.toNat) (bts a) = (bts a).length := List.findIdx_eq_length.2 (fun x hx => by simpa using h x hx)
  rw [e, if_neg (by omega), ← bts_length]
  show List.findIdx _ (c.toNat :: bts b) + _ = _
  rw [List.findIdx_cons]
  simp
theorem digV_dec (n : Nat) : digV (bts (dec n)) = some n := by
  have h := dec_decimal n
  rw [digV_some (fun e => h.1 (bts_nil_iff.1 e)) ((digits_iff _).1 h.2.1), decVal_dec]
theorem dec_bytes (n : Nat) : ∀ x ∈ bts (dec n), 48 ≤ x ∧ x ≤ 57 := fun x hx => by
  rw [bts_dec] at hx
  exact decs_mem hx
theorem frac_whole (a : Nat) : fracV (dec a) = some (a, 1) := by
  have h1 : at_ 47 (dec a) = (dec a).size := at_none (fun x hx => by have := dec_bytes a x hx; omega)
  have h2 : at_ 46 (dec a) = (dec a).size := at_none (fun x hx => by have := dec_bytes a x hx; omega)
  unfold fracV
  rw [if_neg (by omega), if_neg (by omega), digV_dec]
  rfl
theorem frac_slash (a b : Nat) : fracV (dec a ++ ⟨#[47]⟩ ++ dec b) = some (a, b) := by
  have h1 : at_ 47 (dec a ++ ⟨#[47]⟩ ++ dec b) = (dec a).size := at_mid (c := 47) (fun x hx => by have := dec_bytes a x hx; show x ≠ 47; omega)
  have h2 : (⟨#[47]⟩ : ByteArray).size = 1 := rfl
  have hs : (dec a ++ ⟨#[47]⟩ ++ dec b).size = (dec a).size + 1 + (dec b).size := by rw [ByteArray.size_append, ByteArray.size_append, h2]
  unfold fracV
  rw [h1, if_pos (by rw [hs]; omega), hs]
  have e1 : bts ((dec a ++ ⟨#[47]⟩ ++ dec b).extract 0 (dec a).size) = bts (dec a) := by
    rw [bts_extract, List.drop_zero, bts_append, bts_append, List.append_assoc, List.take_append_of_le_length (by rw [bts_length]; omega), List.take_of_length_le (by rw [bts_length]; omega)]
  have e2 : bts ((dec a ++ ⟨#[47]⟩ ++ dec b).extract ((dec a).size + 1) ((dec a).size + 1 + (dec b).size)) = bts (dec b) := by
    rw [bts_extract, List.take_of_length_le (by rw [bts_length, hs]; omega), bts_append, List.drop_left' (by rw [bts_length, ByteArray.size_append, h2])]
  rw [e1, e2, digV_dec, digV_dec]
  rfl
theorem text_abs (q : Rat) : textQ q = if q.num < 0 then ⟨#[45]⟩ ++ (if q.den = 1 then dec q.num.natAbs else dec q.num.natAbs ++ ⟨#[47]⟩ ++ dec q.den) else (if q.den = 1 then dec q.num.natAbs else dec q.num.natAbs ++ ⟨#[47]⟩ ++ dec q.den) := by
  unfold textQ decZ
  rw [if_neg (show ¬ ((q.den : Nat) : Int) < 0 by omega), Int.natAbs_natCast]
  by_cases h : q.num < 0
  · rw [if_pos h, if_pos h]
    split
    · rfl
    · rw [ByteArray.append_assoc, ByteArray.append_assoc, ByteArray.append_assoc]
  · rw [if_neg h, if_neg h]
theorem frac_text (q : Rat) : fracV (if q.den = 1 then dec q.num.natAbs else dec q.num.natAbs ++ ⟨#[47]⟩ ++ dec q.den) = some (q.num.natAbs, q.den) := by
  split
  · rename_i h
    rw [frac_whole, h]
  · exact frac_slash _ _
theorem negS_text {q : Rat} : negS (if q.den = 1 then dec q.num.natAbs else dec q.num.natAbs ++ ⟨#[47]⟩ ++ dec q.den) = false := by
  refine negS_false (fun x hx => ?_)
  split at hx
  · have := dec_bytes _ x hx; omega
  · rw [bts_append, bts_append, List.mem_append, List.mem_append] at hx
    rcases hx with (hx | hx) | hx
    · have := dec_bytes _ x hx; omega
    · have : x = 47 := by simpa [bts] using hx
      omega
    · have := dec_bytes _ x hx; omega
theorem parse_text (q : Rat) : parseQV (textQ q) = .tuple #[QV q, .bool true] := by
  unfold parseQV
  rw [text_abs]
  by_cases h : q.num < 0
  · rw [if_pos h, restS_minus, negS_minus, frac_text, ← norm_sign q.den_nz]
    unfold rq
    rw [iv_true, nat_can, dn_ne (by rw [nat_can]; exact q.den_nz), nat_can, show -((q.num.natAbs : Nat) : Int) = q.num by omega, Rat.mkRat_self]
  · rw [if_neg h, restS_false negS_text, negS_text, frac_text, ← norm_sign q.den_nz]
    unfold rq
    rw [iv_false, nat_can, dn_ne (by rw [nat_can]; exact q.den_nz), nat_can, show ((q.num.natAbs : Nat) : Int) = q.num by omega, Rat.mkRat_self]
end Go.Proofs.YtdgppfccolhaeaaGreatDoor
