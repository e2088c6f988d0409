/- IntegerText returns true for every argument (api.Int, api.Int, string), whatever is in memory; every argument reads afterwards as before. Condition: the table math/bits.deBruijn32tab holds what the program's text lays, as the card ties it. -/
import Derived.Test.YtmfinfnjamgboaaDoorParseZ
import Derived.Test.YtmfinfnjamgboaaDoorDec
import Derived.Test.YtmfinfnjamgboaaDoorRefText
import Derived.Test.YtmfinfnjamgboaaDoorRefParse
import Derived.Test.YtmfinfnjamgboaaDoorFmtZ
import Derived.Test.YtmfinfnjamgboaaDoorGcd
import Derived.Test.YtmfinfnjamgboaaDoorFixed
import Derived.Test.YtmfinfnjamgboaaDoorPostZ
import Derived.Test.YtmfinfnjamgboaaDoorCards
import Derived.Test.YtmfinfnjamgboaaDoorTie
/- integer.Parse undoes integer.Format: plain mathematics of the two. -/
namespace Go.Proofs.YtmfinfnjamgboaaDoor
open Go.RowKit NM

theorem negS_false {s : ByteArray} (h : ∀ x ∈ bts s, x ≠ 45) : negS s = false := by
  unfold negS Lib.hasPrefix
  unfold bts at h
  show List.isPrefixOf [45] s.data.toList = false
  cases hl : s.data.toList with
  | nil => rfl
  | cons a l =>
    rw [hl] at h
    have h1 := h a.toNat (by simp)
    have h2 : (45 == a) = false := by
      rw [beq_eq_false_iff_ne]
      intro e
      exact h1 (by rw [← e]; rfl)
    simp only [List.isPrefixOf]
    rw [h2]
    rfl
theorem restS_false {s : ByteArray} (h : negS s = false) : restS s = s := by
  have h' : Lib.hasPrefix s.data.toList (⟨#[45]⟩ : ByteArray).data.toList = false := h
  unfold restS Lib.trimPrefix
  rw [h']
  simp
theorem data_minus (t : ByteArray) : ((⟨#[45]⟩ : ByteArray) ++ t).data.toList = 45 :: t.data.toList := by
  rw [ByteArray.data_append]
  simp
theorem negS_minus (t : ByteArray) : negS (⟨#[45]⟩ ++ t) = true := by
  unfold negS Lib.hasPrefix
  rw [data_minus]
  show List.isPrefixOf [45] (45 :: t.data.toList) = true
  simp [List.isPrefixOf]
theorem restS_minus (t : ByteArray) : restS (⟨#[45]⟩ ++ t) = t := by
  have h' : Lib.hasPrefix ((⟨#[45]⟩ : ByteArray) ++ t).data.toList (⟨#[45]⟩ : ByteArray).data.toList = true := negS_minus t
  unfold restS Lib.trimPrefix
  rw [h', data_minus]
  simp
theorem decVal_dec (n : Nat) : decVal (bts (dec n)) = n := by rw [bts_dec, decVal_decs]
theorem parse_decZ (z : Int) : parseZ (decZ z) = .tuple #[Z z, .bool true] := by
  by_cases h : z < 0
  · have hg : GoodZ (decZ z) := by
      rw [decZ_neg h]
      unfold GoodZ
      rw [restS_minus, decVal_dec]
      exact ⟨dec_decimal _, fun h2 => by have := h2.2; omega⟩
    rw [parseZ_yes hg, decZ_neg h, restS_minus, negS_minus, decVal_dec]
    rw [show iv true (can z.natAbs) = z by rw [iv_true, nat_can]; omega]
  · have hn : negS (dec z.natAbs) = false := negS_false (fun x hx => by rw [bts_dec] at hx; have := decs_mem hx; omega)
    have hg : GoodZ (decZ z) := by
      rw [decZ_pos h]
      unfold GoodZ
      rw [restS_false hn, hn]
      exact ⟨dec_decimal _, fun h2 => by have := h2.1; exact absurd this (by decide)⟩
    rw [parseZ_yes hg, decZ_pos h, restS_false hn, hn, decVal_dec]
    rw [show iv false (can z.natAbs) = z by rw [iv_false, nat_can]; omega]
end Go.Proofs.YtmfinfnjamgboaaDoor

/- voussoirref02.Small, Text, Parse. -/
namespace Go.Proofs.YtmfinfnjamgboaaDoor
open Go.RowKit NM

theorem big_ne {z : Int} (h : z < 9223372036854775808) : (z == 9223372036854775808) = false := beq_eq_false_iff_ne.2 (by omega)

set_option maxHeartbeats 1000000 in
theorem Small_a (s : ByteArray) (k : Nat) (w : World) (hs : s.size ≤ maxLen) (Hk : Hid (nat s = k)) (h : (k : Int) < 9223372036854775808) :
    Calls Tryd.prog 10 #[I2 false s] w fun e w' => e = .returned (i64Val (iv false s)) ∧ Below w.heap.size w w' := by
  rw [iv_false, Hk.out, i64Val_yes (by omega) (by omega)]
  have HU := Lib.hid (u64Val_lt (n := k) (by omega))
  go_enter Tryd.func10, Tryd.ntmps10
  go_wp2_with fail
  refine (Num_any s _ hs).mono ?_
  rintro e w1 ⟨rfl, rfl⟩
  rw [Hk.out, HU.out]
  have h00 : 0 ≤ (k : Int) := Int.natCast_nonneg k
  have hzb := big_ne h
  clear HU Hk
  generalize hkz : (k : Int) = z at h h00 hzb ⊢
  have HKZ := Lib.hid hkz
  clear hkz
  go_wp2_with fail
  go_ret2
  exact ⟨by rw [HKZ.out]; rfl, below_alloc _ _⟩

set_option maxHeartbeats 1000000 in
theorem Small_b (s : ByteArray) (k : Nat) (w : World) (hs : s.size ≤ maxLen) (Hk : Hid (nat s = k)) (h : k = 9223372036854775808) :
    Calls Tryd.prog 10 #[I2 false s] w fun e w' => e = .returned (i64Val (iv false s)) ∧ Below w.heap.size w w' := by
  rw [iv_false, Hk.out, i64Val_no (by omega)]
  subst h
  have HU := Lib.hid (u64Val_lt (n := 9223372036854775808) (by omega))
  go_enter Tryd.func10, Tryd.ntmps10
  go_wp2_with fail
  refine (Num_any s _ hs).mono ?_
  rintro e w1 ⟨rfl, rfl⟩
  rw [Hk.out, HU.out]
  go_wp2_with fail
  go_ret2
  exact ⟨rfl, below_alloc _ _⟩

set_option maxHeartbeats 1000000 in
theorem Small_c (s : ByteArray) (k : Nat) (w : World) (hs : s.size ≤ maxLen) (Hk : Hid (nat s = k)) (h : 9223372036854775808 < (k : Int)) (h2 : k < 18446744073709551616) :
    Calls Tryd.prog 10 #[I2 false s] w fun e w' => e = .returned (i64Val (iv false s)) ∧ Below w.heap.size w w' := by
  rw [iv_false, Hk.out, i64Val_no (by omega)]
  have HU := Lib.hid (u64Val_lt (n := k) h2)
  go_enter Tryd.func10, Tryd.ntmps10
  go_wp2_with fail
  refine (Num_any s _ hs).mono ?_
  rintro e w1 ⟨rfl, rfl⟩
  rw [Hk.out, HU.out]
  go_wp2_with fail
  go_ret2
  exact ⟨rfl, below_alloc _ _⟩

set_option maxHeartbeats 1000000 in
theorem Small_d (s : ByteArray) (k : Nat) (w : World) (hs : s.size ≤ maxLen) (Hk : Hid (nat s = k)) (h2 : ¬ k < 18446744073709551616) :
    Calls Tryd.prog 10 #[I2 false s] w fun e w' => e = .returned (i64Val (iv false s)) ∧ Below w.heap.size w w' := by
  rw [iv_false, Hk.out, i64Val_no (by omega)]
  have HU := Lib.hid (u64Val_ge (n := k) h2)
  go_enter Tryd.func10, Tryd.ntmps10
  go_wp2_with fail
  refine (Num_any s _ hs).mono ?_
  rintro e w1 ⟨rfl, rfl⟩
  rw [Hk.out, HU.out]
  go_wp2_with fail
  go_ret2
  exact ⟨rfl, below_alloc _ _⟩

set_option maxHeartbeats 1000000 in
theorem Small_e (s : ByteArray) (k : Nat) (w : World) (hs : s.size ≤ maxLen) (Hk : Hid (nat s = k)) (h : k = 0) :
    Calls Tryd.prog 10 #[I2 true s] w fun e w' => e = .returned (i64Val (iv true s)) ∧ Below w.heap.size w w' := by
  rw [iv_true, Hk.out, i64Val_yes (by omega) (by omega)]
  subst h
  have HU := Lib.hid (u64Val_lt (n := 0) (by omega))
  go_enter Tryd.func10, Tryd.ntmps10
  go_wp2_with fail
  refine (Num_any s _ hs).mono ?_
  rintro e w1 ⟨rfl, rfl⟩
  rw [Hk.out, HU.out]
  go_wp2_with fail
  go_ret2
  exact ⟨rfl, below_alloc _ _⟩

set_option maxHeartbeats 1000000 in
theorem Small_f (s : ByteArray) (k : Nat) (w : World) (hs : s.size ≤ maxLen) (Hk : Hid (nat s = k)) (h0 : 0 < (k : Int)) (h : (k : Int) < 9223372036854775808) :
    Calls Tryd.prog 10 #[I2 true s] w fun e w' => e = .returned (i64Val (iv true s)) ∧ Below w.heap.size w w' := by
  rw [iv_true, Hk.out, i64Val_yes (by omega) (by omega)]
  have HU := Lib.hid (u64Val_lt (n := k) (by omega))
  go_enter Tryd.func10, Tryd.ntmps10
  go_wp2_with fail
  refine (Num_any s _ hs).mono ?_
  rintro e w1 ⟨rfl, rfl⟩
  rw [Hk.out, HU.out]
  have h00 : 0 ≤ (k : Int) := Int.natCast_nonneg k
  have hzb := big_ne h
  clear HU Hk
  generalize hkz : (k : Int) = z at h0 h h00 hzb ⊢
  have HKZ := Lib.hid hkz
  clear hkz
  go_wp2_with fail
  rw [show (-(z - 1) - 1) = -z by omega]
  go_ret2
  exact ⟨by rw [HKZ.out]; rfl, below_alloc _ _⟩

set_option maxHeartbeats 1000000 in
theorem Small_g (s : ByteArray) (k : Nat) (w : World) (hs : s.size ≤ maxLen) (Hk : Hid (nat s = k)) (h : k = 9223372036854775808) :
    Calls Tryd.prog 10 #[I2 true s] w fun e w' => e = .returned (i64Val (iv true s)) ∧ Below w.heap.size w w' := by
  rw [iv_true, Hk.out, i64Val_yes (by omega) (by omega)]
  subst h
  have HU := Lib.hid (u64Val_lt (n := 9223372036854775808) (by omega))
  go_enter Tryd.func10, Tryd.ntmps10
  go_wp2_with fail
  refine (Num_any s _ hs).mono ?_
  rintro e w1 ⟨rfl, rfl⟩
  rw [Hk.out, HU.out]
  go_wp2_with fail
  go_ret2
  exact ⟨rfl, below_alloc _ _⟩

set_option maxHeartbeats 1000000 in
theorem Small_i (s : ByteArray) (k : Nat) (w : World) (hs : s.size ≤ maxLen) (Hk : Hid (nat s = k)) (h : 9223372036854775808 < (k : Int)) (h2 : k < 18446744073709551616) :
    Calls Tryd.prog 10 #[I2 true s] w fun e w' => e = .returned (i64Val (iv true s)) ∧ Below w.heap.size w w' := by
  rw [iv_true, Hk.out, i64Val_no (by omega)]
  have HU := Lib.hid (u64Val_lt (n := k) h2)
  go_enter Tryd.func10, Tryd.ntmps10
  go_wp2_with fail
  refine (Num_any s _ hs).mono ?_
  rintro e w1 ⟨rfl, rfl⟩
  rw [Hk.out, HU.out]
  go_wp2_with fail
  go_ret2
  exact ⟨rfl, below_alloc _ _⟩

set_option maxHeartbeats 1000000 in
theorem Small_j (s : ByteArray) (k : Nat) (w : World) (hs : s.size ≤ maxLen) (Hk : Hid (nat s = k)) (h2 : ¬ k < 18446744073709551616) :
    Calls Tryd.prog 10 #[I2 true s] w fun e w' => e = .returned (i64Val (iv true s)) ∧ Below w.heap.size w w' := by
  rw [iv_true, Hk.out, i64Val_no (by omega)]
  have HU := Lib.hid (u64Val_ge (n := k) h2)
  go_enter Tryd.func10, Tryd.ntmps10
  go_wp2_with fail
  refine (Num_any s _ hs).mono ?_
  rintro e w1 ⟨rfl, rfl⟩
  rw [Hk.out, HU.out]
  go_wp2_with fail
  go_ret2
  exact ⟨rfl, below_alloc _ _⟩

theorem Small_any (n : Bool) (s : ByteArray) (w : World) (hs : s.size ≤ maxLen) :
    Calls Tryd.prog 10 #[I2 n s] w fun e w' => e = .returned (i64Val (iv n s)) ∧ Below w.heap.size w w' := by
  obtain ⟨k, hk⟩ : ∃ k, nat s = k := ⟨_, rfl⟩
  have Hk := Lib.hid hk
  clear hk
  cases n
  · by_cases h2 : k < 18446744073709551616
    · rcases Nat.lt_trichotomy k 9223372036854775808 with h | h | h
      · exact Small_a s k w hs Hk (by omega)
      · exact Small_b s k w hs Hk h
      · exact Small_c s k w hs Hk (by omega) h2
    · exact Small_d s k w hs Hk h2
  · by_cases h2 : k < 18446744073709551616
    · rcases Nat.lt_trichotomy k 9223372036854775808 with h | h | h
      · by_cases h0 : k = 0
        · exact Small_e s k w hs Hk h0
        · exact Small_f s k w hs Hk (by omega) (by omega)
      · exact Small_g s k w hs Hk h
      · exact Small_i s k w hs Hk (by omega) h2
    · exact Small_j s k w hs Hk h2

set_option maxHeartbeats 1000000 in
theorem refText2_neg (n : Bool) (s : ByteArray) (w : World) (hs : s.size ≤ 1048576) (hz : sg (iv n s) = true) :
    Calls Tryd.prog 12 #[I2 n s] w fun e w' => e = .returned (.string (decZ (iv n s))) ∧ Below w.heap.size w w' := by
  have p1 := mg_iv_size (n := n) hs
  have hd := decN_size (mg_lt p1)
  rw [decZ_neg (by simpa [sg] using hz)]
  have hR := Hold.start1 w 23 (.bool n) (.string s)
  go_enter Tryd.func12, Tryd.ntmps12
  go_wp2_with fail
  refine (refNorm2_any n s _ (by simp [maxLen]; omega)).mono ?_
  rintro e w1 ⟨rfl, hb1⟩
  replace hR := (hR.keep hb1).box (.bool true) (.string (mg (iv n s)))
  clear hb1
  go_wp2_with fail
  refine (refText_any _ _ (by omega)).mono ?_
  rw [nat_mg]
  rintro e w2 ⟨rfl, hb2⟩
  replace hR := hR.keep hb2
  go_wp2_with fail
  go_ret
  exact ⟨rfl, hR.below⟩

set_option maxHeartbeats 1000000 in
theorem refText2_pos (n : Bool) (s : ByteArray) (w : World) (hs : s.size ≤ 1048576) (hz : sg (iv n s) = false) :
    Calls Tryd.prog 12 #[I2 n s] w fun e w' => e = .returned (.string (decZ (iv n s))) ∧ Below w.heap.size w w' := by
  have p1 := mg_iv_size (n := n) hs
  have hd := decN_size (mg_lt p1)
  rw [decZ_pos (by simpa [sg] using hz)]
  have hR := Hold.start1 w 23 (.bool n) (.string s)
  go_enter Tryd.func12, Tryd.ntmps12
  go_wp2_with fail
  refine (refNorm2_any n s _ (by simp [maxLen]; omega)).mono ?_
  rintro e w1 ⟨rfl, hb1⟩
  replace hR := (hR.keep hb1).box (.bool false) (.string (mg (iv n s)))
  clear hb1
  go_wp2_with fail
  refine (refText_any _ _ (by omega)).mono ?_
  rw [nat_mg]
  rintro e w2 ⟨rfl, hb2⟩
  replace hR := hR.keep hb2
  go_wp2_with fail
  go_ret
  exact ⟨rfl, hR.below⟩
theorem refText2_any (n : Bool) (s : ByteArray) (w : World) (hs : s.size ≤ 1048576) :
    Calls Tryd.prog 12 #[I2 n s] w fun e w' => e = .returned (.string (decZ (iv n s))) ∧ Below w.heap.size w w' := by
  cases hz : sg (iv n s)
  · exact refText2_pos n s w hs hz
  · exact refText2_neg n s w hs hz
end Go.Proofs.YtmfinfnjamgboaaDoor

/- voussoirref02.Parse. -/
namespace Go.Proofs.YtmfinfnjamgboaaDoor
open Go.RowKit NM

theorem negS_cons {s : ByteArray} (h : negS s = true) : ∃ l, s.data.toList = 45 :: l := by
  unfold negS Lib.hasPrefix at h
  change List.isPrefixOf [45] s.data.toList = true at h
  cases hl : s.data.toList with
  | nil => rw [hl] at h; simp [List.isPrefixOf] at h
  | cons a l =>
    rw [hl] at h
    simp [List.isPrefixOf] at h
    exact ⟨l, by rw [h]⟩
theorem size_data (s : ByteArray) : s.data.toList.length = s.size := by
  rw [Array.length_toList]; rfl
theorem negS_true_at {s : ByteArray} (h : negS s = true) : ∃ hp : 0 < s.size, ((s[0].toNat : Nat) : Int) = 45 := by
  obtain ⟨l, hl⟩ := negS_cons h
  have hs := size_data s
  rw [hl] at hs
  simp at hs
  refine ⟨by omega, ?_⟩
  have h0 : (bts s).getD 0 0 = 45 := by unfold bts; rw [hl]; rfl
  rw [bts_getD s 0 (by omega)] at h0
  omega
theorem negS_false_at {s : ByteArray} (h : negS s = false) (hp : 0 < s.size) : ((s[0].toNat : Nat) : Int) ≠ 45 := by
  intro e
  have h0 : (bts s).getD 0 0 = 45 := by rw [bts_getD s 0 hp]; omega
  unfold negS Lib.hasPrefix at h
  change List.isPrefixOf [45] s.data.toList = false at h
  unfold bts at h0
  cases hl : s.data.toList with
  | nil =>
    have hs := size_data s
    rw [hl] at hs
    simp at hs
    omega
  | cons a l =>
    rw [hl] at h h0
    simp at h0
    have ha : a = 45 := UInt8.toNat_inj.1 h0
    rw [ha] at h
    simp [List.isPrefixOf] at h
theorem restS_true {s : ByteArray} (h : negS s = true) : s.extract 1 s.size = restS s := by
  apply bts_inj
  rw [bts_extract]
  have hl := bts_length s
  rw [List.take_of_length_le (by omega)]
  have h' : Lib.hasPrefix s.data.toList (⟨#[45]⟩ : ByteArray).data.toList = true := h
  unfold restS Lib.trimPrefix
  rw [h']
  unfold bts
  simp

set_option maxHeartbeats 1000000 in
theorem refParse2_bad_empty (s : ByteArray) (w : World) (hs : s.size ≤ 1048576) (he : s.size = 0) (hn : negS s = false) (hd : ¬ Decimal (restS s)) :
    Calls Tryd.prog 8 #[.string s] w fun e w' => e = .returned (parseZ s) ∧ Below w.heap.size w w' := by
  rw [parseZ_no (fun h => hd h.1)]
  rw [restS_false hn] at hd
  have HP := Lib.hid (parseVal_no hd)
  have ht : ¬ 0 < s.size := by omega
  clear he
  clear hn hd
  have hR := Hold.start1 w 23 (.bool false) (.string ⟨#[]⟩)
  go_enter Tryd.func8, Tryd.ntmps8
  go_wp2_with fail
  refine (refParse_any _ _ (by omega)).mono ?_
  rw [HP.out]
  rintro e w2 ⟨rfl, hb2⟩
  replace hR := hR.keep hb2
  clear hb2
  obtain ⟨a1, a2, -⟩ := hR.all1
  obtain ⟨-, -, f1, f2⟩ := (hR.1 _ (List.mem_cons_self ..)).two
  go_wp2_with fail
  exact bodyPost_ret (by simp [results, Tryd.results8, go_sem, a1, a2]) rfl ⟨rfl, set2 hR.below (Nat.le_refl _) _ _⟩

set_option maxHeartbeats 1000000 in
theorem refParse2_good_empty (s : ByteArray) (w : World) (hs : s.size ≤ 1048576) (he : s.size = 0) (hn : negS s = false) (hd : Decimal (restS s)) :
    Calls Tryd.prog 8 #[.string s] w fun e w' => e = .returned (parseZ s) ∧ Below w.heap.size w w' := by
  rw [parseZ_yes ⟨hd, fun h => by rw [hn] at h; exact absurd h.1 (by decide)⟩, hn]
  rw [restS_false hn] at hd ⊢
  have hz := decVal_size' hd
  have HP := Lib.hid (parseVal_yes hd)
  have ht : ¬ 0 < s.size := by omega
  clear he
  clear hn hd
  have hR := Hold.start1 w 23 (.bool false) (.string ⟨#[]⟩)
  go_enter Tryd.func8, Tryd.ntmps8
  go_wp2_with fail
  refine (refParse_any _ _ (by omega)).mono ?_
  rw [HP.out]
  rintro e w2 ⟨rfl, hb2⟩
  replace hR := hR.keep hb2
  clear hb2
  obtain ⟨a1, a2, -⟩ := hR.all1
  obtain ⟨-, -, f1, f2⟩ := (hR.1 _ (List.mem_cons_self ..)).two
  go_wp2_with fail
  clear a1 a2 f1 f2
  refine (of_any _ _ _ (by simp [maxLen]; omega)).mono ?_
  rintro e w3 ⟨rfl, hb3⟩
  replace hR := hR.keep hb3
  clear hb3
  obtain ⟨a1, a2, -⟩ := hR.all1
  obtain ⟨-, -, f1, f2⟩ := (hR.1 _ (List.mem_cons_self ..)).two
  go_wp2_with fail
  exact bodyPost_ret (by simp [results, Tryd.results8, go_sem, a1, a2]) rfl ⟨rfl, set2 hR.below (Nat.le_refl _) _ _⟩

set_option maxHeartbeats 1000000 in
theorem refParse2_bad_other (s : ByteArray) (w : World) (hs : s.size ≤ 1048576) (hp : 0 < s.size) (hn : negS s = false) (hd : ¬ Decimal (restS s)) :
    Calls Tryd.prog 8 #[.string s] w fun e w' => e = .returned (parseZ s) ∧ Below w.heap.size w w' := by
  rw [parseZ_no (fun h => hd h.1)]
  rw [restS_false hn] at hd
  have HP := Lib.hid (parseVal_no hd)
  have h45 : ((s[0].toNat : Int) == 45) = false := beq_eq_false_iff_ne.2 (negS_false_at hn hp)
  clear hn hd
  have hR := Hold.start1 w 23 (.bool false) (.string ⟨#[]⟩)
  go_enter Tryd.func8, Tryd.ntmps8
  go_wp2_with fail
  refine (refParse_any _ _ (by omega)).mono ?_
  rw [HP.out]
  rintro e w2 ⟨rfl, hb2⟩
  replace hR := hR.keep hb2
  clear hb2
  obtain ⟨a1, a2, -⟩ := hR.all1
  obtain ⟨-, -, f1, f2⟩ := (hR.1 _ (List.mem_cons_self ..)).two
  go_wp2_with fail
  exact bodyPost_ret (by simp [results, Tryd.results8, go_sem, a1, a2]) rfl ⟨rfl, set2 hR.below (Nat.le_refl _) _ _⟩

set_option maxHeartbeats 1000000 in
theorem refParse2_good_other (s : ByteArray) (w : World) (hs : s.size ≤ 1048576) (hp : 0 < s.size) (hn : negS s = false) (hd : Decimal (restS s)) :
    Calls Tryd.prog 8 #[.string s] w fun e w' => e = .returned (parseZ s) ∧ Below w.heap.size w w' := by
  rw [parseZ_yes ⟨hd, fun h => by rw [hn] at h; exact absurd h.1 (by decide)⟩, hn]
  rw [restS_false hn] at hd ⊢
  have hz := decVal_size' hd
  have HP := Lib.hid (parseVal_yes hd)
  have h45 : ((s[0].toNat : Int) == 45) = false := beq_eq_false_iff_ne.2 (negS_false_at hn hp)
  clear hn hd
  have hR := Hold.start1 w 23 (.bool false) (.string ⟨#[]⟩)
  go_enter Tryd.func8, Tryd.ntmps8
  go_wp2_with fail
  refine (refParse_any _ _ (by omega)).mono ?_
  rw [HP.out]
  rintro e w2 ⟨rfl, hb2⟩
  replace hR := hR.keep hb2
  clear hb2
  obtain ⟨a1, a2, -⟩ := hR.all1
  obtain ⟨-, -, f1, f2⟩ := (hR.1 _ (List.mem_cons_self ..)).two
  go_wp2_with fail
  clear a1 a2 f1 f2
  refine (of_any _ _ _ (by simp [maxLen]; omega)).mono ?_
  rintro e w3 ⟨rfl, hb3⟩
  replace hR := hR.keep hb3
  clear hb3
  obtain ⟨a1, a2, -⟩ := hR.all1
  obtain ⟨-, -, f1, f2⟩ := (hR.1 _ (List.mem_cons_self ..)).two
  go_wp2_with fail
  exact bodyPost_ret (by simp [results, Tryd.results8, go_sem, a1, a2]) rfl ⟨rfl, set2 hR.below (Nat.le_refl _) _ _⟩

set_option maxHeartbeats 1000000 in
theorem refParse2_mbad (s : ByteArray) (w : World) (hs : s.size ≤ 1048576) (hn : negS s = true) (hd : ¬ Decimal (restS s)) :
    Calls Tryd.prog 8 #[.string s] w fun e w' => e = .returned (parseZ s) ∧ Below w.heap.size w w' := by
  rw [parseZ_no (fun h => hd h.1)]
  have HP := Lib.hid (parseVal_no hd)
  obtain ⟨hp, h45⟩ := negS_true_at hn
  have h45' : ((s[0].toNat : Int) == 45) = true := beq_iff_eq.2 h45
  have hr := restS_size s
  have HX := Lib.hid (restS_true hn)
  clear hn hd h45
  have hR := Hold.start1 w 23 (.bool false) (.string ⟨#[]⟩)
  go_enter Tryd.func8, Tryd.ntmps8
  go_wp2_with fail
  rw [HX.out]
  refine (refParse_any _ _ (by omega)).mono ?_
  rw [HP.out]
  rintro e w2 ⟨rfl, hb2⟩
  replace hR := hR.keep hb2
  clear hb2
  obtain ⟨a1, a2, -⟩ := hR.all1
  obtain ⟨-, -, f1, f2⟩ := (hR.1 _ (List.mem_cons_self ..)).two
  go_wp2_with fail
  exact bodyPost_ret (by simp [results, Tryd.results8, go_sem, a1, a2]) rfl ⟨rfl, set2 hR.below (Nat.le_refl _) _ _⟩

set_option maxHeartbeats 1000000 in
theorem refParse2_mzero (s : ByteArray) (w : World) (hs : s.size ≤ 1048576) (hn : negS s = true) (hd : Decimal (restS s)) (hv : decVal (bts (restS s)) = 0) :
    Calls Tryd.prog 8 #[.string s] w fun e w' => e = .returned (parseZ s) ∧ Below w.heap.size w w' := by
  rw [parseZ_no (fun h => h.2 ⟨hn, hv⟩)]
  have he := isEmpty_pos hv
  have hz := decVal_size' hd
  have HP := Lib.hid (parseVal_yes hd)
  obtain ⟨hp, h45⟩ := negS_true_at hn
  have h45' : ((s[0].toNat : Int) == 45) = true := beq_iff_eq.2 h45
  have hr := restS_size s
  have HX := Lib.hid (restS_true hn)
  clear hn hd hv h45
  have hR := Hold.start1 w 23 (.bool false) (.string ⟨#[]⟩)
  go_enter Tryd.func8, Tryd.ntmps8
  go_wp2_with fail
  rw [HX.out]
  refine (refParse_any _ _ (by omega)).mono ?_
  rw [HP.out]
  rintro e w2 ⟨rfl, hb2⟩
  replace hR := hR.keep hb2
  clear hb2
  obtain ⟨a1, a2, -⟩ := hR.all1
  obtain ⟨-, -, f1, f2⟩ := (hR.1 _ (List.mem_cons_self ..)).two
  go_wp2_with fail
  refine (Norm_any _ _ (by simp [maxLen]; omega)).mono ?_
  rintro e w4 ⟨rfl, rfl⟩
  rw [nat_can]
  go_wp2_with fail
  exact bodyPost_ret (by simp [results, Tryd.results8, go_sem, a1, a2]) rfl ⟨rfl, set2 hR.below (Nat.le_refl _) _ _⟩

set_option maxHeartbeats 1000000 in
theorem refParse2_mgood (s : ByteArray) (w : World) (hs : s.size ≤ 1048576) (hn : negS s = true) (hd : Decimal (restS s)) (hv : decVal (bts (restS s)) ≠ 0) :
    Calls Tryd.prog 8 #[.string s] w fun e w' => e = .returned (parseZ s) ∧ Below w.heap.size w w' := by
  rw [parseZ_yes ⟨hd, fun h => hv h.2⟩, hn]
  have he := isEmpty_neg hv
  have hz := decVal_size' hd
  have HP := Lib.hid (parseVal_yes hd)
  obtain ⟨hp, h45⟩ := negS_true_at hn
  have h45' : ((s[0].toNat : Int) == 45) = true := beq_iff_eq.2 h45
  have hr := restS_size s
  have HX := Lib.hid (restS_true hn)
  clear hn hd hv h45
  have hR := Hold.start1 w 23 (.bool false) (.string ⟨#[]⟩)
  go_enter Tryd.func8, Tryd.ntmps8
  go_wp2_with fail
  rw [HX.out]
  refine (refParse_any _ _ (by omega)).mono ?_
  rw [HP.out]
  rintro e w2 ⟨rfl, hb2⟩
  replace hR := hR.keep hb2
  clear hb2
  obtain ⟨a1, a2, -⟩ := hR.all1
  obtain ⟨-, -, f1, f2⟩ := (hR.1 _ (List.mem_cons_self ..)).two
  go_wp2_with fail
  refine (Norm_any _ _ (by simp [maxLen]; omega)).mono ?_
  rintro e w4 ⟨rfl, rfl⟩
  rw [nat_can]
  go_wp2_with fail
  clear a1 a2 f1 f2
  refine (of_any _ _ _ (by simp [maxLen]; omega)).mono ?_
  rintro e w3 ⟨rfl, hb3⟩
  replace hR := hR.keep hb3
  clear hb3
  obtain ⟨a1, a2, -⟩ := hR.all1
  obtain ⟨-, -, f1, f2⟩ := (hR.1 _ (List.mem_cons_self ..)).two
  go_wp2_with fail
  exact bodyPost_ret (by simp [results, Tryd.results8, go_sem, a1, a2]) rfl ⟨rfl, set2 hR.below (Nat.le_refl _) _ _⟩

theorem refParse2_any (s : ByteArray) (w : World) (hs : s.size ≤ 1048576) :
    Calls Tryd.prog 8 #[.string s] w fun e w' => e = .returned (parseZ s) ∧ Below w.heap.size w w' := by
  cases hn : negS s
  · by_cases hd : Decimal (restS s)
    · by_cases hp : 0 < s.size
      · exact refParse2_good_other s w hs hp hn hd
      · exact refParse2_good_empty s w hs (by omega) hn hd
    · by_cases hp : 0 < s.size
      · exact refParse2_bad_other s w hs hp hn hd
      · exact refParse2_bad_empty s w hs (by omega) hn hd
  · by_cases hd : Decimal (restS s)
    · by_cases hv : decVal (bts (restS s)) = 0
      · exact refParse2_mzero s w hs hn hd hv
      · exact refParse2_mgood s w hs hn hd hv
    · exact refParse2_mbad s w hs hn hd
end Go.Proofs.YtmfinfnjamgboaaDoor

/- integer.Gcd and voussoirref02.Gcd over a list of integers. -/
namespace Go.Proofs.YtmfinfnjamgboaaDoor
open Go.RowKit NM

/-- The cells of a list of integers, and the greatest common divisor of their magnitudes. -/
def flatZ (L : List (Bool × ByteArray)) : List Value := L.flatMap fun x => [.bool x.1, .string x.2]
def gcdL (L : List (Bool × ByteArray)) : Nat := L.foldl (fun g x => Nat.gcd g (nat x.2)) 0
theorem gcdL_nil : gcdL [] = 0 := rfl
theorem gcdL_snoc (L : List (Bool × ByteArray)) (x : Bool × ByteArray) : gcdL (L ++ [x]) = Nat.gcd (gcdL L) (nat x.2) := by
  unfold gcdL
  rw [List.foldl_append]
  rfl
theorem gcdL_take {L : List (Bool × ByteArray)} {k : Nat} (h : k < L.length) : gcdL (L.take (k + 1)) = Nat.gcd (gcdL (L.take k)) (nat (L[k]).2) := by
  rw [List.take_succ_eq_append_getElem h, gcdL_snoc]
theorem flatZ_length (L : List (Bool × ByteArray)) : (flatZ L).length = L.length * 2 := by
  induction L with
  | nil => rfl
  | cons x L ih =>
    show (Value.bool x.1 :: Value.string x.2 :: flatZ L).length = _
    rw [List.length_cons, List.length_cons, ih, List.length_cons]
    omega
theorem flatZ_at {L : List (Bool × ByteArray)} {k : Nat} (h : k < L.length) : (flatZ L)[k * 2]? = some (.bool (L[k]).1) ∧ (flatZ L)[k * 2 + 1]? = some (.string (L[k]).2) := by
  induction L generalizing k with
  | nil => simp at h
  | cons x L ih =>
    have e : flatZ (x :: L) = .bool x.1 :: .string x.2 :: flatZ L := rfl
    rw [e]
    cases k with
    | zero => exact ⟨rfl, rfl⟩
    | succ k =>
      rw [show (k + 1) * 2 = k * 2 + 1 + 1 by omega]
      simp only [List.getElem?_cons_succ, List.getElem_cons_succ]
      exact ih (by simpa using h)
theorem can_gcd_size {G N k : Nat} (h1 : (can G).size ≤ k) (h2 : (can N).size ≤ k) : (can (Nat.gcd G N)).size ≤ k := by
  by_cases h : N = 0
  · rw [h, Nat.gcd_zero_right]; exact h1
  · exact Nat.le_trans (can_mono (Nat.gcd_le_right _ (Nat.pos_of_ne_zero h))) h2
theorem gcdL_size {L : List (Bool × ByteArray)} {k : Nat} (h : ∀ x ∈ L, x.2.size ≤ k) : (can (gcdL L)).size ≤ k := by
  have hg : ∀ (M : List (Bool × ByteArray)) (g : Nat), (can g).size ≤ k → (∀ x ∈ M, x.2.size ≤ k) → (can (M.foldl (fun g x => Nat.gcd g (nat x.2)) g)).size ≤ k := by
    intro M
    induction M with
    | nil => intro g hg _; exact hg
    | cons x M ih =>
      intro g hg hM
      exact ih _ (can_gcd_size hg (Nat.le_trans (can_size_le_size _) (hM x (List.mem_cons_self ..)))) (fun y hy => hM y (List.mem_cons_of_mem _ hy))
  exact hg L 0 (by show 0 ≤ k; omega) h
/-- A slice that reads as a list of integers. -/
def RdZ (w : World) (A : Option Addr) (L : List (Bool × ByteArray)) : Prop := ∀ k, (h : k < L.length) → ∃ g, A = some ⟨g, 0, none⟩ ∧ w.cell? ⟨g, k * 2, none⟩ = some (.bool (L[k]).1) ∧ w.cell? ⟨g, k * 2 + 1, none⟩ = some (.string (L[k]).2) ∧ g < w.heap.size
theorem RdZ.nil (w : World) (A : Option Addr) : RdZ w A [] := fun k h => by simp at h
theorem RdZ.blk {w : World} {g : Nat} {E : TypeId} {L : List (Bool × ByteArray)} {post : List Value} (h : Blk w g E (flatZ L ++ post)) : RdZ w (some ⟨g, 0, none⟩) L := fun k hk => by
  obtain ⟨h1, h2⟩ := flatZ_at hk
  have hl := flatZ_length L
  refine ⟨g, rfl, h.cell ?_, h.cell ?_, h.lt⟩
  · rw [List.getElem?_append_left (by omega)]; exact h1
  · rw [List.getElem?_append_left (by omega)]; exact h2
theorem RdZ.keep {w wn : World} {A : Option Addr} {L : List (Bool × ByteArray)} (h : RdZ w A L) (hb : Below w.heap.size w wn) : RdZ wn A L := fun k hk => by
  obtain ⟨g, rfl, h1, h2, h3⟩ := h k hk
  exact ⟨g, rfl, (hb.cell (p := ⟨g, k * 2, none⟩) h3).trans h1, (hb.cell (p := ⟨g, k * 2 + 1, none⟩) h3).trans h2, Nat.lt_of_lt_of_le h3 hb.size⟩

set_option maxHeartbeats 1000000 in
theorem GcdZ_any (A : Option Addr) (L : List (Bool × ByteArray)) (n c : Nat) (w : World) (hn : n = L.length) (hL : L.length ≤ 1000000) (hs : ∀ x ∈ L, x.2.size ≤ 134217728) (hR : RdZ w A L) (hT : TabC w) :
    Calls Tryd.prog 13 #[.slice A n c] w fun e w' => e = .returned (Z (gcdL L : Int)) ∧ Below w.heap.size w w' := by
  subst hn
  have HT := Lib.hid (And.intro hT hT.lt)
  have HR := Lib.hid hR
  have HS := Lib.hid hs
  clear hT hR hs
  go_enter Tryd.func13, Tryd.ntmps13
  go_wp2
  go_loopw [3, 8] (fun x i wr => ∃ k : Nat, k ≤ L.length ∧ i = .int .i64 k ∧ x = .string (can (gcdL (L.take k))) ∧ Below (w.alloc (.cells #[.bool false, .string ⟨#[]⟩] 23)).heap.size (w.alloc (.cells #[.bool false, .string ⟨#[]⟩] 23)) wr) (fun _ i _ => L.length - (intOf i).toNat)
  case atStart => exact ⟨0, Nat.zero_le _, rfl, rfl, Below.refl _ _⟩
  case round =>
    obtain ⟨k, hk, rfl, rfl, hb⟩ := hrel
    have hsz : (can (gcdL (L.take k))).size ≤ 134217728 := gcdL_size (fun x hx => HS.out x (List.mem_of_mem_take hx))
    have hb' := bel1 w _ hb
    by_cases hlt : k < L.length
    · obtain ⟨g, hA, c1, c2, hgl⟩ := HR.out k hlt
      have d1 := (hb'.cell (p := ⟨g, k * 2, none⟩) hgl).trans c1
      have d2 := (hb'.cell (p := ⟨g, k * 2 + 1, none⟩) hgl).trans c2
      have hxs := HS.out _ (List.getElem_mem hlt)
      have Ht := Lib.hid (gcdL_take hlt)
      subst hA
      clear c1 c2
      generalize L[k] = x at d1 d2 hxs Ht
      go_wp2_with fail
      refine (Gcd_any _ _ _ (by omega) (by omega) (HT.out.1.below (then_ hb' (below_alloc _ _)) HT.out.2)).mono ?_
      rw [nat_can, ← Ht.out]
      rintro e w1 ⟨rfl, hb1⟩
      go_wp2_with fail
      go_roundw
      case rel => exact ⟨k + 1, by omega, by go_num, rfl, then_ hb (then_ (below_alloc _ _) hb1)⟩
      case measure => simp [intOf]; omega
    · obtain rfl : k = L.length := by omega
      rw [List.take_length] at hsz ⊢
      have hgz : iv false (can (gcdL L)) = (gcdL L : Int) := by rw [iv_false, nat_can]
      have Hg := Lib.hid hgz
      clear hgz
      go_wp2_with fail
      refine (canonical_any _ _ _ (by simp [maxLen]; omega)).mono ?_
      rw [Hg.out]
      rintro e w1 ⟨rfl, hb1⟩
      obtain ⟨x1, x2, x3, x4⟩ := (((Blk.new w _ _).keep hb).keep hb1).two
      go_wp2_with fail
      exact bodyPost_ret (by simp [results, Tryd.results13, go_sem, x1, x2]) rfl ⟨rfl, set2 (then_ hb' hb1) (Nat.le_refl _) _ _⟩
set_option maxHeartbeats 1000000 in
theorem refGcdZ_any (A : Option Addr) (L : List (Bool × ByteArray)) (n c : Nat) (w : World) (hn : n = L.length) (hL : L.length ≤ 1000000) (hs : ∀ x ∈ L, x.2.size ≤ 134217728) (hR : RdZ w A L) :
    Calls Tryd.prog 14 #[.slice A n c] w fun e w' => e = .returned (Z (gcdL L : Int)) ∧ Below w.heap.size w w' := by
  subst hn

  have HR := Lib.hid hR
  have HS := Lib.hid hs
  clear hR hs
  go_enter Tryd.func14, Tryd.ntmps14
  go_wp2
  go_loopw [3, 4] (fun x i wr => ∃ k : Nat, k ≤ L.length ∧ i = .int .i64 k ∧ x = .string (can (gcdL (L.take k))) ∧ Below (w.alloc (.cells #[.bool false, .string ⟨#[]⟩] 23)).heap.size (w.alloc (.cells #[.bool false, .string ⟨#[]⟩] 23)) wr) (fun _ i _ => L.length - (intOf i).toNat)
  case atStart => exact ⟨0, Nat.zero_le _, rfl, rfl, Below.refl _ _⟩
  case round =>
    obtain ⟨k, hk, rfl, rfl, hb⟩ := hrel
    have hsz : (can (gcdL (L.take k))).size ≤ 134217728 := gcdL_size (fun x hx => HS.out x (List.mem_of_mem_take hx))
    have hb' := bel1 w _ hb
    by_cases hlt : k < L.length
    · obtain ⟨g, hA, c1, c2, hgl⟩ := HR.out k hlt
      have d1 := (hb'.cell (p := ⟨g, k * 2, none⟩) hgl).trans c1
      have d2 := (hb'.cell (p := ⟨g, k * 2 + 1, none⟩) hgl).trans c2
      have hxs := HS.out _ (List.getElem_mem hlt)
      have Ht := Lib.hid (gcdL_take hlt)
      subst hA
      clear c1 c2
      generalize L[k] = x at d1 d2 hxs Ht
      go_wp2_with fail
      refine (refGcd_any _ _ _ (by omega) (by omega)).mono ?_
      rw [nat_can, ← Ht.out]
      rintro e w1 ⟨rfl, hb1⟩
      go_wp2_with fail
      go_roundw
      case rel => exact ⟨k + 1, by omega, by go_num, rfl, then_ hb hb1⟩
      case measure => simp [intOf]; omega
    · obtain rfl : k = L.length := by omega
      rw [List.take_length] at hsz ⊢
      have hgz : iv false (can (gcdL L)) = (gcdL L : Int) := by rw [iv_false, nat_can]
      have Hg := Lib.hid hgz
      clear hgz
      go_wp2_with fail
      refine (of_any _ _ _ (by simp [maxLen]; omega)).mono ?_
      rw [Hg.out]
      rintro e w1 ⟨rfl, hb1⟩
      obtain ⟨x1, x2, x3, x4⟩ := (((Blk.new w _ _).keep hb).keep hb1).two
      go_wp2_with fail
      exact bodyPost_ret (by simp [results, Tryd.results14, go_sem, x1, x2]) rfl ⟨rfl, set2 (then_ hb' hb1) (Nat.le_refl _) _ _⟩
end Go.Proofs.YtmfinfnjamgboaaDoor

/- The walk of voussoirlaw02.IntegerText. -/
namespace Go.Proofs.YtmfinfnjamgboaaDoor
open Go.RowKit NM

theorem GcdZ_nil (w : World) (hT : TabC w) :
    Calls Tryd.prog 13 #[.slice none 0 0] w fun e w' => e = .returned (I2 false ⟨#[]⟩) ∧ Below w.heap.size w w' :=
  GcdZ_any none [] 0 0 w rfl (by simp) (fun x hx => by simp at hx) (RdZ.nil w none) hT

set_option maxRecDepth 100000 in
set_option maxHeartbeats 8000000 in
theorem IntegerText_any (n m : Bool) (s t u : ByteArray) (w : World) (hT0 : Tab w) (hs : s.size ≤ maxLen) (ht : t.size ≤ maxLen) (hu : u.size ≤ maxLen) :
    Calls Tryd.prog 3 #[I2 n s, I2 m t, .string u] w fun e w' => e = .returned (.bool true) ∧ Below w.heap.size w w' := by
  have hT := hT0.cells
  have HT := Lib.hid (And.intro hT hT.lt)
  clear hT hT0
  have hR := (Hold.start2 w 23 (.bool n) (.string s) (.bool m) (.string t)).alloc (.cells #[.bool n, .string s, .bool m, .string t] 23)
  have hu' := hu
  unfold maxLen at hu'
  rcases (show (40 < s.size ∨ 40 < t.size) ∨ ((s.size ≤ 40 ∧ t.size ≤ 40) ∧ 100 < u.size) ∨ (s.size ≤ 40 ∧ t.size ≤ 40 ∧ u.size ≤ 100) by omega) with h | ⟨⟨h1, h2⟩, h3⟩ | ⟨h1, h2, h3⟩
  · go_enter Tryd.func3, Tryd.ntmps3
    go_wp2_with fail
    refine (Great_any n m s t _ _ 1 hs ht (Blk.new2 w _ _ #[.bool n, .string s, .bool m, .string t] 23) (.inl ⟨h, rfl⟩)).mono ?_
    rintro e w1 ⟨rfl, hb1⟩
    replace hR := hR.keep hb1
    clear hb1 hs ht
    go_wp2_with fail
    refine (fixed_any _).mono ?_
    rintro e w2 ⟨rfl, hb2⟩
    replace hR := hR.keep hb2
    go_wp2_with fail
    go_ret
    exact ⟨rfl, hR.below⟩
  · go_enter Tryd.func3, Tryd.ntmps3
    go_wp2_with fail
    refine (Great_any n m s t _ _ 0 hs ht (Blk.new2 w _ _ #[.bool n, .string s, .bool m, .string t] 23) (.inr ⟨h1, h2, rfl⟩)).mono ?_
    rintro e w1 ⟨rfl, hb1⟩
    replace hR := hR.keep hb1
    clear hb1 hs ht
    go_wp2_with fail
    refine (fixed_any _).mono ?_
    rintro e w2 ⟨rfl, hb2⟩
    replace hR := hR.keep hb2
    go_wp2_with fail
    go_ret
    exact ⟨rfl, hR.below⟩
  · obtain ⟨X, ok, hp⟩ : ∃ X ok, parseZ u = .tuple #[Z X, .bool ok] := by
      by_cases hg : GoodZ u
      · exact ⟨_, _, parseZ_yes hg⟩
      · exact ⟨0, false, parseZ_no hg⟩
    obtain ⟨V, fit, hv⟩ : ∃ V fit, i64Val (iv n s) = .tuple #[.int .i64 V, .bool fit] := by
      by_cases hg : -9223372036854775808 ≤ iv n s ∧ iv n s ≤ 9223372036854775807
      · exact ⟨_, _, i64Val_yes hg.1 hg.2⟩
      · exact ⟨_, _, i64Val_no hg⟩
    have HP := Lib.hid hp
    have HV := Lib.hid hv
    clear hp hv hu hu'
    have HL : ∀ x ∈ [(n, s), (m, t)], x.2.size ≤ 134217728 := by
      intro x hx
      simp only [List.mem_cons, List.not_mem_nil, or_false] at hx
      rcases hx with rfl | rfl <;> simp <;> omega
    replace HL := Lib.hid HL
    go_enter Tryd.func3, Tryd.ntmps3
    go_wp2_with fail
    refine (Great_any n m s t _ _ 0 hs ht (Blk.new2 w _ _ #[.bool n, .string s, .bool m, .string t] 23) (.inr ⟨h1, h2, rfl⟩)).mono ?_
    rintro e w1 ⟨rfl, hb1⟩
    replace hR := hR.keep hb1
    clear hb1 hs ht
    go_wp2_with fail
    refine (Parse2_any u _ (by omega)).mono ?_
    rw [HP.out]
    rintro e w2 ⟨rfl, hb2⟩
    replace hR := (hR.keep hb2).box (.bool (sg X)) (.string (mg X))
    clear hb2
    go_wp2_with fail
    refine (refParse2_any u _ (by omega)).mono ?_
    rw [HP.out]
    rintro e w3 ⟨rfl, hb3⟩
    replace hR := (hR.keep hb3).box (.bool (sg X)) (.string (mg X))
    clear hb3
    obtain ⟨a1, a2, a3, a4, a5, a6, a7, a8, -⟩ := hR.all4
    go_wp2_with fail
    refine (Int64_any n s _ (by simp [maxLen]; omega)).mono ?_
    rw [HV.out]
    rintro e w4 ⟨rfl, hb4⟩
    replace hR := hR.keep hb4
    clear hb4 a1 a2 a3 a4 a5 a6 a7 a8
    obtain ⟨a1, a2, a3, a4, a5, a6, a7, a8, -⟩ := hR.all4
    go_wp2_with fail
    refine (Small_any n s _ (by simp [maxLen]; omega)).mono ?_
    rw [HV.out]
    rintro e w5 ⟨rfl, hb5⟩
    replace hR := hR.keep hb5
    clear hb5 a1 a2 a3 a4 a5 a6 a7 a8
    go_wp2_with fail
    go_region_held3 (fun w' => w'.cell? ⟨w.heap.size, 0, none⟩ = some (.bool n) ∧ w'.cell? ⟨w.heap.size, 1, none⟩ = some (.string s) ∧ w'.cell? ⟨w.heap.size + 1, 0, none⟩ = some (.bool m) ∧ w'.cell? ⟨w.heap.size + 1, 1, none⟩ = some (.string t) ∧ w'.cell? ⟨w2.heap.size, 0, none⟩ = some (.bool (sg X)) ∧ w'.cell? ⟨w2.heap.size, 1, none⟩ = some (.string (mg X)) ∧ w'.cell? ⟨w3.heap.size, 0, none⟩ = some (.bool (sg X)) ∧ w'.cell? ⟨w3.heap.size, 1, none⟩ = some (.string (mg X)) ∧ Hold 23 w [(w3.heap.size, .bool (sg X), .string (mg X)), (w2.heap.size, .bool (sg X), .string (mg X)), (w.heap.size + 1, .bool m, .string t), (w.heap.size, .bool n, .string s)] w')
      (first | exact hRn.all4 | exact hR.drew.all4 | exact (Hold.alloc (And.right (And.right (And.right (And.right (And.right (And.right (And.right (And.right (by assumption))))))))) _).all4)
      (first
      | (go_at_call 6; refine (fixed_any _).mono ?_; rintro e wn ⟨rfl, hbn⟩; (try clear hRn); have hRn := Hold.keep (And.right (And.right (And.right (And.right (And.right (And.right (And.right (And.right (by assumption))))))))) hbn; clear hbn)
      | (go_at_call 11; refine (Format2_any _ _ _ ?_).mono ?_; omega; rintro e wn ⟨rfl, hbn⟩; (try clear hRn); have hRn := Hold.keep (And.right (And.right (And.right (And.right (And.right (And.right (And.right (And.right (by assumption))))))))) hbn; clear hbn)
      | (go_at_call 12; refine (refText2_any _ _ _ ?_).mono ?_; omega; rintro e wn ⟨rfl, hbn⟩; (try clear hRn); have hRn := Hold.keep (And.right (And.right (And.right (And.right (And.right (And.right (And.right (And.right (by assumption))))))))) hbn; clear hbn)
      | (go_at_call 13; (with_reducible refine (GcdZ_nil _ ?_).mono ?_); exact HT.out.1.below (Hold.below (And.right (And.right (And.right (And.right (And.right (And.right (And.right (And.right (by assumption)))))))))) HT.out.2; rintro e wn ⟨rfl, hbn⟩; (try clear hRn); (try clear hK); have hRn := Hold.keep (And.right (And.right (And.right (And.right (And.right (And.right (And.right (And.right (by assumption))))))))) hbn; have hK := hbn; clear hbn)
      | (go_at_call 13; (with_reducible refine (GcdZ_any _ [(n, s), (m, t)] 2 _ _ rfl ?_ ?_ ?_ ?_).mono ?_); (show 2 ≤ 1000000; omega); exact HL.out; (first | exact RdZ.blk (post := []) (Blk.new _ #[.bool n, .string s, .bool m, .string t] 23) | exact RdZ.blk (post := []) (Blk.new1 _ _ #[.bool n, .string s, .bool m, .string t] 23) | exact RdZ.blk (post := []) ((Blk.new _ #[.bool n, .string s, .bool m, .string t] 23).alloc _) | exact RdZ.keep (RdZ.blk (post := []) (Blk.new1 _ _ #[.bool n, .string s, .bool m, .string t] 23)) hK | exact RdZ.keep (RdZ.blk (post := []) ((Blk.new _ #[.bool n, .string s, .bool m, .string t] 23).alloc _)) hK); exact HT.out.1.below (Hold.below (And.right (And.right (And.right (And.right (And.right (And.right (And.right (And.right (by assumption)))))))))) HT.out.2; rintro e wn ⟨rfl, hbn⟩; (try clear hRn); (try clear hK); have hRn := Hold.keep (And.right (And.right (And.right (And.right (And.right (And.right (And.right (And.right (by assumption))))))))) hbn; have hK := hbn; clear hbn)
      | (go_at_call 14; (with_reducible refine (refGcdZ_any _ [(n, s), (m, t)] 2 _ _ rfl ?_ ?_ ?_).mono ?_); (show 2 ≤ 1000000; omega); exact HL.out; (first | exact RdZ.blk (post := []) (Blk.new _ #[.bool n, .string s, .bool m, .string t] 23) | exact RdZ.blk (post := []) (Blk.new1 _ _ #[.bool n, .string s, .bool m, .string t] 23) | exact RdZ.blk (post := []) ((Blk.new _ #[.bool n, .string s, .bool m, .string t] 23).alloc _) | exact RdZ.keep (RdZ.blk (post := []) (Blk.new1 _ _ #[.bool n, .string s, .bool m, .string t] 23)) hK | exact RdZ.keep (RdZ.blk (post := []) ((Blk.new _ #[.bool n, .string s, .bool m, .string t] 23).alloc _)) hK); rintro e wn ⟨rfl, hbn⟩; (try clear hRn); (try clear hK); have hRn := Hold.keep (And.right (And.right (And.right (And.right (And.right (And.right (And.right (And.right (by assumption))))))))) hbn; have hK := hbn; clear hbn))
    all_goals go_wp2_with fail
    all_goals go_ret
    all_goals exact ⟨rfl, hRn.below⟩
end Go.Proofs.YtmfinfnjamgboaaDoor

namespace Go.Proofs.YtmfinfnjamgboaaDoor.fnIntegerText
open Go.ChangeShapes Go.WideShapes Go.ChangeAt Go.RowKit
open Go.WideMaps Go.WideElems
open Go.ChangeMaps (setBlock shut_map_nil open_string shut_string keptBut_setBlock frozen?_setBlock heap_setBlock_same)

theorem contract (H : Type) (enc : TypeId × Value → H) (W : World) (base : Nat) (args : Array Value) (ds gs : List (DataW H)) (before : List MemPlace)
    (hval : ∀ (j : Nat) t v, Tryd.f3.params[j]? = some t → args[j]? = some v → Value.okWide Tryd.prog W .any base t v)
    (hW : DataW.Whole enc Tryd.prog Tryd.f3.params.toList Rows.integerTextSpec.vars false W args.toList ds gs before) (hL : laidMetH Tryd.prog Rows.integerTextRow.laid W) :
    Calls Tryd.prog 3 args W fun e W' => ∃ v, e = .returned v ∧ Rows.integerTextSpec.post enc Tryd.prog Tryd.f3 false true false false W args v W' := by
  have hW' := hW
  obtain ⟨p, q, hA0, hV, rfl, hfz, hnd⟩ := hW
  have hA : DataW.TrodAll enc Tryd.prog W 0 (fun _ => true) true Tryd.f3.params.toList args.toList ds p := hA0
  rw [Tryd.params3] at hA hval
  obtain ⟨v0, vs0, d0, ds0, p0, q0, hargs, rfl, rfl, h0, r0⟩ := trodAll_cons hA
  obtain ⟨v1, vs1, d1, ds1, p1, q1, rfl, rfl, rfl, h1, r1⟩ := trodAll_cons r0
  obtain ⟨v2, vs2, d2, ds2, p2, q2, rfl, rfl, rfl, h2, r2⟩ := trodAll_cons r1
  obtain ⟨rfl, rfl, rfl⟩ := trodAll_nil r2
  obtain rfl : args = #[v0, v1, v2] := by cases args; simp_all
  obtain ⟨rfl, rfl⟩ := trodVars_none hV
  obtain ⟨ba, a, rfl, rfl, rfl, ha⟩ := openZ (hval 0 23 v0 rfl rfl) h0
  obtain ⟨bb, b, rfl, rfl, rfl, hb⟩ := openZ (hval 1 23 v1 rfl rfl) h1
  obtain ⟨c, rfl, rfl, rfl, hc⟩ := open_string Tryd.underlying9 (hval 2 9 v2 rfl rfl) h2
  clear hA0
  simp only [List.append_nil] at hW'
  refine (IntegerText_any ba bb a b c W (tab_of_laid hL) ha hb hc).mono fun e W' ⟨he, hbel⟩ => ?_
  subst he
  exact ⟨_, rfl, post_plain rfl hW' (fun _ _ _ => trodAll_cons_mk (shut_bool Tryd.underlying4 _) trodAll_mk0) (fun _ => trodAll_cons_mk (shutZ ba ha) (trodAll_cons_mk (shutZ bb hb) (trodAll_cons_mk (shut_string Tryd.underlying9 hc) trodAll_mk0))) rfl
    hbel (ok_one (by kernel_rfl) rfl (okWide_bool_mk Tryd.underlying4 _))⟩

theorem laid_met (os : Os) : laidMet Tryd.prog Rows.integerTextRow.laid ((laidWorld os).forCall (fun _ _ => 0) ⟨#[], #[.agg #[.bool false, .string ⟨#[]⟩], .agg #[.bool false, .string ⟨#[]⟩], .string ⟨#[]⟩], []⟩).memory :=
  laidMet_of_run' 8 (by kernel_rfl) (by kernel_rfl)
theorem reads (os : Os) {H : Type} (enc : TypeId × Value → H) : ∃ places, DataW.whole enc Tryd.prog ((laidWorld os).forCall (fun _ _ => 0) ⟨#[], #[.agg #[.bool false, .string ⟨#[]⟩], .agg #[.bool false, .string ⟨#[]⟩], .string ⟨#[]⟩], []⟩).memory Tryd.f3.params.toList Rows.integerTextSpec.vars false #[Value.agg #[.bool false, .string ⟨#[]⟩], Value.agg #[.bool false, .string ⟨#[]⟩], Value.string ⟨#[]⟩].toList 8 = some ([.agg [.lit (.bool false), .lit (.string [])], .agg [.lit (.bool false), .lit (.string [])], .lit (.string [])], [], places) :=
  ⟨[], by kernel_rfl⟩

set_option maxRecDepth 100000 in
theorem lifted (os : Os) (started : os.Started) (H : Type) (enc : TypeId × Value → H) (F : Stop.Interp) :
    ReturnsInHanded {} Tryd.checked os 3 .any ((OpenSpec.ofChange Rows.integerTextSpec).preRow enc Tryd.prog Tryd.f3 Rows.integerTextRow.domain false Rows.integerTextRow.laid) (((OpenSpec.ofChange Rows.integerTextSpec).at F).post enc Tryd.prog Tryd.f3 false true false false) := by
  obtain ⟨places, hx⟩ := reads os enc
  refine returnsInHanded_of_row (C := Tryd.checked) (s := OpenSpec.ofChange Rows.integerTextSpec) own started (by kernel_rfl) Tryd.func3
    (witness_row_at (enc := enc) (C := Tryd.checked) false (laidWorld os) #[.agg #[.bool false, .string ⟨#[]⟩], .agg #[.bool false, .string ⟨#[]⟩], .string ⟨#[]⟩] rfl (by kernel_rfl) (by kernel_rfl) (by kernel_rfl)
      (OpenSpec.preRow_of_cond 8 hx (by kernel_rfl) (fun k hk => by cases hk) (by kernel_rfl) (laid_met os))) ?_
  intro W base args ds gs before hval hW _ _ _ hL _ _
  exact contract H enc W base args ds gs before hval hW hL

theorem said : Rows.IntegerTextSaid :=
  OpenClaim.holds_of_cond 3 Tryd.f3 rfl rfl rfl rfl rfl rfl rfl ⟨rfl, rfl, rfl, rfl, rfl⟩ rfl rfl rfl rfl rfl (by kernel_rfl) Tryd.func3 (by kernel_rfl)
    (of_decide_eq_true (by kernel_rfl)) (by unfold Func.isWrapper; first | (rw [if_pos (by decide +kernel)]; kernel_rfl) | (rw [if_neg (by decide +kernel)]; exact ⟨rfl, rfl⟩))
    (fun os started H enc _ F => by rw [OpenClaim.pre_eq_preRow]; exact lifted os started H enc F)

theorem plain (f : FuncId) (fn : Func) (hf : Tryd.pinned.checked.prog.funcNamed "voussoir/voussoirlaw02.IntegerText" = some f) (hfn : Tryd.pinned.checked.prog.funcs[f]? = some fn) :
    false = Tryd.pinned.checked.prog.looks [] ∧ ∀ (j : Nat) t, fn.params[j]? = some t → Tryd.pinned.checked.prog.wantsStandIn t = false := by
  obtain rfl : f = 3 := Option.some.inj ((show Tryd.prog.funcNamed "voussoir/voussoirlaw02.IntegerText" = some 3 by kernel_rfl).symm.trans hf) |>.symm
  obtain rfl : fn = Tryd.f3 := (Option.some.inj (Tryd.func3.symm.trans hfn)).symm
  refine ⟨by kernel_rfl, fun j t ht => ?_⟩
  rw [Tryd.params3] at ht
  have hm : t = 23 ∨ t = 23 ∨ t = 9 := by simpa using Array.mem_of_getElem? ht
  rcases hm with rfl | rfl | rfl
  · exact (show Tryd.prog.wantsStandIn 23 = false by kernel_rfl)
  · exact (show Tryd.prog.wantsStandIn 23 = false by kernel_rfl)
  · exact (show Tryd.prog.wantsStandIn 9 = false by kernel_rfl)

theorem card : Rows.IntegerTextCardSaid :=
  Claim7.holds_tied_plain_at .later [] _ _ _ _ said (fun _ h => by cases h) (by kernel_rfl) (fun _ h => by cases h) integerText_row_tie rfl ⟨rfl, rfl⟩ (by kernel_rfl) rfl plain (by kernel_rfl)

end Go.Proofs.YtmfinfnjamgboaaDoor.fnIntegerText
