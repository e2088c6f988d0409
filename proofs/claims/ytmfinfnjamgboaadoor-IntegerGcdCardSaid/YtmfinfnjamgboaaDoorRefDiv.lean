/- voussoirref01.Div. -/
import Derived.Test.YtmfinfnjamgboaaDoorRefMul
namespace Go.Proofs.YtmfinfnjamgboaaDoor
open Go.RowKit NM

/-- What Div returns. -/
def divVal (m n : Nat) : Value := if n = 0 then .tuple #[.string ⟨#[]⟩, .string ⟨#[]⟩, .bool false] else .tuple #[.string (can (m / n)), .string (can (m % n)), .bool true]
def divQ (m n : Nat) : ByteArray := if n = 0 then ⟨#[]⟩ else can (m / n)
def divR (m n : Nat) : ByteArray := if n = 0 then ⟨#[]⟩ else can (m % n)
def divB (_m n : Nat) : Bool := decide (n ≠ 0)
theorem divVal_eq (m n : Nat) : divVal m n = .tuple #[.string (divQ m n), .string (divR m n), .bool (divB m n)] := by
  unfold divVal divQ divR divB
  by_cases h : n = 0
  · simp [h]
  · simp [h]
theorem divVal_zero {m n : Nat} (h : n = 0) : divVal m n = .tuple #[.string ⟨#[]⟩, .string ⟨#[]⟩, .bool false] := if_pos h
theorem divVal_pos {m n : Nat} (h : n ≠ 0) : divVal m n = .tuple #[.string (can (m / n)), .string (can (m % n)), .bool true] := if_neg h

/-- The number of the bytes from place k on. -/
def high (a : ByteArray) (k : Nat) : Nat := val 256 ((bts a).drop k)
theorem high_zero (a : ByteArray) : high a 0 = nat a := rfl
theorem high_end (a : ByteArray) (k : Nat) (h : a.size ≤ k) : high a k = 0 := by
  unfold high
  rw [List.drop_of_length_le (by rw [bts_length]; exact h)]
  rfl
theorem high_step (a : ByteArray) (i : Nat) (hi : i < a.size) : high a i = a[i].toNat + 256 * high a (i + 1) := by
  unfold high
  rw [List.drop_eq_getElem_cons (by rw [bts_length]; exact hi)]
  have := bts_getD a i hi
  rw [List.getD_eq_getElem?_getD, List.getElem?_eq_getElem (by rw [bts_length]; exact hi)] at this
  simp only [Option.getD_some] at this
  rw [this]
  rfl
theorem high_lt (a : ByteArray) (k : Nat) : high a k < 256 ^ (a.size - k) := by
  have := val_lt (lt_drop (bts_lt a) k)
  rwa [List.length_drop, bts_length] at this

/-- One place of a long division. -/
theorem div_place {V x B : Nat} (hB : 0 < B) : (x + 256 * V) / B = (x + 256 * (V % B)) / B + 256 * (V / B) ∧ (x + 256 * V) % B = (x + 256 * (V % B)) % B := by
  have h := Nat.div_add_mod V B
  have e : x + 256 * V = (x + 256 * (V % B)) + B * (256 * (V / B)) := by
    have : 256 * V = 256 * (B * (V / B)) + 256 * (V % B) := by rw [← Nat.mul_add, h]
    rw [this, Nat.mul_left_comm]
    omega
  constructor
  · rw [e, Nat.add_mul_div_left _ _ hB]
  · rw [e, Nat.add_mul_mod_self_left]
theorem div_digit {r x B : Nat} (hB : 0 < B) (hr : r < B) (hx : x < 256) : (x + 256 * r) / B < 256 := by
  rw [Nat.div_lt_iff_lt_mul hB]
  have : 256 * (r + 1) ≤ 256 * B := Nat.mul_le_mul_left _ hr
  omega

theorem nat_append (s t : ByteArray) : nat (s ++ t) = nat s + 256 ^ s.size * nat t := by
  unfold nat
  rw [← bts_length, ← val_append]
  congr 1
  unfold bts
  rw [ByteArray.data_append, Array.toList_append, List.map_append]
theorem nat_one (a : ByteArray) (i : Nat) (hi : i < a.size) : nat (a.extract i (i + 1)) = a[i].toNat ∧ (a.extract i (i + 1)).size = 1 := by
  have hl : i < (bts a).length := by rw [bts_length]; exact hi
  have e : bts (a.extract i (i + 1)) = [a[i].toNat] := by
    rw [bts_extract, List.take_succ_eq_append_getElem hl, List.drop_append_of_le_length (by rw [List.length_take]; omega), List.drop_of_length_le (by rw [List.length_take]; omega), List.nil_append]
    have := bts_getD a i hi
    rw [List.getD_eq_getElem?_getD, List.getElem?_eq_getElem hl] at this
    simpa using this
  refine ⟨by unfold nat; rw [e]; simp [val], ?_⟩
  rw [← bts_length, e]
  rfl

theorem cmpN_le {m n : Nat} (h : m ≤ n) : cmpN m n ≤ 0 := by
  rcases Nat.lt_or_ge m n with h1 | h1
  · rw [cmpN_lt h1]; omega
  · rw [cmpN_eq (by omega)]; omega
theorem cmpN_nle {m n : Nat} (h : ¬ m ≤ n) : ¬ cmpN m n ≤ 0 := by rw [cmpN_gt (by omega)]; omega

theorem refdiv_hi {q mid B R : Nat} (h : mid ≤ q ↔ B * mid ≤ R) (hm : ¬ B * mid ≤ R) : q ≤ mid - 1 := by
  have : ¬ mid ≤ q := fun e => hm (h.1 e)
  omega
theorem quot_at (i : Nat) (D : List Nat) : (cv .u8 (List.replicate (i + 1) 0 ++ D))[i]? = some (.int .u8 0) := by
  rw [cv_getElem? _ _ _ (by simp; omega), List.getD_eq_getElem?_getD, List.getElem?_append_left (by simp), List.getElem?_replicate, if_pos (by omega)]
  rfl
theorem quot_set {a : ByteArray} {B i lo : Nat} {wr : World} {g : Nat} (hi : i < a.size) (hlo : lo < 256) (h : high a i / B = lo + 256 * (high a (i + 1) / B)) (hB : Blk wr g 5 (cv .u8 (List.replicate (i + 1) 0 ++ digs 256 (a.size - (i + 1)) (high a (i + 1) / B)))) :
    Blk (wr.setCell ⟨g, i, none⟩ (.int .u8 (lo : Int))) g 5 (cv .u8 (List.replicate i 0 ++ digs 256 (a.size - i) (high a i / B))) := by
  have := hB.set i (.int .u8 (lo : Int))
  rw [cv_set, List.set_append_left _ _ (by simp)] at this
  have e1 : (List.replicate (i + 1) 0).set i lo = List.replicate i 0 ++ [lo] := by
    rw [List.replicate_succ', List.set_append_right _ _ (by simp)]
    simp
  have e2 : digs 256 (a.size - i) (high a i / B) = lo :: digs 256 (a.size - (i + 1)) (high a (i + 1) / B) := by
    rw [show a.size - i = (a.size - (i + 1)) + 1 from by omega, digs, h, Nat.add_mul_mod_self_left, Nat.mod_eq_of_lt hlo, Nat.add_mul_div_left _ _ (by omega), Nat.div_eq_of_lt hlo, Nat.zero_add]
  rw [e1, List.append_assoc] at this
  rw [e2]
  exact this
theorem refdiv_end (a b : ByteArray) : Ending.returned (.tuple #[.string (can (nat (ofBts (digs 256 a.size (nat a / nat b))))), .string (can (high a 0 % nat b)), .bool true]) = .returned (.tuple #[.string (can (nat a / nat b)), .string (can (nat a % nat b)), .bool true]) := by
  rw [nat_ofBts (digs_lt (by omega) _ _), val_digs, Nat.mod_eq_of_lt (Nat.lt_of_le_of_lt (Nat.div_le_self _ _) (nat_lt a))]
  rfl

set_option maxHeartbeats 2000000 in
theorem refDiv_any (a b : ByteArray) (w : World) (ha : a.size ≤ 1073741824) (hb : b.size ≤ 1073741824) :
    Calls Tryd.prog 49 #[.string a, .string b] w fun e w' => e = .returned (divVal (nat a) (nat b)) ∧ Below w.heap.size w w' := by
  by_cases hz : nat b = 0
  · rw [divVal_zero hz]
    have hc := isEmpty_pos hz
    have Hz := Lib.hid hz
    clear hz
    go_enter Tryd.func49, Tryd.ntmps49
    go_wp2_with (go_at_call 22; refine (Norm_any _ _ (by simp [maxLen]; omega)).mono ?_; rintro e w' ⟨rfl, rfl⟩)
    go_ret3
    exact ⟨rfl, Below.refl _ _⟩
  · rw [divVal_pos hz]
    have hc := isEmpty_neg hz
    have hpos : 0 < nat b := Nat.pos_of_ne_zero hz
    have hbs := nat_lt b
    have Hbs := Lib.hid hbs
    clear hbs hz
    go_enter Tryd.func49, Tryd.ntmps49
    go_wp2_with (first
      | (go_at_call 22; refine (Norm_any _ _ (by simp [maxLen]; omega)).mono ?_; rintro e w' ⟨rfl, rfl⟩)
      | (at_make; refine wpList_make_blk _ rfl _ _ 59 rfl 5 .u8 1 Tryd.underlying59 row_u8 _ _ _ _ a.size rfl rfl rfl rfl (by omega) (by omega) ?_; intro w1 hB hb1 hs1))
    have hst0 : Value.string ⟨#[]⟩ = .string (can (high a a.size % nat b)) := by rw [high_end a _ (Nat.le_refl _), Nat.zero_mod]; rfl
    have Hst0 := Lib.hid hst0
    clear hst0
    go_loopw [8, 9] (fun r i wr => ∃ k : Nat, k ≤ a.size ∧ i = .int .i64 ((k : Int) - 1) ∧ r = .string (can (high a k % nat b)) ∧ Blk wr w.heap.size 5 (cv .u8 (List.replicate k 0 ++ digs 256 (a.size - k) (high a k / nat b))) ∧ Below w.heap.size w wr) (fun _ i _ => (intOf i + 1).toNat)
    case atStart => exact ⟨a.size, Nat.le_refl _, rfl, Hst0.out, by simpa [digs] using hB, hb1⟩
    case round =>
      obtain ⟨k, hk, rfl, rfl, hBr, hbr⟩ := hrel
      clear hB hb1 hs1 Hst0
      by_cases hlt : 0 < k
      · obtain ⟨i, rfl⟩ : ∃ i : Nat, k = i + 1 := ⟨k - 1, by omega⟩
        have e : (((i + 1 : Nat) : Int) - 1) = (i : Int) := by omega
        rw [e]
        clear e
        have hia : i < a.size := by omega
        have hr : high a (i + 1) % nat b < nat b := Nat.mod_lt _ hpos
        have hrs : (can (high a (i + 1) % nat b)).size ≤ b.size := can_size_le (Nat.lt_trans hr Hbs.out)
        have hone : nat (a.extract i (i + 1) ++ can (high a (i + 1) % nat b)) = a[i].toNat + 256 * (high a (i + 1) % nat b) := by
          rw [nat_append, (nat_one a i hia).1, (nat_one a i hia).2, nat_can]
        have hosz : (a.extract i (i + 1) ++ can (high a (i + 1) % nat b)).size = 1 + (can (high a (i + 1) % nat b)).size := by
          rw [ByteArray.size_append, (nat_one a i hia).2]
        have hplace := div_place (V := high a (i + 1)) (x := a[i].toNat) hpos
        rw [← high_step a i hia] at hplace
        have hq := div_digit (x := a[i].toNat) hpos hr (UInt8.toNat_lt _)
        obtain ⟨R, hR⟩ : ∃ R, R = a[i].toNat + 256 * (high a (i + 1) % nat b) := ⟨_, rfl⟩
        rw [← hR] at hone hplace hq
        have hRs : (can R).size ≤ b.size + 1 := by
          refine can_size_le ?_
          have h1 := UInt8.toNat_lt a[i]
          have h2 := Hbs.out
          rw [Nat.pow_succ]
          omega
        obtain ⟨q, hqd⟩ : ∃ q, q = R / nat b := ⟨_, rfl⟩
        rw [← hqd] at hq hplace
        have hmod : R % nat b = R - nat b * q := by rw [hqd]; have := Nat.div_add_mod R (nat b); omega
        have hqle : ∀ m, m ≤ q ↔ nat b * m ≤ R := fun m => by rw [hqd, Nat.le_div_iff_mul_le hpos, Nat.mul_comm]
        have Hone := Lib.hid hone
        have Hplace := Lib.hid hplace
        have Hqle := Lib.hid hqle
        have Hmod := Lib.hid hmod
        have hosz2 : (a.extract i (i + 1) ++ can (high a (i + 1) % nat b)).size ≤ maxLen := by rw [hosz]; simp [maxLen]; omega
        clear hone hplace hqle hosz hR hqd hmod
        go_wp2_with fail
        refine (Norm_any _ _ hosz2).mono ?_
        rintro e w' ⟨rfl, rfl⟩
        rw [Hone.out]
        clear hosz2 Hone
        go_wp2_with fail
        obtain ⟨wo, hwo⟩ : ∃ wo : World, wo = wr := ⟨_, rfl⟩
        rw [← hwo] at hBr hbr ⊢
        clear hwo
        go_loopw [10, 11, 12] (fun l h _ wr => ∃ lo hi : Nat, l = .int .i64 lo ∧ h = .int .i64 hi ∧ lo ≤ q ∧ q ≤ hi ∧ hi ≤ 255 ∧ Blk wr w.heap.size 5 (cv .u8 (List.replicate (i + 1) 0 ++ digs 256 (a.size - (i + 1)) (high a (i + 1) / nat b))) ∧ Below w.heap.size w wr) (fun l h _ _ => (intOf h - intOf l).toNat)
        case atStart => exact ⟨0, 255, rfl, rfl, Nat.zero_le _, by omega, by omega, hBr, hbr⟩
        case round =>
          obtain ⟨lo, hi, rfl, rfl, h1, h2, h3, hBr2, hbr2⟩ := hrel
          clear hBr hbr
          by_cases hlh : lo < hi
          · obtain ⟨mid, hmid⟩ : ∃ mid, mid = (lo + hi + 1) / 2 := ⟨_, rfl⟩
            have em : ((lo : Int) + (hi : Int) + 1) / 2 = (mid : Int) := by omega
            have m1 : lo < mid := by omega
            have m2 : mid ≤ hi := by omega
            have hms : (can (nat b * mid)).size ≤ maxLen := by
              have : (can (nat b * mid)).size ≤ b.size + 1 := can_size_le (by
                have h4 := Hbs.out
                rw [Nat.pow_succ]
                exact Nat.mul_lt_mul'' h4 (by omega))
              simp [maxLen]
              omega
            have hRm : (can R).size ≤ maxLen := by simp [maxLen]; omega
            have Hmid := Lib.hid hmid
            clear hmid
            by_cases hm : nat b * mid ≤ R
            · have ht : cmpN (nat b * mid) R ≤ 0 := cmpN_le hm
              go_wp2_with fail
              refine (small_any b mid _ (by omega) (by omega)).mono ?_
              rintro e w2 ⟨rfl, hb2⟩
              go_wp2_with fail
              refine (refCmp_any _ _ _ hms hRm).mono ?_
              rintro e w3 ⟨rfl, hb3⟩
              rw [nat_can, nat_can]
              go_wp2_with fail
              go_roundw
              case rel => exact ⟨mid, hi, rfl, rfl, (Hqle.out mid).2 hm, h2, h3, (hBr2.keep hb2).keep hb3, hbr2.trans ((hb2.mono hbr2.size).trans (hb3.mono (Nat.le_trans hbr2.size hb2.size)))⟩
              case measure => simp [intOf]; omega
            · have ht : ¬ cmpN (nat b * mid) R ≤ 0 := cmpN_nle hm
              go_wp2_with fail
              refine (small_any b mid _ (by omega) (by omega)).mono ?_
              rintro e w2 ⟨rfl, hb2⟩
              go_wp2_with fail
              refine (refCmp_any _ _ _ hms hRm).mono ?_
              rintro e w3 ⟨rfl, hb3⟩
              rw [nat_can, nat_can]
              go_wp2_with fail
              go_roundw
              case rel => exact ⟨lo, mid - 1, rfl, by go_num, h1, refdiv_hi (Hqle.out mid) hm, by omega, (hBr2.keep hb2).keep hb3, hbr2.trans ((hb2.mono hbr2.size).trans (hb3.mono (Nat.le_trans hbr2.size hb2.size)))⟩
              case measure => simp [intOf]; omega
          · obtain rfl : lo = q := by omega
            have hsub : nat b * lo ≤ R := (Hqle.out lo).1 (Nat.le_refl _)
            have hms : (can (nat b * lo)).size ≤ 4294967296 := by
              have : (can (nat b * lo)).size ≤ b.size + 1 := can_size_le (by
                have h4 := Hbs.out
                rw [Nat.pow_succ]
                exact Nat.mul_lt_mul'' h4 (by omega))
              omega
            have hRm : (can R).size ≤ 4294967296 := by omega
            have hlo : lo < 256 := by omega
            go_wp2_with fail
            refine (small_any b lo _ (by omega) (by omega)).mono ?_
            rintro e w2 ⟨rfl, hb2⟩
            go_wp2_with fail
            refine (refSub_any _ _ _ hRm hms).mono ?_
            rintro e w3 ⟨rfl, hb3⟩
            rw [nat_can, nat_can, subVal_ge hsub]
            have hBr3 := (hBr2.keep hb2).keep hb3
            have hcell := hBr3.cell (quot_at i _)
            have hfree := hBr3.free (j := i) (by rw [cv_length]; simp; omega)
            rw [← Hmod.out, ← Hplace.out.2]
            go_wp2_with fail
            go_roundw
            case rel => exact ⟨i, by omega, rfl, rfl, quot_set hia hlo Hplace.out.1 hBr3, (hbr2.trans ((hb2.mono hbr2.size).trans (hb3.mono (Nat.le_trans hbr2.size hb2.size)))).setCell (Nat.le_refl _) _⟩
            case measure => simp [intOf]
      · obtain rfl : k = 0 := by omega
        have hst := run_str_blk (P := Tryd.prog) (src := 59) (dst := 9) (l := digs 256 a.size (nat a / nat b)) (post := []) (by simpa [high_zero] using hBr) a.size a.size (digs_length _ _ _).symm Tryd.underlying59 Tryd.underlying5 Tryd.underlying9
        go_wp2_with (go_at_call 22; refine (Norm_any _ _ (by rw [size_ofBts, digs_length]; simp [maxLen]; omega)).mono ?_; rintro e w' ⟨rfl, rfl⟩)
        go_ret3
        exact ⟨refdiv_end a b, hbr⟩
end Go.Proofs.YtmfinfnjamgboaaDoor
