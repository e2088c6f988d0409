/- math/bits.Sub32 and nat.subtract. -/
import Derived.Test.YtmfinfnjamgboaaDoorStep
import Derived.Test.YtmfinfnjamgboaaDoorTz
namespace Go.Proofs.YtmfinfnjamgboaaDoor
open Go.RowKit NM

theorem ofInt_32 {a : Nat} (ha : a < 4294967296) : (BitVec.ofInt 32 (a : Int)).toNat = a := by
  rw [BitVec.ofInt_natCast, BitVec.toNat_ofNat]
  exact Nat.mod_eq_of_lt (by omega)
theorem bits_xor_u32_nat (a b : Nat) (ha : a < 4294967296) (hb : b < 4294967296) : bits .xor .u32 (a : Int) (b : Int) = ((a ^^^ b : Nat) : Int) ∧ a ^^^ b < 4294967296 := by
  have hx : a ^^^ b < 2 ^ 32 := Nat.xor_lt_two_pow (by omega) (by omega)
  refine ⟨?_, hx⟩
  show IntKind.u32.wrap ((BitVec.ofInt 32 (a : Int) ^^^ BitVec.ofInt 32 (b : Int)).toNat : Int) = _
  rw [BitVec.toNat_xor, ofInt_32 ha, ofInt_32 hb, wrap_u32']
  omega
theorem bits_or_u32_nat (a b : Nat) (ha : a < 4294967296) (hb : b < 4294967296) : bits .or .u32 (a : Int) (b : Int) = ((a ||| b : Nat) : Int) ∧ a ||| b < 4294967296 := by
  have hx : a ||| b < 2 ^ 32 := Nat.or_lt_two_pow (by omega) (by omega)
  refine ⟨?_, hx⟩
  show IntKind.u32.wrap ((BitVec.ofInt 32 (a : Int) ||| BitVec.ofInt 32 (b : Int)).toNat : Int) = _
  rw [BitVec.toNat_or, ofInt_32 ha, ofInt_32 hb, wrap_u32']
  omega
theorem and_lt_32 {a b : Nat} (hb : b < 4294967296) : a &&& b < 4294967296 := Nat.and_lt_two_pow (n := 32) a hb
theorem top_bit {n : Nat} (h : n < 4294967296) : n / 2147483648 = (n.testBit 31).toNat := by
  rw [Nat.testBit_eq_decide_div_mod_eq]
  by_cases h1 : n / 2 ^ 31 % 2 = 1
  · rw [decide_eq_true h1]
    show n / 2147483648 = 1
    omega
  · rw [decide_eq_false h1]
    show n / 2147483648 = 0
    omega
/-- What the highest bit of the borrow's formula is. -/
theorem borrow_bits {x y d b b' : Nat} (hx : x < 4294967296) (hy : y < 4294967296) (hd : d < 4294967296) (hb : b ≤ 1) (h : d + y + b = x + 4294967296 * b') :
    bits .or .u32 (bits .and .u32 (bits .xor .u32 4294967295 (x : Int)) (y : Int)) (bits .and .u32 (bits .xor .u32 4294967295 (bits .xor .u32 (x : Int) (y : Int))) (d : Int)) / 2147483648 = (b' : Int) := by
  have e0 : (4294967295 : Int) = ((4294967295 : Nat) : Int) := rfl
  obtain ⟨e1, l1⟩ := bits_xor_u32_nat 4294967295 x (by omega) hx
  obtain ⟨e2, l2⟩ := bits_xor_u32_nat x y hx hy
  obtain ⟨e3, l3⟩ := bits_xor_u32_nat 4294967295 (x ^^^ y) (by omega) l2
  rw [e0, e1, e2, e3, bits_and_u32_nat _ _ l1 hy, bits_and_u32_nat _ _ l3 hd]
  obtain ⟨e4, l4⟩ := bits_or_u32_nat _ _ (and_lt_32 (a := 4294967295 ^^^ x) hy) (and_lt_32 (a := 4294967295 ^^^ (x ^^^ y)) hd)
  rw [e4]
  have e5 := top_bit l4
  have e6 : ((((4294967295 ^^^ x) &&& y) ||| ((4294967295 ^^^ (x ^^^ y)) &&& d)) / 2147483648 : Nat) = b' := by
    rw [e5, Nat.testBit_or, Nat.testBit_and, Nat.testBit_and, Nat.testBit_xor, Nat.testBit_xor, Nat.testBit_xor, show Nat.testBit 4294967295 31 = true from by decide]
    have t1 := top_bit hx
    have t2 := top_bit hy
    have t3 := top_bit hd
    generalize x.testBit 31 = p at *
    generalize y.testBit 31 = q at *
    generalize d.testBit 31 = r at *
    cases p <;> cases q <;> cases r <;> simp only [Bool.toNat_true, Bool.toNat_false, Bool.xor_true, Bool.xor_false, Bool.not_true, Bool.not_false, Bool.and_true, Bool.and_false, Bool.or_false, Bool.or_true] at * <;> omega
  rw [← e6]
  rfl

theorem max_u32 : IntKind.u32.max = 4294967295 := by decide +kernel
set_option maxHeartbeats 1000000 in
theorem Sub32_any (x y b d b' : Nat) (w : World) (hx : x < 4294967296) (hy : y < 4294967296) (hb : b ≤ 1) (hd : d < 4294967296) (h : d + y + b = x + 4294967296 * b') :
    Calls Tryd.prog 77 #[.int .u32 (x : Int), .int .u32 (y : Int), .int .u32 (b : Int)] w fun e w' => e = .returned (.tuple #[.int .u32 (d : Int), .int .u32 (b' : Int)]) ∧ w = w' := by
  have e1 : ((x : Int) - (y : Int) - (b : Int)) % 4294967296 = (d : Int) := by omega
  have e2 := borrow_bits hx hy hd hb h
  rw [← max_u32] at e2
  clear h
  go_enter Tryd.func77, Tryd.ntmps77
  go_wp2
  go_ret2
  exact ⟨rfl, rfl⟩

/-- What subtract leaves. -/
def SubPost (A : Option Addr) (g : Nat) (pre : List Value) (X : List Nat) (post : List Value) (N : Nat) (w : World) (e : Ending) (w' : World) : Prop :=
  e = .returned (.tuple #[]) ∧ Chg A g pre X post (lims X.length (lval X - N)) w w'
theorem sub32_end {L X Y : List Nat} {n cy : Nat} (hX : X.length = n) (hY : Y.length ≤ n) (hL : L.length = n) (hLl : llt L) (hXl : llt X) (hle : lval Y ≤ lval X) (hv : lval L + lval (Y.take n) = lval (X.take n) + lpow n * cy) : L = lims X.length (lval X - lval Y) := by
  rw [List.take_of_length_le (show Y.length ≤ n by omega), List.take_of_length_le (show X.length ≤ n by omega)] at hv
  have h4 : lval L < lpow n := by have := lval_lt hLl; rwa [hL] at this
  have h5 : lval X < lpow n := by have := lval_lt hXl; rwa [hX] at this
  have hcy : cy = 0 := by
    rcases Nat.eq_zero_or_pos cy with h | h
    · exact h
    · have : lpow n * 1 ≤ lpow n * cy := Nat.mul_le_mul_left _ h
      omega
  subst hcy
  apply lval_inj hLl (lims_lt _ _) (by rw [lims_length, hL, hX])
  rw [lval_lims, hX, Nat.mod_eq_of_lt (by omega)]
  omega

set_option maxHeartbeats 2000000 in
theorem subtract_any (A B : Option Addr) (g gy : Nat) (pre prey post posty : List Value) (X Y : List Nat) (c1 c2 n m : Nat) (w : World) (hX : X.length = n) (hY : Y.length = m) (hm : m ≤ n) (hn : n ≤ 8589934592)
    (hXl : llt X) (hYl : llt Y) (hle : lval Y ≤ lval X) (hA : Win w A g pre X post) (hB : Win w B gy prey Y posty) (hne : g ≠ gy) :
    Calls Tryd.prog 70 #[.slice A n c1, .slice B m c2] w (SubPost A g pre X post (lval Y) w) := by
  have HX := Lib.hid hX
  have HY := Lib.hid hY
  have Hle := Lib.hid hle
  clear hX hY hle
  go_enter Tryd.func70, Tryd.ntmps70
  go_wp2
  go_loopw [4, 9] (fun c i wr => ∃ (k : Nat) (L : List Nat) (cy : Nat), k ≤ n ∧ i = .int .i64 k ∧ c = .int .u32 cy ∧ cy ≤ 1 ∧ L.length = k ∧ llt L ∧ lval L + lval (Y.take k) = lval (X.take k) + lpow k * cy ∧ (X ≠ [] → MB wr g pre (L ++ X.drop k) post) ∧ w.grownBy wr (some g)) (fun _ i _ => n - (intOf i).toNat)
  case atStart => exact ⟨0, [], 0, Nat.zero_le _, rfl, rfl, by omega, rfl, llt_nil, by rw [List.take_zero, List.take_zero, lval_nil, Nat.mul_zero], fun h => (hA h).2, World.grownBy.refl _ _⟩
  case round =>
    obtain ⟨k, L, cy, hk, rfl, rfl, hcy, hLk, hLl, hv, hM0, hg⟩ := hrel
    have HLk := Lib.hid hLk
    have Hv := Lib.hid hv
    by_cases hlt : k < n
    · have hXne : X ≠ [] := ne_nil_of (j := k) (by rw [HX.out]; exact hlt)
      have hM := hM0 hXne
      obtain ⟨rfl, _⟩ := hA hXne
      have hxc := hM.at_ (j := k) (by rw [app_len hLk (by rw [HX.out]; omega), HX.out]; omega)
      have hxf := hM.free (j := k) (by rw [app_len hLk (by rw [HX.out]; omega), HX.out]; omega)
      rw [app_at hLk] at hxc
      have hx1 := llt_getD hXl k
      clear hLk hv hM0
      obtain ⟨x, hx⟩ : ∃ x, x = X.getD k 0 := ⟨_, rfl⟩
      obtain ⟨y, hy⟩ : ∃ y, y = Y.getD k 0 := ⟨_, rfl⟩
      have hy1 := llt_getD hYl k
      rw [← hx] at hxc hx1
      rw [← hy] at hy1
      obtain ⟨d, b', hd, hb', hdb⟩ : ∃ d b' : Nat, d < 4294967296 ∧ b' ≤ 1 ∧ d + y + cy = x + 4294967296 * b' := by
        by_cases hlo : x < y + cy
        · exact ⟨x + 4294967296 - (y + cy), 1, by omega, by omega, by omega⟩
        · exact ⟨x - (y + cy), 0, by omega, by omega, by omega⟩
      have hcall := fun W : World => Sub32_any x y cy d b' W hx1 hy1 hcy hd hdb
      have Hcall := Lib.hid hcall
      have Hdb := Lib.hid hdb
      have Hx := Lib.hid hx
      clear hcall hdb hx
      by_cases hkm : k < m
      · obtain ⟨rfl, hMy⟩ := hB (ne_nil_of (j := k) (by rw [HY.out]; exact hkm))
        have hyc := (Blk.grown hMy hg (by intro e; exact hne (Option.some.inj e).symm)).cell (mid_at (pre := prey) (post := posty) (l := Y) (j := k) (by rw [HY.out]; exact hkm))
        rw [← hy] at hyc
        have Hy := Lib.hid hy
        clear hy hMy hA hB
        go_wp2_with (go_at_call 77; refine (Hcall.out _).mono ?_; rintro e w' ⟨rfl, rfl⟩)
        go_roundw
        case rel => exact ⟨k + 1, L ++ [d], b', by omega, by go_num, rfl, hb', by rw [List.length_append, HLk.out]; rfl, llt_snoc hLl hd, diff_round HLk.out Hv.out (by rw [← Hx.out, ← Hy.out]; exact Hdb.out), fun _ => by rw [← app_set HLk.out (by rw [HX.out]; omega)]; exact hM.set (by rw [app_len HLk.out (by rw [HX.out]; omega), HX.out]; omega) rfl, gb_set hg _ _⟩
        case measure => simp [intOf]; omega
      · have hy0 : y = 0 := by rw [hy, List.getD_eq_getElem?_getD, List.getElem?_eq_none (by rw [HY.out]; omega)]; rfl
        have Hy := Lib.hid hy
        clear hy hA hB
        subst hy0
        go_wp2_with (go_at_call 77; refine (Hcall.out _).mono ?_; rintro e w' ⟨rfl, rfl⟩)
        go_roundw
        case rel => exact ⟨k + 1, L ++ [d], b', by omega, by go_num, rfl, hb', by rw [List.length_append, HLk.out]; rfl, llt_snoc hLl hd, diff_round HLk.out Hv.out (by rw [← Hx.out, ← Hy.out]; exact Hdb.out), fun _ => by rw [← app_set HLk.out (by rw [HX.out]; omega)]; exact hM.set (by rw [app_len HLk.out (by rw [HX.out]; omega), HX.out]; omega) rfl, gb_set hg _ _⟩
        case measure => simp [intOf]; omega
    · obtain rfl : k = n := by omega
      go_wp2
      go_end0
      have e := sub32_end HX.out (by rw [HY.out]; exact hm) HLk.out hLl hXl Hle.out Hv.out
      refine ⟨rfl, lims_length _ _, fun h => ?_, hg, fun h => (hA h).1⟩
      have h1 := hM0 h
      rw [List.drop_of_length_le (by rw [HX.out]; exact Nat.le_refl _), List.append_nil, e] at h1
      exact h1
end Go.Proofs.YtmfinfnjamgboaaDoor
