/- voussoirref01.Mul and small. -/
import Derived.Test.YtmfinfnjamgboaaDoorU64
import Derived.Test.YtmfinfnjamgboaaDoorLimb
namespace Go.Proofs.YtmfinfnjamgboaaDoor
open Go.RowKit NM

theorem row_int : (Tryd.prog.info? 3).map (fun i => (i.zero, i.size, i.bytes)) = some (some (.int .i64 0), 1, 8) := by kernel_rfl

/-- A block of ints. -/
def IB (w : World) (g : Nat) (l : List Nat) : Prop := Blk w g 3 (cv .i64 l)
theorem IB.at_ {w : World} {g : Nat} {l : List Nat} (h : IB w g l) {j : Nat} (hj : j < l.length) : w.cell? ⟨g, j, none⟩ = some (.int .i64 (l.getD j 0 : Nat)) := Blk.cell h (cv_getElem? _ _ _ hj)
theorem IB.free {w : World} {g : Nat} {l : List Nat} (h : IB w g l) {j : Nat} (hj : j < l.length) : w.frozen? ⟨g, j, none⟩ = false := Blk.free h (by rw [cv_length]; exact hj)
theorem IB.set {w : World} {g : Nat} {l : List Nat} (h : IB w g l) (j : Nat) {v : Value} {d : Nat} (hv : v = .int .i64 (d : Int)) : IB (w.setCell ⟨g, j, none⟩ v) g (l.set j d) := by
  subst hv
  have := Blk.set h j (.int .i64 (d : Int))
  rw [cv_set] at this
  exact this
theorem IB.drewN {w : World} {g : Nat} {l : List Nat} (h : IB w g l) (n : Nat) : IB (w.drewN n) g l := h

theorem lt_set {B : Nat} {l : List Nat} (h : NM.lt B l) (i x : Nat) (hx : x < B) : NM.lt B (l.set i x) := fun y hy => by
  rcases List.mem_or_eq_of_mem_set hy with h1 | h1
  · exact h y h1
  · omega
theorem lt_zeros {B : Nat} (hB : 0 < B) (k : Nat) : NM.lt B (List.replicate k 0) := fun x hx => by
  rw [List.mem_replicate] at hx
  omega
/-- One place of one row of a long multiplication. -/
theorem rmul_step {P : List Nat} {a b : ByteArray} {i j n c p d c' : Nat} (hP : P.length = n) (hij : i + j < n) (hp : p = P.getD (i + j) 0) (hv : val 256 P + 256 ^ (i + j) * c = val 256 ((bts a).take i) * nat b + 256 ^ i * (byteAt a i * val 256 ((bts b).take j)))
    (ht : d + 256 * c' = p + byteAt a i * byteAt b j + c) : val 256 (P.set (i + j) d) + 256 ^ (i + (j + 1)) * c' = val 256 ((bts a).take i) * nat b + 256 ^ i * (byteAt a i * val 256 ((bts b).take (j + 1))) := by
  have h1 := val_set (B := 256) (l := P) (i := i + j) (by omega) d
  rw [← hp] at h1
  have e : 256 ^ (i + j) * (d + 256 * c') = 256 ^ (i + j) * (p + byteAt a i * byteAt b j + c) := by rw [ht]
  rw [Nat.mul_add, Nat.mul_add, Nat.mul_add] at e
  rw [val_take_succ, Nat.mul_add (byteAt a i), Nat.mul_add (256 ^ i)]
  have e2 : 256 ^ i * (byteAt a i * (256 ^ j * (bts b).getD j 0)) = 256 ^ (i + j) * (byteAt a i * byteAt b j) := by
    rw [Nat.pow_add, Nat.mul_assoc, Nat.mul_left_comm (byteAt a i)]
    rfl
  have e3 : 256 ^ (i + (j + 1)) * c' = 256 ^ (i + j) * (256 * c') := by rw [← Nat.add_assoc, Nat.pow_succ, Nat.mul_assoc]
  rw [e2, e3]
  omega
/-- While something is carried, the place is not behind the product. -/
theorem rmul_in {P : List Nat} {a b : ByteArray} {i j c : Nat} (hv : val 256 P + 256 ^ (i + j) * c = val 256 ((bts a).take i) * nat b + 256 ^ i * (byteAt a i * val 256 ((bts b).take j))) (hc : 0 < c) : j ≤ b.size := by
  rcases Nat.lt_or_ge b.size j with h | h
  · exfalso
    rw [List.take_of_length_le (show (bts b).length ≤ j by rw [bts_length]; omega)] at hv
    have e : val 256 ((bts a).take i) * nat b + 256 ^ i * (byteAt a i * val 256 (bts b)) = val 256 ((bts a).take (i + 1)) * nat b := by
      rw [val_take_succ, Nat.add_mul, Nat.mul_assoc]
      rfl
    rw [e] at hv
    have h1 := bts_take_lt a (i + 1)
    have h2 := nat_lt b
    have h3 : val 256 ((bts a).take (i + 1)) * nat b < 256 ^ (i + 1) * 256 ^ b.size := Nat.mul_lt_mul'' h1 h2
    rw [← Nat.pow_add] at h3
    have h4 : 256 ^ (i + 1 + b.size) ≤ 256 ^ (i + j) := Nat.pow_le_pow_right (by omega) (by omega)
    have h5 : 256 ^ (i + j) * 1 ≤ 256 ^ (i + j) * c := Nat.mul_le_mul_left _ hc
    omega
  · exact h
theorem rmul_row {P : List Nat} {a b : ByteArray} {i j : Nat} (hj : b.size ≤ j) (hv : val 256 P + 256 ^ (i + j) * 0 = val 256 ((bts a).take i) * nat b + 256 ^ i * (byteAt a i * val 256 ((bts b).take j))) :
    val 256 P = val 256 ((bts a).take (i + 1)) * nat b := by
  rw [List.take_of_length_le (show (bts b).length ≤ j by rw [bts_length]; omega), Nat.mul_zero, Nat.add_zero] at hv
  rw [hv, val_take_succ, Nat.add_mul, Nat.mul_assoc]
  rfl
theorem rmul_start {P : List Nat} {a b : ByteArray} {i : Nat} (h : val 256 P = val 256 ((bts a).take i) * nat b) : val 256 P + 256 ^ (i + 0) * 0 = val 256 ((bts a).take i) * nat b + 256 ^ i * (byteAt a i * val 256 ((bts b).take 0)) := by
  rw [h, List.take_zero]
  simp [val]
theorem byte_mul (x y : Nat) (hx : x < 256) (hy : y < 256) : x * y ≤ 65025 := Nat.mul_le_mul (show x ≤ 255 by omega) (show y ≤ 255 by omega)

theorem rmul_end {P : List Nat} {a b : ByteArray} {i k : Nat} (hP : NM.lt 256 P) (hk : P.length ≤ k) (hi : a.size ≤ i) (hv : val 256 P = val 256 ((bts a).take i) * nat b) : Ending.returned (.string (can (nat (ofBts (P.take k))))) = .returned (.string (can (nat a * nat b))) := by
  rw [List.take_of_length_le hk, nat_ofBts hP, hv, List.take_of_length_le (by rw [bts_length]; exact hi)]
  rfl

set_option maxHeartbeats 1000000 in
theorem refMul_any (a b : ByteArray) (w : World) (ha : a.size ≤ 4294967296) (hb : b.size ≤ 4294967296) :
    Calls Tryd.prog 56 #[.string a, .string b] w fun e w' => e = .returned (.string (can (nat a * nat b))) ∧ Below w.heap.size w w' := by
  obtain ⟨n, hn⟩ : ∃ n, n = a.size + b.size + 1 := ⟨_, rfl⟩
  have Hn := Lib.hid hn
  have hn1 : a.size + b.size + 1 ≤ n := by omega
  have hn2 : n ≤ 8589934593 := by omega
  clear hn
  go_enter Tryd.func56, Tryd.ntmps56
  go_wp2_with (at_make; refine wpList_make_blk _ rfl _ _ 81 rfl 3 .i64 8 Tryd.underlying81 row_int _ _ _ _ n rfl rfl (by have := Hn.out; omega) (by have := Hn.out; omega) (by omega) (by omega) ?_; intro w1 hP hb1 hs1)
  go_loopw [6] (fun i wr => ∃ (k : Nat) (P : List Nat), k ≤ a.size ∧ i = .int .i64 k ∧ P.length = n ∧ NM.lt 256 P ∧ val 256 P = val 256 ((bts a).take k) * nat b ∧ IB wr w.heap.size P ∧ Below w.heap.size w wr) (fun i _ => a.size - (intOf i).toNat)
  case atStart => exact ⟨0, List.replicate n 0, Nat.zero_le _, rfl, by simp, lt_zeros (by omega) _, by rw [val_zeros, List.take_zero, val, Nat.zero_mul], hP, hb1⟩
  case round =>
    obtain ⟨i, P, hi, rfl, hPl, hPt, hPv, hBr, hbr⟩ := hrel
    clear hP hb1 hs1
    have HPv := Lib.hid hPv
    have HPl := Lib.hid hPl
    clear hPv hPl
    by_cases hlt : i < a.size
    · go_wp2
      obtain ⟨wo, hwo⟩ : ∃ wo : World, wo = wr := ⟨_, rfl⟩
      rw [← hwo] at hBr hbr ⊢
      clear hwo
      go_loopw [7, 8, 9] (fun c j _ wr => ∃ (k : Nat) (Q : List Nat) (cy : Nat), k ≤ b.size + 1 ∧ j = .int .i64 k ∧ c = .int .i64 cy ∧ cy < 256 ∧ Q.length = n ∧ NM.lt 256 Q ∧ val 256 Q + 256 ^ (i + k) * cy = val 256 ((bts a).take i) * nat b + 256 ^ i * (byteAt a i * val 256 ((bts b).take k)) ∧ IB wr w.heap.size Q ∧ Below w.heap.size w wr) (fun _ j _ _ => b.size + 1 - (intOf j).toNat)
      case atStart => exact ⟨0, P, 0, Nat.zero_le _, rfl, rfl, by omega, HPl.out, hPt, rmul_start HPv.out, hBr, hbr⟩
      case round =>
        obtain ⟨j, Q, cy, hj, rfl, rfl, hcy, hQl, hQt, hQv, hQB, hQb⟩ := hrel
        have HQv := Lib.hid hQv
        have HQl := Lib.hid hQl
        have hin : 0 < cy → j ≤ b.size := fun h => rmul_in hQv h
        by_cases hgo : j < b.size ∨ 0 < cy
        · have hjb : j ≤ b.size := by omega
          have hpc := hQB.at_ (j := i + j) (by omega)
          have hpf := hQB.free (j := i + j) (by omega)
          have hp1 := getD_lt (B := 256) (by omega) hQt (i + j)
          obtain ⟨p, hp⟩ : ∃ p, p = Q.getD (i + j) 0 := ⟨_, rfl⟩
          rw [← hp] at hpc hp1
          have hxy := byte_mul _ _ (byteAt_lt a i) (byteAt_lt b j)
          obtain ⟨q, hq⟩ : ∃ q, q = byteAt a i * byteAt b j := ⟨_, rfl⟩
          rw [← hq] at hxy
          have hqe : (byteAt a i : Int) * (byteAt b j : Int) = (q : Int) := by rw [hq]; simp
          have Hq := Lib.hid hq
          have Hp := Lib.hid hp
          have hij : i + j < n := by omega
          clear hQv hQl hq hp hin
          rcases (show j < b.size ∨ (¬ j < b.size ∧ 0 < cy) from by omega) with h1 | ⟨h1, h2⟩
          all_goals
            go_wp2
            go_quiet ((go_at_call 55; exact quietly (at_any _ _ _)))
            go_wp2
            go_roundw
            case rel => exact ⟨j + 1, Q.set (i + j) ((p + q + cy) % 256), (p + q + cy) / 256, by omega, by go_num, by go_num, by omega, by rw [List.length_set, HQl.out], lt_set hQt _ _ (by omega),
              rmul_step HQl.out hij Hp.out HQv.out (by rw [← Hq.out]; omega), (hQB.drewN _).set _ (by go_num), (below_drewN hQb _).setCell (Nat.le_refl _) _⟩
            case measure => simp [intOf]; omega
        · have h1 : ¬ j < b.size := by omega
          have h2 : cy = 0 := by omega
          subst h2
          clear hQv hQl hin
          go_wp2
          go_roundw
          case rel => exact ⟨i + 1, Q, by omega, by go_num, HQl.out, hQt, rmul_row (by omega) HQv.out, hQB, hQb⟩
          case measure => simp [intOf]; omega
    · go_wp2
      obtain ⟨wo, hwo⟩ : ∃ wo : World, wo = wr := ⟨_, rfl⟩
      rw [← hwo] at hBr hbr ⊢
      clear hwo
      go_loopw [10, 12, 64] (fun v _ j wr => ∃ k : Nat, k ≤ n ∧ j = .int .i64 k ∧ Own wr wo.heap.size 5 .u8 v (P.take k) ∧ Below wo.heap.size wo wr) (fun _ _ j _ => n - (intOf j).toNat)
      case atStart => exact ⟨0, Nat.zero_le _, rfl, Own.made wo #[] 0 rfl (Nat.le_refl _) (by omega), (Below.refl _ _).alloc (Nat.le_refl _) _⟩
      case round =>
        obtain ⟨k, hk, rfl, hown, hb2⟩ := hrel
        by_cases hkn : k < n
        · have hkl : k < P.length := by rw [HPl.out]; exact hkn
          have hpc := (Blk.below hBr hb2 (Blk.lt hBr)).cell (cv_getElem? .i64 P k hkl)
          have hts : P.take (k + 1) = P.take k ++ [P.getD k 0] := by rw [List.take_succ_eq_append_getElem hkl, List.getD_eq_getElem?_getD, List.getElem?_eq_getElem hkl]; rfl
          have Hts := Lib.hid hts
          have hl : (P.take k).length ≤ 17179869184 := by rw [List.length_take]; omega
          have hp1 := getD_lt (B := 256) (by omega) hPt k
          have hs2 : wo.heap.size ≤ wr.heap.size := hb2.size
          clear hts
          generalize P.getD k 0 = p at hpc hp1 Hts
          go_wp2_with (at_builtin; refine wpList_push _ rfl _ _ 59 rfl wo.heap.size 5 .u8 1 Tryd.underlying59 row_u8 _ (P.take k) rfl (hown.alloc _) ⟨wr.heap.size, 0, none⟩ 1 rfl p (((Blk.new _ _ _).cell (j := 0) rfl).trans (congrArg some (by go_num))) hl (by omega) (by simp; omega) ?_; intro v2 w2 hown2 _ hb3)
          go_roundw
          case rel => exact ⟨k + 1, by omega, by go_num, by rw [Hts.out]; exact hown2, (hb2.alloc hs2 _).trans hb3⟩
          case measure => simp [intOf]; omega
        · obtain rfl : k = n := by omega
          have hst := run_str_own (P := Tryd.prog) hown Tryd.underlying59 Tryd.underlying5 Tryd.underlying9
          go_wp2_with (go_at_call 22; refine (Norm_any _ _ (by rw [size_ofBts, List.length_take]; simp [maxLen]; omega)).mono ?_; rintro e w' ⟨rfl, rfl⟩)
          go_ret
          exact ⟨rmul_end hPt (by rw [HPl.out]; omega) (by omega) HPv.out, hbr.trans (hb2.mono hbr.size)⟩

set_option maxHeartbeats 400000 in
theorem small_any (a : ByteArray) (d : Nat) (w : World) (ha : a.size ≤ 4294967296) (hd : d < 256) :
    Calls Tryd.prog 41 #[.string a, .int .i64 (d : Int)] w fun e w' => e = .returned (.string (can (nat a * d))) ∧ Below w.heap.size w w' := by
  have hst := run_str_blk (P := Tryd.prog) (src := 59) (dst := 9) (l := [d]) (post := []) (Blk.new w #[.int .u8 (d : Int)] 5) 1 1 rfl Tryd.underlying59 Tryd.underlying5 Tryd.underlying9
  go_enter Tryd.func41, Tryd.ntmps41
  go_wp2_with (go_at_call 56; refine (refMul_any _ _ _ ha (by rw [size_ofBts]; simp)).mono ?_; rintro e w1 ⟨rfl, hb1⟩)
  go_ret
  refine ⟨?_, ((Below.refl _ _).alloc (Nat.le_refl _) _).trans (hb1.mono (by simp))⟩
  show Ending.returned (Value.string (can (nat a * nat (ofBts [d])))) = _
  rw [nat_ofBts (lt_cons hd (lt_nil _))]
  simp [val]
end Go.Proofs.YtmfinfnjamgboaaDoor
