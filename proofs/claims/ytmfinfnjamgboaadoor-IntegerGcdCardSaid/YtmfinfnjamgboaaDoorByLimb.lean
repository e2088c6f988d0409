/- nat.divideByLimb, shiftLeft, shiftRight. -/
import Derived.Test.YtmfinfnjamgboaaDoorMul
namespace Go.Proofs.YtmfinfnjamgboaaDoor
open Go.RowKit NM

/-- The limbs l stand in block g between pre and post; A is their address. -/
def Win (w : World) (A : Option Addr) (g : Nat) (pre : List Value) (l : List Nat) (post : List Value) : Prop := l ≠ [] → A = some ⟨g, pre.length, none⟩ ∧ Blk w g 54 (pre ++ cv .u32 l ++ post)
theorem Win.rd {w : World} {A : Option Addr} {g : Nat} {pre post : List Value} {l : List Nat} (h : Win w A g pre l post) : Rd w A l := fun hl => ⟨g, pre, post, (h hl).1, (h hl).2⟩
theorem Win.of_LB {w : World} {g : Nat} {l : List Nat} (h : LB w g l) : Win w (some ⟨g, 0, none⟩) g [] l [] := fun _ => ⟨rfl, by rw [List.nil_append, List.append_nil]; exact h⟩
theorem Win.nil (w : World) (A : Option Addr) (g : Nat) (pre post : List Value) : Win w A g pre [] post := fun h => absurd rfl h
theorem Win.keep {w w' : World} {A : Option Addr} {g : Nat} {pre post : List Value} {l : List Nat} (h : Win w A g pre l post) (hb : Below w.heap.size w w') : Win w' A g pre l post := fun hl => ⟨(h hl).1, (h hl).2.keep hb⟩

theorem mid_set {l : List Nat} {pre post : List Value} {j d : Nat} (hj : j < l.length) : (pre ++ cv .u32 l ++ post).set (pre.length + j) (.int .u32 (d : Int)) = pre ++ cv .u32 (l.set j d) ++ post := by
  rw [List.append_assoc, List.set_append_right _ _ (by omega), Nat.add_sub_cancel_left, List.set_append_left _ _ (by rw [cv_length]; exact hj), cv_set, List.append_assoc]
theorem mid_len {l : List Nat} {pre post : List Value} {j : Nat} (hj : j < l.length) : pre.length + j < (pre ++ cv .u32 l ++ post).length := by
  simp [cv_length]
  omega

/-- A block in which only the window has turned. -/
def MB (w : World) (g : Nat) (pre : List Value) (l : List Nat) (post : List Value) : Prop := Blk w g 54 (pre ++ cv .u32 l ++ post)
section
variable {w w' : World} {g : Nat} {pre post : List Value} {l : List Nat} {j : Nat}
theorem MB.lt (h : MB w g pre l post) : g < w.heap.size := Blk.lt h
theorem MB.at_ (h : MB w g pre l post) (hj : j < l.length) : w.cell? ⟨g, pre.length + j, none⟩ = some (.int .u32 (l.getD j 0 : Nat)) := Blk.cell h (mid_at hj)
theorem MB.free (h : MB w g pre l post) (hj : j < l.length) : w.frozen? ⟨g, pre.length + j, none⟩ = false := Blk.free h (mid_len hj)
theorem MB.set (h : MB w g pre l post) (hj : j < l.length) {v : Value} {d : Nat} (hv : v = .int .u32 (d : Int)) : MB (w.setCell ⟨g, pre.length + j, none⟩ v) g pre (l.set j d) post := by
  subst hv
  have := Blk.set h (pre.length + j) (.int .u32 (d : Int))
  rw [mid_set hj] at this
  exact this
theorem MB.keep (h : MB w g pre l post) (hb : Below w.heap.size w w') : MB w' g pre l post := Blk.keep h hb
theorem MB.drewN (h : MB w g pre l post) (n : Nat) : MB (w.drewN n) g pre l post := h
end
theorem gb_set {w w' : World} {g : Nat} (h : w.grownBy w' (some g)) (o : Nat) (v : Value) : w.grownBy (w'.setCell ⟨g, o, none⟩ v) (some g) :=
  ⟨h.os, h.tape, h.output, by simpa [World.setCell] using h.size, fun k hk hne => (Below.heap_setCell w' _ v k (fun e => hne (by rw [e]))).trans (h.block k hk hne)⟩
theorem gb_drewN {w w' : World} {r : Option Nat} (h : w.grownBy w' r) (n : Nat) : w.grownBy (w'.drewN n) r := ⟨h.os, h.tape, h.output, h.size, h.block⟩
theorem gb_trans {a b c : World} {r : Option Nat} (h : a.grownBy b r) (k : b.grownBy c r) : a.grownBy c r :=
  ⟨k.os.trans h.os, k.tape.trans h.tape, k.output.trans h.output, Nat.le_trans h.size k.size, fun i hi hne => (k.block i (Nat.lt_of_lt_of_le hi h.size) hne).trans (h.block i hi hne)⟩
theorem gb_below {a b : World} (h : Below a.heap.size a b) (r : Option Nat) : a.grownBy b r := ⟨h.os, h.tape, h.output, h.size, fun i hi _ => h.block i hi⟩

/-- What a call does that changes the window alone. -/
def Chg (A : Option Addr) (g : Nat) (pre : List Value) (l : List Nat) (post : List Value) (l' : List Nat) (w w' : World) : Prop := l'.length = l.length ∧ (l ≠ [] → MB w' g pre l' post) ∧ w.grownBy w' (some g) ∧ (l ≠ [] → A = some ⟨g, pre.length, none⟩)

/-- The number of the limbs from place k on. -/
def lhigh (l : List Nat) (k : Nat) : Nat := lval (l.drop k)
theorem lhigh_zero (l : List Nat) : lhigh l 0 = lval l := rfl
theorem lhigh_end (l : List Nat) (k : Nat) (h : l.length ≤ k) : lhigh l k = 0 := by
  unfold lhigh
  rw [List.drop_of_length_le h]
  rfl
theorem lhigh_step (l : List Nat) (i : Nat) (hi : i < l.length) : lhigh l i = l.getD i 0 + 4294967296 * lhigh l (i + 1) := by
  unfold lhigh
  rw [List.drop_eq_getElem_cons hi, lval_cons, List.getD_eq_getElem?_getD, List.getElem?_eq_getElem hi]
  rfl

/-- The list behind i rounds of a division from above: the lower limbs as they were, the quotient's. -/
def divl (l : List Nat) (d k : Nat) : List Nat := l.take k ++ lims (l.length - k) (lhigh l k / d)
theorem divl_length (l : List Nat) (d k : Nat) (h : k ≤ l.length) : (divl l d k).length = l.length := by
  unfold divl
  rw [List.length_append, List.length_take, lims_length]
  omega
theorem divl_at (l : List Nat) (d i : Nat) (h : i < l.length) : (divl l d (i + 1)).getD i 0 = l.getD i 0 := by
  unfold divl
  rw [List.getD_eq_getElem?_getD, List.getElem?_append_left (by rw [List.length_take]; omega), List.getElem?_take, if_pos (by omega), ← List.getD_eq_getElem?_getD]
theorem ldiv_place {V x d : Nat} (hd : 0 < d) : (x + 4294967296 * V) / d = (x + 4294967296 * (V % d)) / d + 4294967296 * (V / d) ∧ (x + 4294967296 * V) % d = (x + 4294967296 * (V % d)) % d := by
  have h := Nat.div_add_mod V d
  have e : x + 4294967296 * V = (x + 4294967296 * (V % d)) + d * (4294967296 * (V / d)) := by
    have : 4294967296 * V = 4294967296 * (d * (V / d)) + 4294967296 * (V % d) := by rw [← Nat.mul_add, h]
    rw [this, Nat.mul_left_comm]
    omega
  constructor
  · rw [e, Nat.add_mul_div_left _ _ hd]
  · rw [e, Nat.add_mul_mod_self_left]
theorem ldiv_digit {r x d : Nat} (hd : 0 < d) (hr : r < d) (hx : x < 4294967296) : (x + 4294967296 * r) / d < 4294967296 := by
  rw [Nat.div_lt_iff_lt_mul hd]
  have : 4294967296 * (r + 1) ≤ 4294967296 * d := Nat.mul_le_mul_left _ hr
  omega
theorem divl_set (l : List Nat) (d i q : Nat) (hi : i < l.length) (hq : q < 4294967296) (h : lhigh l i / d = q + 4294967296 * (lhigh l (i + 1) / d)) : (divl l d (i + 1)).set i q = divl l d i := by
  unfold divl
  have e1 : l.take (i + 1) = l.take i ++ [l[i]] := List.take_succ_eq_append_getElem hi
  have e2 : lims (l.length - i) (lhigh l i / d) = q :: lims (l.length - (i + 1)) (lhigh l (i + 1) / d) := by
    unfold lims
    rw [show l.length - i = (l.length - (i + 1)) + 1 from by omega, digs, h, Nat.add_mul_mod_self_left, Nat.mod_eq_of_lt hq, Nat.add_mul_div_left _ _ (by omega), Nat.div_eq_of_lt hq, Nat.zero_add]
  rw [e1, e2, List.append_assoc, List.set_append_right _ _ (by rw [List.length_take]; omega), List.length_take, Nat.min_eq_left (by omega), Nat.sub_self]
  rfl
theorem divl_start (l : List Nat) (d k : Nat) (h : k = l.length) : divl l d k = l := by
  unfold divl
  rw [h, List.take_of_length_le (Nat.le_refl _), Nat.sub_self]
  unfold lims
  rw [digs, List.append_nil]
theorem divl_end (l : List Nat) (d : Nat) : divl l d 0 = lims l.length (lval l / d) := by
  unfold divl
  rw [List.take_zero, List.nil_append, Nat.sub_zero, lhigh_zero]

theorem shl_or {r x : Nat} (hx : x < 4294967296) (hr : r < 4294967296) : bits .or .u64 ((r : Int) * 4294967296) (x : Int) = ((x + 4294967296 * r : Nat) : Int) := by
  have e : (r : Int) * 4294967296 = ((r * 4294967296 : Nat) : Int) := by omega
  rw [e, u64_or_nat _ _ (by omega) (by omega)]
  congr 1
  have := or_shift (v := x) (x := r) (k := 4) (by omega)
  rw [Nat.or_comm]
  simpa using this

/-- What divideByLimb leaves. -/
def ByLimb (A : Option Addr) (g : Nat) (pre : List Value) (l : List Nat) (post : List Value) (d : Nat) (w : World) (e : Ending) (w' : World) : Prop := e = .returned (.int .u32 (lval l % d : Nat)) ∧ Chg A g pre l post (lims l.length (lval l / d)) w w'

theorem quot_limb {t d : Nat} (h : t / d < 4294967296) : Value.int .u32 (IntKind.u64.wrap ((t : Int) / (d : Int)) % 4294967296) = .int .u32 ((t / d : Nat) : Int) := by
  have e : (t : Int) / (d : Int) = ((t / d : Nat) : Int) := rfl
  rw [e]
  generalize t / d = q at h
  rw [IntKind.wrap_u64, Int.emod_eq_of_lt (by omega) (by omega), Int.emod_eq_of_lt (by omega) (by omega)]
theorem bylimb_ret {l : List Nat} {d : Nat} (_h : lhigh l 0 % d < 4294967296) : Ending.returned (.int .u32 ((lhigh l 0 % d : Nat) : Int)) = .returned (.int .u32 (lval l % d : Nat)) := rfl

set_option maxHeartbeats 1000000 in
theorem divideByLimb_any (A : Option Addr) (g : Nat) (pre : List Value) (l : List Nat) (post : List Value) (c d : Nat) (w : World) (hll : l.length ≤ 17179869184) (hl : llt l) (hd : 0 < d) (hd2 : d < 4294967296) (hA : Win w A g pre l post) :
    Calls Tryd.prog 44 #[.slice A l.length c, .int .u32 (d : Int)] w (ByLimb A g pre l post d w) := by
  go_enter Tryd.func44, Tryd.ntmps44
  go_wp2
  go_loopw [5, 10] (fun r i wr => ∃ k : Nat, k ≤ l.length ∧ i = .int .i64 k ∧ r = .int .u64 (lhigh l (l.length - k) % d : Nat) ∧ (l ≠ [] → MB wr g pre (divl l d (l.length - k)) post) ∧ w.grownBy wr (some g)) (fun _ i _ => l.length - (intOf i).toNat)
  case atStart => exact ⟨0, Nat.zero_le _, rfl, by rw [lhigh_end _ _ (by omega), Nat.zero_mod]; rfl, fun h => by rw [divl_start _ _ _ (by omega)]; exact (hA h).2, World.grownBy.refl _ _⟩
  case round =>
    obtain ⟨k, hk, rfl, rfl, hM, hg⟩ := hrel
    by_cases hlt : k < l.length
    · obtain ⟨i, hi⟩ : ∃ i : Nat, i + 1 = l.length - k := ⟨l.length - k - 1, by omega⟩
      have hil : i < l.length := by omega
      have e : ((l.length : Int) - 1 - (k : Int)) = (i : Int) := by omega
      have hM1 := hM (ne_nil_of hlt)
      obtain ⟨rfl, _⟩ := hA (ne_nil_of hlt)
      rw [← hi] at hM1
      have hcell := hM1.at_ (j := i) (by rw [divl_length _ _ _ (by omega)]; exact hil)
      have hfree := hM1.free (j := i) (by rw [divl_length _ _ _ (by omega)]; exact hil)
      rw [divl_at _ _ _ hil] at hcell
      have hx := llt_getD hl i
      have hplace := ldiv_place (V := lhigh l (i + 1)) (x := l.getD i 0) hd
      rw [← lhigh_step l i hil] at hplace
      have hr : lhigh l (i + 1) % d < d := Nat.mod_lt _ hd
      have hq := ldiv_digit hd hr hx
      rw [← hi]
      have Hi := Lib.hid hi
      have Hplace := Lib.hid hplace
      clear hi hM hA hplace
      obtain ⟨x, hxd⟩ : ∃ x, x = l.getD i 0 := ⟨_, rfl⟩
      rw [← hxd] at hcell hx hq Hplace
      clear hxd
      generalize lhigh l (i + 1) % d = r at hr hq Hplace ⊢
      have hor := shl_or hx (show r < 4294967296 by omega)
      obtain ⟨t, ht⟩ : ∃ t, t = x + 4294967296 * r := ⟨_, rfl⟩
      rw [← ht] at hor hq Hplace
      clear ht
      go_wp2
      go_roundw
      case rel => exact ⟨k + 1, by omega, by go_num, by rw [show l.length - (k + 1) = i from by have := Hi.out; omega, Hplace.out.2]; rfl, fun _ => by rw [show l.length - (k + 1) = i from by have := Hi.out; omega, ← divl_set l d i (t / d) hil hq Hplace.out.1]; exact hM1.set (by rw [divl_length _ _ _ (by omega)]; exact hil) (quot_limb hq), gb_set hg _ _⟩
      case measure => simp [intOf]; omega
    · obtain rfl : k = l.length := by omega
      rw [Nat.sub_self] at hM ⊢
      have hrd : lhigh l 0 % d < 4294967296 := by have := Nat.mod_lt (lhigh l 0) hd; omega
      go_wp2
      go_ret
      exact ⟨bylimb_ret hrd, lims_length _ _, fun h => by rw [← divl_end]; exact hM h, hg, fun h => (hA h).1⟩

/-- 2^s, as the walk has it. -/
theorem two_pow_cast (s : Nat) : (2 : Int) ^ s = ((2 ^ s : Nat) : Int) := by norm_cast
theorem two_pow_le {s : Nat} (h : s < 32) : 2 ^ s ≤ 2147483648 := Nat.pow_le_pow_right (n := 2) (by omega) (show s ≤ 31 by omega)
theorem two_pow_pos' (s : Nat) : 0 < 2 ^ s := Nat.pow_pos (by omega)

theorem pow_split {s : Nat} (h : s < 32) : 4294967296 = 2 ^ (32 - s) * 2 ^ s := by
  rw [← Nat.pow_add, show 32 - s + s = 32 from by omega]
theorem shl_wide {x s : Nat} (hs : s < 32) (hx : x < 4294967296) : x * 2 ^ s < 9223372036854775808 := by
  have h1 := two_pow_le hs
  have h2 := Nat.mul_le_mul (show x ≤ 4294967295 by omega) h1
  omega
theorem shl_low {p x s : Nat} (hs : s < 32) (hp : p < 2 ^ s) (_hx : x < 4294967296) : p ||| (x * 2 ^ s % 4294967296) = p + x * 2 ^ s % 4294967296 ∧ p + x * 2 ^ s % 4294967296 < 4294967296 := by
  have e : x * 2 ^ s % 4294967296 = (x % 2 ^ (32 - s)) * 2 ^ s := by
    conv => lhs; rw [pow_split hs]
    exact Nat.mul_mod_mul_right _ _ _
  constructor
  · rw [e, Nat.or_comm, Nat.mul_comm, ← Nat.two_pow_add_eq_or_of_lt hp, Nat.add_comm]
  · rw [e]
    have h1 : x % 2 ^ (32 - s) < 2 ^ (32 - s) := Nat.mod_lt _ (two_pow_pos' _)
    have h2 : (x % 2 ^ (32 - s) + 1) * 2 ^ s ≤ 2 ^ (32 - s) * 2 ^ s := Nat.mul_le_mul_right _ h1
    rw [← pow_split hs, Nat.add_mul, Nat.one_mul] at h2
    omega
theorem shl_high {x s : Nat} (_hs : s < 32) (hx : x < 4294967296) : x * 2 ^ s / 4294967296 < 2 ^ s := by
  rw [Nat.div_lt_iff_lt_mul (by omega), Nat.mul_comm (2 ^ s)]
  exact Nat.mul_lt_mul_of_pos_right hx (two_pow_pos' s)
theorem shl_wrap {x s : Nat} (hs : s < 32) (hx : x < 4294967296) : IntKind.u64.wrap ((x : Int) * 2 ^ s) = ((x * 2 ^ s : Nat) : Int) := by
  have h := shl_wide hs hx
  rw [two_pow_cast, IntKind.wrap_u64]
  generalize hw : x * 2 ^ s = v at h
  have e : (x : Int) * ((2 ^ s : Nat) : Int) = (v : Int) := by rw [← hw]; simp
  rw [e]
  omega
theorem shl_val1 {p x s : Nat} (hs : s < 32) (hp : p < 2 ^ s) (hx : x < 4294967296) : Value.int .u32 (bits .or .u32 (p : Int) (IntKind.u64.wrap ((x : Int) * 2 ^ s) % 4294967296)) = .int .u32 ((p + x * 2 ^ s % 4294967296 : Nat) : Int) := by
  have h := shl_low hs hp hx
  have h1 := two_pow_le hs
  rw [shl_wrap hs hx]
  have e : (((x * 2 ^ s : Nat) : Int) % 4294967296) = ((x * 2 ^ s % 4294967296 : Nat) : Int) := rfl
  rw [e, u32_or_nat _ _ (by omega) (Nat.mod_lt _ (by omega)), h.1]
theorem shl_val2 {x s : Nat} (hs : s < 32) (hx : x < 4294967296) : Value.int .u32 (IntKind.u64.wrap ((x : Int) * 2 ^ s) / 4294967296 % 4294967296) = .int .u32 ((x * 2 ^ s / 4294967296 : Nat) : Int) := by
  have h := shl_high hs hx
  have h1 := two_pow_le hs
  rw [shl_wrap hs hx]
  generalize x * 2 ^ s = v at h
  congr 1
  omega
theorem shl_step {P x : List Nat} {i p xi s : Nat} (hP : P.length = x.length + 1) (hi : i < x.length) (hp : p = P.getD i 0) (hz : P.getD (i + 1) 0 = 0) (hx : xi = x.getD i 0) (hv : lval P = lval (x.take i) * 2 ^ s) :
    lval ((P.set i (p + xi * 2 ^ s % 4294967296)).set (i + 1) (xi * 2 ^ s / 4294967296)) = lval (x.take (i + 1)) * 2 ^ s := by
  have h1 := lval_set (l := P) (i := i) (by omega) (p + xi * 2 ^ s % 4294967296)
  have h2 := lval_set (l := P.set i (p + xi * 2 ^ s % 4294967296)) (i := i + 1) (by rw [List.length_set]; omega) (xi * 2 ^ s / 4294967296)
  rw [getD_set_ne (by omega), hz, Nat.mul_zero, Nat.add_zero] at h2
  rw [← hp, Nat.mul_add] at h1
  rw [h2, lval_take_succ, ← hx, Nat.add_mul, ← hv, lpow_succ, Nat.mul_assoc, Nat.mul_assoc]
  have e := Nat.mod_add_div (xi * 2 ^ s) 4294967296
  have e2 : lpow i * (xi * 2 ^ s) = lpow i * (xi * 2 ^ s % 4294967296) + lpow i * (4294967296 * (xi * 2 ^ s / 4294967296)) := by rw [← Nat.mul_add, e]
  omega
theorem shl_next {P x : List Nat} {i v s : Nat} {y : Nat} (hP : P.length = x.length + 1) (hi : i < x.length) (h : v < 2 ^ s) : ((P.set i y).set (i + 1) v).getD (i + 1) 0 < 2 ^ s := by
  rw [List.getD_eq_getElem?_getD, List.getElem?_set_self (by rw [List.length_set]; omega)]
  exact h

set_option maxHeartbeats 1000000 in
theorem shiftLeft_any (A : Option Addr) (x : List Nat) (c s : Nat) (w : World) (hxl : x.length ≤ 17179869184) (hx : llt x) (hs : s < 32) (hA : Rd w A x) :
    Calls Tryd.prog 62 #[.slice A x.length c, .int .i64 (s : Int)] w (MulPost (x.length + 1) (lval x * 2 ^ s) w) := by
  obtain ⟨n, hn⟩ : ∃ n, n = x.length := ⟨_, rfl⟩
  have Hn := Lib.hid hn
  clear hn
  go_enter Tryd.func62, Tryd.ntmps62
  go_wp2_with (at_make; refine wpList_make_blk _ rfl _ _ 53 rfl 54 .u32 4 Tryd.underlying53 row_u32 _ _ _ _ (x.length + 1) rfl rfl (by omega) (by omega) (by omega) (by omega) ?_; intro w1 hP hb1 hs1)
  go_loopw [14] (fun i wr => ∃ (k : Nat) (P : List Nat), k ≤ x.length ∧ i = .int .i64 k ∧ P.length = x.length + 1 ∧ llt P ∧ lval P = lval (x.take k) * 2 ^ s ∧ P.getD k 0 < 2 ^ s ∧ (∀ t, k < t → P.getD t 0 = 0) ∧ LB wr w.heap.size P ∧ Below w.heap.size w wr) (fun i _ => x.length - (intOf i).toNat)
  case atStart => exact ⟨0, List.replicate (x.length + 1) 0, Nat.zero_le _, rfl, by simp, llt_zeros _, by rw [lval_zeros, List.take_zero, lval_nil, Nat.zero_mul], by simp [List.getD_eq_getElem?_getD]; exact two_pow_pos' s, fun t _ => by simp [List.getD_eq_getElem?_getD, List.getElem?_replicate]; split <;> rfl, hP, hb1⟩
  case round =>
    obtain ⟨i, P, hi, rfl, hPl, hPt, hPv, hPs, hPz, hBr, hbr⟩ := hrel
    clear hP hb1 hs1
    by_cases hlt : i < x.length
    · obtain ⟨gx, prex, postx, rfl, hxB⟩ := hA (ne_nil_of hlt)
      have hxc := (hxB.below hbr hxB.lt).cell (mid_at hlt)
      have hpc := hBr.at_ (j := i) (by omega)
      have hpf := hBr.free (j := i) (by omega)
      have hpc1 := hBr.at_ (j := i + 1) (by omega)
      rw [hPz (i + 1) (by omega)] at hpc1
      have hpf1 := hBr.free (j := i + 1) (by omega)
      have hx1 := llt_getD hx i
      obtain ⟨xi, hxi⟩ : ∃ xi, xi = x.getD i 0 := ⟨_, rfl⟩
      obtain ⟨p, hp⟩ : ∃ p, p = P.getD i 0 := ⟨_, rfl⟩
      rw [← hxi] at hxc hx1
      rw [← hp] at hpc hPs
      have HPv := Lib.hid hPv
      have HPz := Lib.hid hPz
      have HPl := Lib.hid hPl
      have Hxi := Lib.hid hxi
      have Hp := Lib.hid hp
      clear hPv hPz hPl hxi hp hxB hA
      go_wp2
      go_roundw
      case rel => exact ⟨i + 1, (P.set i (p + xi * 2 ^ s % 4294967296)).set (i + 1) (xi * 2 ^ s / 4294967296), by omega, by go_num, by rw [List.length_set, List.length_set, HPl.out], llt_set (llt_set hPt _ _ (shl_low hs hPs hx1).2) _ _ (by have := shl_high hs hx1; have := two_pow_le hs; omega), shl_step HPl.out hlt Hp.out (HPz.out _ (by omega)) Hxi.out HPv.out,
        shl_next HPl.out hlt (shl_high hs hx1), fun t ht => by rw [getD_set_ne (by omega), getD_set_ne (by omega)]; exact HPz.out t (by omega), (hBr.set i (shl_val1 hs hPs hx1)).set (i + 1) (shl_val2 hs hx1), (hbr.setCell (Nat.le_refl _) _).setCell (Nat.le_refl _) _⟩
      case measure => simp [intOf]; omega
    · go_wp2
      go_ret
      exact ⟨P, hPl, hPt, by rw [hPv, List.take_of_length_le (by omega)], w.heap.size, Nat.le_refl _, by rw [hPl]; rfl, hBr, hbr⟩
end Go.Proofs.YtmfinfnjamgboaaDoor
