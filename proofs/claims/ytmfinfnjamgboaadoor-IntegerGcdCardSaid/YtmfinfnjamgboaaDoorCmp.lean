/- nat.Cmp and voussoirref01.Cmp compare the numbers. -/
import Derived.Test.YtmfinfnjamgboaaDoorNorm
import Derived.Deep.QuietTactic
import Derived.BigQuiet
import Derived.Deep.RegionWith
import Derived.Lib.Hide
namespace Go.Proofs.YtmfinfnjamgboaaDoor
open Go.RowKit NM

/-- What cmp.Compare says of two numbers. -/
def sgn (a b : Int) : Int := if a < b then -1 else if b < a then 1 else 0
theorem sgn_lt {a b : Int} (h : a < b) : sgn a b = -1 := if_pos h
theorem sgn_gt {a b : Int} (h : b < a) : sgn a b = 1 := by unfold sgn; rw [if_neg (by omega), if_pos h]
theorem sgn_self (a : Int) : sgn a a = 0 := by unfold sgn; rw [if_neg (by omega), if_neg (by omega)]
theorem ret_int {k : IntKind} {a b : Int} (h : a = b) : Ending.returned (.int k a) = .returned (.int k b) := by rw [h]

/-- A contract that leaves the world alone, met behind draws in a quiet region. -/
theorem quietly {P : Program} {f : FuncId} {args : Array Value} {w W : World} {m : Nat} {v : Value} (h : Calls P f args (w.drewN m) fun e w' => e = .returned v ∧ w.drewN m = w') (hW : W = w.drewN m := by rfl) :
    Calls P f args W fun e w'' => e = .returned v ∧ ∃ k, w'' = w.drewN k := by
  subst hW
  exact h.mono fun _ _ ⟨he, hm⟩ => ⟨he, m, hm.symm⟩

set_option maxHeartbeats 400000 in
theorem CompareInt_any (a b : Int) (w : World) :
    Calls Tryd.prog 66 #[.int .i64 a, .int .i64 b] w fun e w' => e = .returned (.int .i64 (sgn a b)) ∧ w = w' := by
  rcases Int.lt_trichotomy a b with h | h | h
  · go_enter Tryd.func66, Tryd.ntmps66
    go_wp2
    go_ret
    exact ⟨ret_int (sgn_lt h).symm, rfl⟩
  · subst h
    go_enter Tryd.func66, Tryd.ntmps66
    go_wp2
    go_ret
    exact ⟨ret_int (sgn_self a).symm, rfl⟩
  · go_enter Tryd.func66, Tryd.ntmps66
    go_wp2
    go_ret
    exact ⟨ret_int (sgn_gt h).symm, rfl⟩

set_option maxHeartbeats 400000 in
theorem CompareByte_any (a b : Int) (w : World) :
    Calls Tryd.prog 67 #[.int .u8 a, .int .u8 b] w fun e w' => e = .returned (.int .i64 (sgn a b)) ∧ w = w' := by
  rcases Int.lt_trichotomy a b with h | h | h
  · go_enter Tryd.func67, Tryd.ntmps67
    go_wp2
    go_ret
    exact ⟨ret_int (sgn_lt h).symm, rfl⟩
  · subst h
    go_enter Tryd.func67, Tryd.ntmps67
    go_wp2
    go_ret
    exact ⟨ret_int (sgn_self a).symm, rfl⟩
  · go_enter Tryd.func67, Tryd.ntmps67
    go_wp2
    go_ret
    exact ⟨ret_int (sgn_gt h).symm, rfl⟩

theorem can_size_le_size (a : ByteArray) : (can (nat a)).size ≤ a.size := can_size_le (nat_lt a)

def CmpPost (m n : Nat) (w : World) (e : Ending) (w' : World) : Prop := e = .returned (.int .i64 (cmpN m n)) ∧ Below w.heap.size w w'

theorem cmp_size {m n : Nat} (h : ¬ (can m).size = (can n).size) : Ending.returned (.int .i64 (sgn ((can m).size : Int) ((can n).size : Int))) = .returned (.int .i64 (cmpN m n)) := by
  apply ret_int
  rcases Nat.lt_or_ge (can m).size (can n).size with h1 | h1
  · rw [sgn_lt (by omega), cmpN_lt (lt_of_size h1)]
  · rw [sgn_gt (by omega), cmpN_gt (lt_of_size (by omega))]
theorem cmp_round {m n : Nat} (he : (can m).size = (can n).size) {k i : Nat} (b2 : i < (can m).size) (b3 : i < (can n).size) (_b4 : k + i + 1 ≤ (can m).size) (b5 : (can m).size ≤ k + i + 1)
    (ht : ∀ j, (can m).size - k ≤ j → (bts (can m)).getD j 0 = (bts (can n)).getD j 0) (h : (can m)[i].toNat = (can n)[i].toNat) : ∀ j, (can m).size - (k + 1) ≤ j → (bts (can m)).getD j 0 = (bts (can n)).getD j 0 := by
  intro j hj
  exact top_step b2 b3 (fun j hj => ht j (by omega)) h j (by omega)
theorem cmp_part {m n : Nat} (he : (can m).size = (can n).size) {k i : Nat} (b2 : i < (can m).size) (b3 : i < (can n).size) (b5 : (can m).size ≤ k + i + 1)
    (ht : ∀ j, (can m).size - k ≤ j → (bts (can m)).getD j 0 = (bts (can n)).getD j 0) (h : ¬ (can m)[i].toNat = (can n)[i].toNat) :
    Ending.returned (.int .i64 (sgn ((can m)[i].toNat : Int) ((can n)[i].toNat : Int))) = .returned (.int .i64 (cmpN m n)) := by
  apply ret_int
  have top : Top (can m) (can n) i := fun j hj => ht j (by omega)
  rcases Nat.lt_or_ge (can m)[i].toNat (can n)[i].toNat with h1 | h1
  · rw [sgn_lt (by omega), cmpN_lt (top_lt he b2 b3 top h1)]
  · rw [sgn_gt (by omega), cmpN_gt (top_lt he.symm b3 b2 (fun j hj => (top j hj).symm) (by omega))]

set_option maxHeartbeats 400000 in
theorem Cmp_any (a b : ByteArray) (w : World) (ha : a.size ≤ maxLen) (hb : b.size ≤ maxLen) :
    Calls Tryd.prog 53 #[.string a, .string b] w (CmpPost (nat a) (nat b) w) := by
  have hsz : (can (nat a)).size ≤ 9223372036854775807 := by have := can_size_le_size a; unfold maxLen at ha; omega
  have htz : (can (nat b)).size ≤ 9223372036854775807 := by have := can_size_le_size b; unfold maxLen at hb; omega
  by_cases hne : (can (nat a)).size = (can (nat b)).size
  · have Hne := Lib.hid hne
    have hle : (can (nat a)).size ≤ (can (nat b)).size := by omega
    have hge : (can (nat b)).size ≤ (can (nat a)).size := by omega
    clear hne
    have hn0 : (((can (nat a)).size : Int) != ((can (nat b)).size : Int)) = false := by rw [Hne.out]; simp
    go_enter Tryd.func53, Tryd.ntmps53
    go_wp2_with (go_at_call 39; refine (Normalize_any _ _ (by assumption)).mono ?_; rintro e w' ⟨rfl, rfl⟩)
    go_loopw [5, 6, 23] (fun _ _ i wr => ∃ k : Nat, k ≤ (can (nat a)).size ∧ i = .int .i64 k ∧ (∀ j, (can (nat a)).size - k ≤ j → (bts (can (nat a))).getD j 0 = (bts (can (nat b))).getD j 0) ∧ Below w.heap.size w wr) (fun _ _ i _ => (can (nat a)).size - (intOf i).toNat)
    case atStart => exact ⟨0, Nat.zero_le _, rfl, fun j hj => by rw [bts_getD_out _ j (by omega), bts_getD_out _ j (by omega)], Below.refl _ _⟩
    case round =>
      obtain ⟨k, hk, rfl, ht, hb⟩ := hrel
      by_cases hlt : k < (can (nat a)).size
      · obtain ⟨i, hi⟩ : ∃ i : Nat, i = (can (nat a)).size - 1 - k := ⟨_, rfl⟩
        have e : (((can (nat a)).size : Int) - 1 - (k : Int)) = (i : Int) := by omega
        have b2 : i < (can (nat a)).size := by omega
        have b3 : i < (can (nat b)).size := by omega
        have b4 : k + i + 1 ≤ (can (nat a)).size := by omega
        have b5 : (can (nat a)).size ≤ k + i + 1 := by omega
        clear hi
        have Ht := Lib.hid ht
        clear ht
        by_cases heq : (can (nat a))[i].toNat = (can (nat b))[i].toNat
        · have hq : (((can (nat a))[i].toNat : Int) != ((can (nat b))[i].toNat : Int)) = false := by rw [heq]; simp
          have Heq := Lib.hid heq
          clear heq
          go_wp2
          go_quiet (fail)
          go_wp2
          go_roundw
          case rel => exact ⟨k + 1, by omega, by go_num, cmp_round Hne.out b2 b3 b4 b5 Ht.out Heq.out, by exact below_drewN hb _⟩
          case measure => simp [intOf]; omega
        · have hq : (((can (nat a))[i].toNat : Int) != ((can (nat b))[i].toNat : Int)) = true := by simp; omega
          have Heq := Lib.hid heq
          clear heq
          go_wp2
          go_quiet (fail)
          have hb1 : Below w.heap.size w (wr.drewN nq) := below_drewN hb _
          generalize wr.drewN nq = W1 at hb1 ⊢
          clear hb
          go_wp2
          go_quiet ((go_at_call 67; exact quietly (CompareByte_any _ _ _)))
          go_wp2
          go_ret
          exact ⟨cmp_part Hne.out b2 b3 b5 Ht.out Heq.out, by exact below_drewN hb1 _⟩
      · go_wp2
        go_ret
        exact ⟨ret_int (cmpN_eq (top_eq Hne.out (fun j => ht j (by omega)))).symm, hb⟩
  · go_enter Tryd.func53, Tryd.ntmps53
    have hn0 : (((can (nat a)).size : Int) != ((can (nat b)).size : Int)) = true := by simp; omega
    go_wp2_with (first | (go_at_call 39; refine (Normalize_any _ _ (by assumption)).mono ?_; rintro e w' ⟨rfl, rfl⟩) | (go_at_call 66; refine (CompareInt_any _ _ _).mono ?_; rintro e w' ⟨rfl, rfl⟩))
    go_ret
    exact ⟨cmp_size hne, Below.refl _ _⟩
end Go.Proofs.YtmfinfnjamgboaaDoor
