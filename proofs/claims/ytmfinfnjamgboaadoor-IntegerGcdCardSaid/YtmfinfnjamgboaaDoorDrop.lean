/- nat.dropLowBits. -/
import Derived.Test.YtmfinfnjamgboaaDoorShift
import Derived.Test.YtmfinfnjamgboaaDoorDivM
namespace Go.Proofs.YtmfinfnjamgboaaDoor
open Go.RowKit NM

theorem lim_pre {L : List Nat} (hL : llt L) : ∃ m, L = lim (lval L) ++ List.replicate m 0 := by
  have h1 : llen (lval L) ≤ L.length := (len_le_iff (by omega) _ _).2 (lval_lt hL)
  have h2 : (lim (lval L)).length = llen (lval L) := lim_length _
  refine ⟨L.length - llen (lval L), ?_⟩
  apply val_inj (B := 4294967296) (by omega) hL (lt_append (lim_lt _) (fun x hx => by rw [List.mem_replicate] at hx; omega)) (by rw [List.length_append, List.length_replicate, h2]; omega)
  rw [val_append_zeros]
  exact (lval_lim _).symm
theorem Win.trim {w : World} {A A' : Option Addr} {g : Nat} {pre post : List Value} {L : List Nat} (hW : Win w A g pre L post) (hL : llt L) (hA : lim (lval L) ≠ [] → A' = A) : ∃ post', Win w A' g pre (lim (lval L)) post' := by
  obtain ⟨m, hm⟩ := lim_pre hL
  refine ⟨cv .u32 (List.replicate m 0) ++ post, fun h => ?_⟩
  have hne : L ≠ [] := fun e => h (by rw [e]; rfl)
  obtain ⟨h1, h2⟩ := hW hne
  refine ⟨(hA h).trans h1, ?_⟩
  have e : pre ++ cv .u32 L ++ post = pre ++ cv .u32 (lim (lval L)) ++ (cv .u32 (List.replicate m 0) ++ post) := by
    conv => lhs; rw [hm, cv_append]
    simp only [List.append_assoc]
  rwa [e] at h2
theorem Win.drop {w : World} {A : Option Addr} {g : Nat} {pre post : List Value} {l : List Nat} (hW : Win w A g pre l post) (hl : l ≠ []) {k o : Nat} (hk : k ≤ l.length) (ho : o = pre.length + k) : Win w (some ⟨g, o, none⟩) g (pre ++ cv .u32 (l.take k)) (l.drop k) post := by
  subst ho
  intro _
  obtain ⟨_, h2⟩ := hW hl
  refine ⟨by rw [List.length_append, cv_length, List.length_take, Nat.min_eq_left hk], ?_⟩
  have e : pre ++ cv .u32 (l.take k) ++ cv .u32 (l.drop k) ++ post = pre ++ cv .u32 l ++ post := by
    rw [List.append_assoc pre, ← cv_append, List.take_append_drop]
  rwa [e]

/-- What dropLowBits and trim leave: the limbs of N in block g. -/
def DropPost (g N : Nat) (w : World) (e : Ending) (w' : World) : Prop :=
  ∃ A' c' pre' post', e = .returned (.slice A' (lim N).length c') ∧ Win w' A' g pre' (lim N) post' ∧ (lim N).length ≤ c' ∧ w.grownBy w' (some g)

theorem drop_val {l : List Nat} {k s : Nat} (hk : k ≤ l.length) (hl : llt l) : lval (l.drop k) / 2 ^ s = lval l / 2 ^ (32 * k + s) ∧ lval (lims (l.drop k).length (lval (l.drop k) / 2 ^ s)) = lval l / 2 ^ (32 * k + s) := by
  have h1 := val_take_drop 4294967296 l k hk
  have h2 : val 4294967296 (l.take k) < 4294967296 ^ k := by
    have := val_lt (lt_take hl k)
    rwa [List.length_take, Nat.min_eq_left hk] at this
  have e2 : (4294967296 : Nat) ^ k = 2 ^ (32 * k) := by rw [Nat.pow_mul]
  have h3 : lval l / 2 ^ (32 * k) = lval (l.drop k) := by
    rw [← e2]
    show val 4294967296 l / 4294967296 ^ k = val 4294967296 (l.drop k)
    rw [h1, Nat.add_mul_div_left _ _ (Nat.pow_pos (by omega)), Nat.div_eq_of_lt h2, Nat.zero_add]
  have h4 : lval (l.drop k) / 2 ^ s = lval l / 2 ^ (32 * k + s) := by rw [← h3, Nat.div_div_eq_div_mul, ← Nat.pow_add]
  refine ⟨h4, ?_⟩
  rw [lval_lims, Nat.mod_eq_of_lt (Nat.lt_of_le_of_lt (Nat.div_le_self _ _) (lval_lt (lt_drop hl k))), h4]

theorem drop_win {w : World} {A A' : Option Addr} {g : Nat} {pre post : List Value} {l : List Nat} {k : Nat} (hA : Win w A g pre l post) (hk : k ≤ l.length) (h : l.drop k ≠ [] → A' = A.map fun x => x.add k) :
    Win w A' g (pre ++ cv .u32 (l.take k)) (l.drop k) post := by
  intro hne
  have hl : l ≠ [] := fun e => hne (by rw [e]; exact List.drop_nil)
  have h1 := hA.drop hl hk rfl hne
  refine ⟨?_, h1.2⟩
  rw [h hne, (hA hl).1, h1.1.symm]
  simp [Addr.add]

/-- The rest of dropLowBits, once the slice is cut. -/
theorem shr_trim {A' : Option Addr} {g : Nat} {pre post : List Value} {L : List Nat} {s n c : Nat} {w : World} (hn : L.length = n) (hll : n ≤ 4294967296) (hs : s < 32) (hL : llt L) (hA : Win w A' g pre L post) :
    Calls Tryd.prog 65 #[.slice A' n c, .int .i64 (s : Int)] w (ShrPost A' g pre L post s w) := by
  subst hn
  exact shiftRight_any A' g pre L post c s w (by omega) hL hs hA
theorem trim_at {A' : Option Addr} {g : Nat} {pre post : List Value} {L : List Nat} {n c N : Nat} {w : World} (hn : L.length = n) (hll : n ≤ 4294967296) (hnc : n ≤ c) (hL : llt L) (hN : lval L = N) (hA : Win w A' g pre L post) :
    Calls Tryd.prog 45 #[.slice A' n c] w (DropPost g N w) := by
  subst hn hN
  refine (trim_any A' L c w hll hnc hL hA.rd).mono ?_
  rintro e w' ⟨A'', c', rfl, h1, h2, rfl⟩
  obtain ⟨post', hW⟩ := hA.trim hL h1
  exact ⟨A'', c', pre, post', rfl, hW, h2, World.grownBy.refl _ _⟩

set_option maxHeartbeats 1000000 in
theorem dropLowBits_any (A : Option Addr) (g : Nat) (pre : List Value) (l : List Nat) (post : List Value) (c k s n : Nat) (w : World) (hn : l.length = n) (hll : n ≤ 4294967296) (hl : llt l) (hs : s < 32) (hk : k ≤ n) (hlc : n ≤ c) (hA : Win w A g pre l post) :
    Calls Tryd.prog 61 #[.slice A n c, .int .i64 (32 * (k : Int) + (s : Int))] w (DropPost g (lval l / 2 ^ (32 * k + s)) w) := by
  have e1 : (32 * (k : Int) + (s : Int)) / 32 = (k : Int) := by omega
  have e2 : (32 * (k : Int) + (s : Int)) % 32 = (s : Int) := by omega
  have hwin := fun A' h => drop_win (A' := A') (k := k) hA (by omega) h
  have hlen : (l.drop k).length = n - k := by rw [List.length_drop, hn]
  have hnil : c = k → l.drop k = [] := fun e => List.drop_of_length_le (by omega)
  have hval := drop_val (s := s) (k := k) (l := l) (by omega) hl
  have Hwin := Lib.hid hwin
  have Hlen := Lib.hid hlen
  have Hnil := Lib.hid hnil
  have Hval := Lib.hid hval
  clear hn hwin hlen hnil hval
  have hld : llt (l.drop k) := lt_drop hl k
  go_enter Tryd.func61, Tryd.ntmps61
  go_wp2_with fail
  all_goals
    refine (shr_trim Hlen.out (by omega) hs hld (Hwin.out _ (fun h => by first | rfl | exact absurd (Hnil.out (by assumption)) h))).mono ?_
    rintro e w1 ⟨rfl, hc1, hc2, hc3, hc4⟩
    go_wp2_with fail
    refine (trim_at (g := g) (pre := pre ++ cv .u32 (l.take k)) (post := post) (by rw [hc1]; exact Hlen.out) (by omega) (by omega) (lims_lt _ _) Hval.out.2 (fun h => by
      have hne : l.drop k ≠ [] := fun e => h (by rw [e]; rfl)
      exact ⟨hc4 hne, hc2 hne⟩)).mono ?_
    rintro e w2 ⟨A', c', pre', post', rfl, h1, h2, h3⟩
    go_wp2_with fail
    go_ret
    exact ⟨A', c', pre', post', rfl, h1, h2, gb_trans hc3 h3⟩
end Go.Proofs.YtmfinfnjamgboaaDoor
