/- voussoirref07.Great: decisions as letters. -/
import Derived.Test.YtodcomijjmobdaaGreatDoorYb
set_option linter.unusedVariables false
set_option linter.unusedSimpArgs false
namespace Go.Proofs.YtodcomijjmobdaaGreatDoor
open Go.RowKit NM SX

/-! The first k strings are short, the next one is long. -/
def gStr (i : Nat) : Nat := 3 * (i / 2) + 1 + i % 2
def gOne (i : Nat) (b : Bool) : List Ob := [.len (.pa (gStr i)) (36 + 2 * i), .op2 false .gtr (.pa (36 + 2 * i)) (.p (.lit (.int .i64 6))) (37 + 2 * i), .isB (37 + 2 * i) b]
def gFew : Nat → List Ob
  | 0 => []
  | k + 1 => gFew k ++ gOne k false
theorem g_no : runF Tryz.prog Tryz.f10 [S1.ga 0 36] [] 36 (List.replicate 24 (.b false)) = some (.one (.c (.p (.lit (.int .i64 0)))), gFew 24) := by kernel_rfl
theorem g_yes (k : Nat) (hk : k < 24) : runF Tryz.prog Tryz.f10 [S1.ga 0 36] [] 36 (List.replicate k (.b false) ++ [.b true]) = some (.one (.c (.p (.lit (.int .i64 1)))), gFew k ++ gOne k true) := by
  rcases (show k = 0 ∨ k = 1 ∨ k = 2 ∨ k = 3 ∨ k = 4 ∨ k = 5 ∨ k = 6 ∨ k = 7 ∨ k = 8 ∨ k = 9 ∨ k = 10 ∨ k = 11 ∨ k = 12 ∨ k = 13 ∨ k = 14 ∨ k = 15 ∨ k = 16 ∨ k = 17 ∨ k = 18 ∨ k = 19 ∨ k = 20 ∨ k = 21 ∨ k = 22 ∨ k = 23 by omega) with rfl | rfl | rfl | rfl | rfl | rfl | rfl | rfl | rfl | rfl | rfl | rfl | rfl | rfl | rfl | rfl | rfl | rfl | rfl | rfl | rfl | rfl | rfl | rfl <;> kernel_rfl
def gEnv (b : Nat → Bool) (s : Nat → ByteArray) (k : Nat) : Env := fun n => if n < 36 then (if n % 3 = 0 then .bool (b (n / 3)) else .string (s (2 * (n / 3) + n % 3 - 1))) else if n % 2 = 0 then .int .i64 ((s ((n - 36) / 2)).size : Int) else .bool (decide ((n - 36) / 2 = k))
section
variable {b : Nat → Bool} {s : Nat → ByteArray} {k i : Nat}
theorem gEnv_ok (n : Nat) : (gEnv b s k n).oneCell' = true := by
  unfold gEnv
  split
  · split <;> rfl
  · split <;> rfl
theorem gEnv_str (hi : i < 24) : gEnv b s k (gStr i) = .string (s i) := by
  unfold gEnv gStr
  rw [if_pos (by omega), if_neg (by omega), show 2 * ((3 * (i / 2) + 1 + i % 2) / 3) + (3 * (i / 2) + 1 + i % 2) % 3 - 1 = i by omega]
theorem gEnv_len : gEnv b s k (36 + 2 * i) = .int .i64 ((s i).size : Int) := by
  unfold gEnv
  rw [if_neg (by omega), if_pos (by omega), show (36 + 2 * i - 36) / 2 = i by omega]
theorem gEnv_bool : gEnv b s k (37 + 2 * i) = .bool (decide (i = k)) := by
  unfold gEnv
  rw [if_neg (by omega), if_neg (by omega), show (37 + 2 * i - 36) / 2 = i by omega]
theorem gOne_holds {P : Program} {w : World} {nt : Nat} {c : Bool} (hi : i < 24) (hc : decide (i = k) = c) (h : 6 < (s i).size ↔ i = k) : ∀ o ∈ gOne i c, o.holds P w (gEnv b s k) nt := by
  intro o ho
  simp only [gOne, List.mem_cons, List.not_mem_nil, or_false] at ho
  rcases ho with rfl | rfl | rfl
  · exact ⟨s i, gEnv_str hi, gEnv_len⟩
  · show sem2 false .gtr (gEnv b s k (36 + 2 * i)) (.int .i64 6) = some (gEnv b s k (37 + 2 * i))
    rw [gEnv_len, gEnv_bool]
    exact congrArg (fun z => some (Value.bool z)) (decide_eq_decide.2 ⟨fun e => h.1 (by omega), fun e => by have := h.2 e; omega⟩)
  · show gEnv b s k (37 + 2 * i) = .bool c
    rw [gEnv_bool, hc]
theorem gFew_holds {P : Program} {w : World} {nt : Nat} : ∀ j, j ≤ k → j ≤ 24 → (∀ i < j, (s i).size ≤ 6) → ∀ o ∈ gFew j, o.holds P w (gEnv b s k) nt
  | 0, _, _, _ => fun o ho => by simp [gFew] at ho
  | j + 1, hj, h24, hs => fun o ho => by
    rcases List.mem_append.1 ho with ho | ho
    · exact gFew_holds j (by omega) (by omega) (fun i hi => hs i (by omega)) o ho
    · have := hs j (by omega)
      exact gOne_holds (by omega) (decide_eq_false (by omega)) ⟨fun e => by omega, fun e => by omega⟩ o ho
theorem least {p : Nat → Prop} [DecidablePred p] : ∀ n, (∃ i, i < n ∧ p i) → ∃ k, k < n ∧ p k ∧ ∀ i < k, ¬ p i
  | 0, h => by obtain ⟨i, hi, _⟩ := h; omega
  | n + 1, h => by
    by_cases e : ∃ i, i < n ∧ p i
    · obtain ⟨k, h1, h2, h3⟩ := least n e
      exact ⟨k, by omega, h2, h3⟩
    · obtain ⟨i, hi, hp⟩ := h
      have : i = n := by
        rcases Nat.lt_or_ge i n with h | h
        · exact absurd ⟨i, h, hp⟩ e
        · omega
      subst this
      exact ⟨i, hi, hp, fun j hj hq => e ⟨j, hj, hq⟩⟩
end
def gr7 (l : List ByteArray) : Int := if ∀ s ∈ l, s.size ≤ 6 then 0 else 1
theorem gr7_bd (l : List ByteArray) : 0 ≤ gr7 l ∧ gr7 l ≤ 1 := by unfold gr7; split <;> omega
theorem gr7_zero {l : List ByteArray} : gr7 l = 0 ↔ ∀ s ∈ l, s.size ≤ 6 := by
  unfold gr7
  split
  · rename_i h; exact ⟨fun _ => h, fun _ => rfl⟩
  · rename_i h; exact ⟨fun e => absurd e (by decide), fun e => absurd e h⟩
set_option maxRecDepth 100000 in
theorem Great7_any (a0 : Bool) (a1 : ByteArray) (a2 : ByteArray) (a3 : Bool) (a4 : ByteArray) (a5 : ByteArray) (a6 : Bool) (a7 : ByteArray) (a8 : ByteArray) (a9 : Bool) (a10 : ByteArray) (a11 : ByteArray) (a12 : Bool) (a13 : ByteArray) (a14 : ByteArray) (a15 : Bool) (a16 : ByteArray) (a17 : ByteArray) (a18 : Bool) (a19 : ByteArray) (a20 : ByteArray) (a21 : Bool) (a22 : ByteArray) (a23 : ByteArray) (a24 : Bool) (a25 : ByteArray) (a26 : ByteArray) (a27 : Bool) (a28 : ByteArray) (a29 : ByteArray) (a30 : Bool) (a31 : ByteArray) (a32 : ByteArray) (a33 : Bool) (a34 : ByteArray) (a35 : ByteArray) (w : World) :
    Calls Tryz.prog 10 #[.agg #[.bool a0, .string a1, .string a2, .bool a3, .string a4, .string a5, .bool a6, .string a7, .string a8, .bool a9, .string a10, .string a11, .bool a12, .string a13, .string a14, .bool a15, .string a16, .string a17, .bool a18, .string a19, .string a20, .bool a21, .string a22, .string a23, .bool a24, .string a25, .string a26, .bool a27, .string a28, .string a29, .bool a30, .string a31, .string a32, .bool a33, .string a34, .string a35]] w fun e w' => e = .returned (.int .i64 (gr7 [a1, a2, a4, a5, a7, a8, a10, a11, a13, a14, a16, a17, a19, a20, a22, a23, a25, a26, a28, a29, a31, a32, a34, a35])) ∧ Below w.heap.size w w' := by
  obtain ⟨b, hb⟩ : ∃ b : Nat → Bool, b = fun i => [a0, a3, a6, a9, a12, a15, a18, a21, a24, a27, a30, a33].getD i false := ⟨_, rfl⟩
  obtain ⟨s, hs⟩ : ∃ s : Nat → ByteArray, s = fun i => [a1, a2, a4, a5, a7, a8, a10, a11, a13, a14, a16, a17, a19, a20, a22, a23, a25, a26, a28, a29, a31, a32, a34, a35].getD i ⟨#[]⟩ := ⟨_, rfl⟩
  have hl : [a1, a2, a4, a5, a7, a8, a10, a11, a13, a14, a16, a17, a19, a20, a22, a23, a25, a26, a28, a29, a31, a32, a34, a35] = (List.range 24).map s := by rw [hs]; rfl
  have ha : ∀ k, ([S1.ga 0 36].map (S1.den (fun b : Nat => ([] : List Nat).getD b 0) (gEnv b s k))).toArray = #[.agg #[.bool a0, .string a1, .string a2, .bool a3, .string a4, .string a5, .bool a6, .string a7, .string a8, .bool a9, .string a10, .string a11, .bool a12, .string a13, .string a14, .bool a15, .string a16, .string a17, .bool a18, .string a19, .string a20, .bool a21, .string a22, .string a23, .bool a24, .string a25, .string a26, .bool a27, .string a28, .string a29, .bool a30, .string a31, .string a32, .bool a33, .string a34, .string a35]] := by intro k; rw [hb, hs]; rfl
  rw [hl]
  by_cases h : ∃ i, i < 24 ∧ 6 < (s i).size
  · obtain ⟨k, hk, h1, h2⟩ := least 24 h
    have e : gr7 ((List.range 24).map s) = 1 := by
      unfold gr7
      rw [if_neg]
      intro hn
      have := hn (s k) (List.mem_map.2 ⟨k, List.mem_range.2 hk, rfl⟩)
      omega
    rw [e, ← ha k]
    refine SX.calls (gEnv b s k) [S1.ga 0 36] [] [] 36 (List.replicate k (.b false) ++ [.b true]) Tryz.func10 (by kernel_rfl) gEnv_ok ⟨rfl, fun b t l h => by simp at h⟩ (by kernel_rfl) (by kernel_rfl) (g_yes k hk) ?_
    intro o ho
    rcases List.mem_append.1 ho with ho | ho
    · exact gFew_holds k (Nat.le_refl _) (by omega) (fun i hi => by have := h2 i hi; omega) o ho
    · exact gOne_holds hk (decide_eq_true rfl) ⟨fun _ => rfl, fun _ => h1⟩ o ho
  · have e : gr7 ((List.range 24).map s) = 0 := by
      rw [gr7_zero]
      intro x hx
      obtain ⟨i, hi, rfl⟩ := List.mem_map.1 hx
      exact Nat.not_lt.1 fun hn => h ⟨i, List.mem_range.1 hi, hn⟩
    rw [e, ← ha 24]
    refine SX.calls (gEnv b s 24) [S1.ga 0 36] [] [] 36 (List.replicate 24 (.b false)) Tryz.func10 (by kernel_rfl) gEnv_ok ⟨rfl, fun b t l h => by simp at h⟩ (by kernel_rfl) (by kernel_rfl) g_no ?_
    exact gFew_holds 24 (Nat.le_refl _) (Nat.le_refl _) (fun i hi => Nat.not_lt.1 fun hn => h ⟨i, hi, hn⟩)
theorem IsM.of {a0 a3 a6 a9 a12 a15 a18 a21 a24 a27 a30 a33 : Bool} {a1 a2 a4 a5 a7 a8 a10 a11 a13 a14 a16 a17 a19 a20 a22 a23 a25 a26 a28 a29 a31 a32 a34 a35 : ByteArray} (h : gr7 [a1, a2, a4, a5, a7, a8, a10, a11, a13, a14, a16, a17, a19, a20, a22, a23, a25, a26, a28, a29, a31, a32, a34, a35] = 0) : ∃ m, IsM (.agg #[.bool a0, .string a1, .string a2, .bool a3, .string a4, .string a5, .bool a6, .string a7, .string a8, .bool a9, .string a10, .string a11, .bool a12, .string a13, .string a14, .bool a15, .string a16, .string a17, .bool a18, .string a19, .string a20, .bool a21, .string a22, .string a23, .bool a24, .string a25, .string a26, .bool a27, .string a28, .string a29, .bool a30, .string a31, .string a32, .bool a33, .string a34, .string a35]) m 6 := by
  have h' := gr7_zero.1 h
  simp only [List.forall_mem_cons, List.not_mem_nil, false_imp_iff, implies_true, and_true] at h'
  obtain ⟨ha1, ha2, ha4, ha5, ha7, ha8, ha10, ha11, ha13, ha14, ha16, ha17, ha19, ha20, ha22, ha23, ha25, ha26, ha28, ha29, ha31, ha32, ha34, ha35⟩ := h'
  exact ⟨(M3.mk (Q4.mk (rq a0 a1 a2) (rq a3 a4 a5) (rq a6 a7 a8) (rq a9 a10 a11)) (Q4.mk (rq a12 a13 a14) (rq a15 a16 a17) (rq a18 a19 a20) (rq a21 a22 a23)) (Q4.mk (rq a24 a25 a26) (rq a27 a28 a29) (rq a30 a31 a32) (rq a33 a34 a35))), IsM.mk ⟨_, _, _, rfl, rfl, ha1, ha2⟩ ⟨_, _, _, rfl, rfl, ha4, ha5⟩ ⟨_, _, _, rfl, rfl, ha7, ha8⟩ ⟨_, _, _, rfl, rfl, ha10, ha11⟩ ⟨_, _, _, rfl, rfl, ha13, ha14⟩ ⟨_, _, _, rfl, rfl, ha16, ha17⟩ ⟨_, _, _, rfl, rfl, ha19, ha20⟩ ⟨_, _, _, rfl, rfl, ha22, ha23⟩ ⟨_, _, _, rfl, rfl, ha25, ha26⟩ ⟨_, _, _, rfl, rfl, ha28, ha29⟩ ⟨_, _, _, rfl, rfl, ha31, ha32⟩ ⟨_, _, _, rfl, rfl, ha34, ha35⟩⟩
end Go.Proofs.YtodcomijjmobdaaGreatDoor
