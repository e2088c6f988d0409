/- voussoirref01.Parse and Text. -/
import Derived.Test.YtmfinfnjamgboaaParse
import Derived.Test.YtmfinfnjamgboaaAlive
import Derived.Deep.RegionWith
namespace Go.Proofs.Ytmfinfnjamgboaa
open Go.RowKit NM

theorem decVal_lt (l : List Nat) (hl : ∀ x ∈ l, x ≤ 57) : decVal l < 10 ^ l.length := by
  have h : ∀ (l : List Nat) (v : Nat), (∀ x ∈ l, x ≤ 57) → l.foldl (fun v d => 10 * v + (d - 48)) v < (v + 1) * 10 ^ l.length := by
    intro l
    induction l with
    | nil => intro v _; simp
    | cons x l ih =>
      intro v hx
      have h1 := ih (10 * v + (x - 48)) (fun y hy => hx y (by simp [hy]))
      have h2 := hx x (by simp)
      rw [List.foldl_cons, List.length_cons, Nat.pow_succ, Nat.mul_comm (10 ^ l.length) 10, ← Nat.mul_assoc]
      exact Nat.lt_of_lt_of_le h1 (Nat.mul_le_mul_right _ (by omega))
  have := h l 0 hl
  unfold decVal
  omega
theorem dec_size {s : ByteArray} {k : Nat} (hk : k ≤ s.size) (hd : ∀ j, j < k → 48 ≤ (bts s).getD j 0 ∧ (bts s).getD j 0 ≤ 57) : (can (decVal ((bts s).take k))).size ≤ k := by
  refine can_size_le ?_
  have h1 := decVal_lt ((bts s).take k) (fun x hx => by
    obtain ⟨j, hj, rfl⟩ := List.getElem_of_mem hx
    rw [List.length_take] at hj
    have := (hd j (by omega)).2
    rw [List.getD_eq_getElem?_getD, List.getElem?_eq_getElem (by omega)] at this
    rw [List.getElem_take]
    exact this)
  rw [List.length_take, bts_length, Nat.min_eq_left hk] at h1
  have h2 : 10 ^ k ≤ 256 ^ k := Nat.pow_le_pow_left (by omega) _
  omega

theorem refparse_fin {s : ByteArray} (hpos : 0 < s.size) (hd : ∀ j, j < s.size → 48 ≤ (bts s).getD j 0 ∧ (bts s).getD j 0 ≤ 57) (hg : (bts s).getD 0 0 ≠ 48 ∨ s.size = 1) :
    Ending.returned (.tuple #[.string (can (decVal ((bts s).take s.size))), .bool true]) = .returned (parseVal s) := by
  rw [List.take_of_length_le (by rw [bts_length]; exact Nat.le_refl _), parseVal_yes ⟨by omega, hd, hg⟩]
theorem small_ten (a : ByteArray) (w : World) (ha : a.size ≤ 4294967296) :
    Calls Try.prog 58 #[.string a, .int .i64 10] w fun e w' => e = .returned (.string (can (nat a * 10))) ∧ Below w.heap.size w w' := small_any a 10 w ha (by omega)
theorem Of_conv (d : Nat) (w : World) (hd : d ≤ 9) :
    Calls Try.prog 59 #[.int .u64 (IntKind.u64.wrap (IntKind.u8.wrap (d : Int)))] w fun e w' => e = .returned (.string (can d)) ∧ Below w.heap.size w w' := by
  rw [show IntKind.u64.wrap (IntKind.u8.wrap (d : Int)) = (d : Int) from by simp [IntKind.wrap, IntKind.bits, IntKind.signed] <;> omega]
  exact Of_any d w (by omega)
theorem then_d {a b c : World} (h : Below a.heap.size a b) (k : Below b.drew.heap.size b.drew c) : Below a.heap.size a c := then_ h.drew k
theorem then_dN {a b c : World} {n : Nat} (h : Below a.heap.size a b) (k : Below (b.drewN n).heap.size (b.drewN n) c) : Below a.heap.size a c := then_ (below_drewN h n) k

attribute [local go_sem] nat_can
end Go.Proofs.Ytmfinfnjamgboaa
