/- Strings of bytes as natural numbers: the value of a string, the canonical string of a number. Plain mathematics: it imports nothing of the translation. -/
import Derived.Test.YtmfinfnjamgboaaDoorM
namespace Go.Proofs.YtmfinfnjamgboaaDoor
open NM

/-- The bytes of a string as numbers. -/
def bts (s : ByteArray) : List Nat := s.data.toList.map UInt8.toNat
/-- The number that a string of bytes stands for, least significant byte first. -/
def nat (s : ByteArray) : Nat := val 256 (bts s)
/-- The string of bytes with the given numbers. -/
def ofBts (l : List Nat) : ByteArray := ⟨(l.map UInt8.ofNat).toArray⟩
/-- The canonical string of a number. -/
def can (n : Nat) : ByteArray := ofBts (dig 256 n)

theorem bts_length (s : ByteArray) : (bts s).length = s.size := by
  show _ = s.data.size
  simp [bts]
theorem bts_lt (s : ByteArray) : NM.lt 256 (bts s) := by
  intro x hx
  simp only [bts, List.mem_map] at hx
  obtain ⟨b, _, rfl⟩ := hx
  exact UInt8.toNat_lt b
theorem bts_ofBts {l : List Nat} (h : NM.lt 256 l) : bts (ofBts l) = l := by
  unfold bts ofBts
  simp only [List.map_map]
  have e : ∀ x ∈ l, (UInt8.toNat ∘ UInt8.ofNat) x = x := fun x hx => by
    have := h x hx
    simp [Nat.mod_eq_of_lt this]
  rw [List.map_congr_left e, List.map_id']
theorem ofBts_bts (s : ByteArray) : ofBts (bts s) = s := by
  unfold bts ofBts
  simp [List.map_map, Function.comp_def]
theorem bts_inj {s t : ByteArray} (h : bts s = bts t) : s = t := by rw [← ofBts_bts s, h, ofBts_bts]
theorem bts_can (n : Nat) : bts (can n) = dig 256 n := bts_ofBts (dig_lt (by omega) n)
theorem nat_can (n : Nat) : nat (can n) = n := by unfold nat; rw [bts_can, val_dig (by omega)]
theorem nat_ofBts {l : List Nat} (h : NM.lt 256 l) : nat (ofBts l) = val 256 l := by unfold nat; rw [bts_ofBts h]
theorem size_ofBts (l : List Nat) : (ofBts l).size = l.length := by
  show (ofBts l).data.size = _
  simp [ofBts]
theorem can_inj {m n : Nat} (h : can m = can n) : m = n := by rw [← nat_can m, h, nat_can]
theorem can_eq {m n : Nat} : can m = can n ↔ m = n := ⟨can_inj, fun h => by rw [h]⟩
theorem can_size (n : Nat) : (can n).size = len 256 n := by rw [← bts_length, bts_can, dig_length]
theorem can_size_le {n k : Nat} (h : n < 256 ^ k) : (can n).size ≤ k := by rw [can_size]; exact (len_le_iff (by omega) k n).2 h
theorem nat_lt (s : ByteArray) : nat s < 256 ^ s.size := by rw [← bts_length]; exact val_lt (bts_lt s)
theorem can_zero : can 0 = ⟨#[]⟩ := rfl
theorem can_nil {n : Nat} : can n = ⟨#[]⟩ ↔ n = 0 := by rw [← can_zero]; exact can_eq

theorem bts_getD (s : ByteArray) (i : Nat) (h : i < s.size) : (bts s).getD i 0 = s[i].toNat := by
  have h' : i < s.data.toList.length := by
    rw [Array.length_toList]
    exact h
  unfold bts
  rw [List.getD_eq_getElem?_getD, List.getElem?_map, List.getElem?_eq_getElem h']
  rfl
theorem bts_getD_out (s : ByteArray) (i : Nat) (h : s.size ≤ i) : (bts s).getD i 0 = 0 := by
  have : (bts s).length ≤ i := by rw [bts_length]; exact h
  simp [List.getD_eq_getElem?_getD, List.getElem?_eq_none this]
theorem bts_extract (s : ByteArray) (i j : Nat) : bts (s.extract i j) = ((bts s).take j).drop i := by
  unfold bts
  rw [ByteArray.data_extract]
  simp [Array.toList_extract, List.map_drop, List.map_take, List.drop_take]

/-- Cutting zero bytes off at the end. -/
theorem extract_can (s : ByteArray) (k : Nat) (hk : k ≤ s.size) (hz : ∀ j, (h : j < s.size) → k ≤ j → s[j] = 0) (hl : k = 0 ∨ ∃ h : k - 1 < s.size, s[k - 1] ≠ 0) : s.extract 0 k = can (nat s) := by
  apply bts_inj
  rw [bts_extract, bts_can, List.drop_zero]
  unfold nat
  rw [dig_take (by omega) (bts_lt s) k (by rw [bts_length]; exact hk)]
  · intro j hj
    by_cases h : j < s.size
    · rw [bts_getD s j h, hz j h hj]; rfl
    · exact bts_getD_out s j (by omega)
  · rcases hl with h | ⟨h, h0⟩
    · exact .inl h
    · right
      rw [bts_getD s _ h]
      intro e
      exact h0 (UInt8.toNat_inj.1 (by rw [e]; rfl))
theorem zero_can (s : ByteArray) (hz : ∀ j, (h : j < s.size) → s[j] = 0) : can (nat s) = ⟨#[]⟩ := by
  have h := extract_can s 0 (Nat.zero_le _) (fun j h _ => hz j h) (.inl rfl)
  rw [← h]
  apply bts_inj
  rw [bts_extract]
  rfl

/-- -1, 0 or 1. -/
def cmpN (m n : Nat) : Int := if m < n then -1 else if m = n then 0 else 1
theorem cmpN_lt {m n : Nat} (h : m < n) : cmpN m n = -1 := if_pos h
theorem cmpN_gt {m n : Nat} (h : n < m) : cmpN m n = 1 := by unfold cmpN; rw [if_neg (by omega), if_neg (by omega)]
theorem cmpN_eq {m n : Nat} (h : m = n) : cmpN m n = 0 := by unfold cmpN; rw [if_neg (by omega), if_pos h]
theorem lt_of_size {m n : Nat} (h : (can m).size < (can n).size) : m < n := by
  rw [can_size, can_size] at h
  rcases Nat.lt_or_ge m n with h1 | h1
  · exact h1
  · have := len_mono (B := 256) (by omega) h1
    omega
theorem can_val (n : Nat) : val 256 (bts (can n)) = n := nat_can n
/-- The bytes above place i agree. -/
def Top (s t : ByteArray) (i : Nat) : Prop := ∀ j, i < j → (bts s).getD j 0 = (bts t).getD j 0
theorem top_lt {m n : Nat} (he : (can m).size = (can n).size) {i : Nat} (hi : i < (can m).size) (hi' : i < (can n).size) (ht : Top (can m) (can n) i) (h : (can m)[i].toNat < (can n)[i].toNat) : m < n := by
  have := val_top (B := 256) (l := bts (can m)) (m := bts (can n)) (bts_lt _) (by rw [bts_length, bts_length, he]) i (by rw [bts_length]; exact hi) ht (by rw [bts_getD _ i hi, bts_getD _ i hi']; exact h)
  rwa [can_val, can_val] at this
theorem top_eq {m n : Nat} (he : (can m).size = (can n).size) (ht : ∀ j, (bts (can m)).getD j 0 = (bts (can n)).getD j 0) : m = n := by
  have := list_ext (by rw [bts_length, bts_length, he]) ht
  rw [← can_val m, this, can_val]
theorem top_start {s t : ByteArray} (he : s.size = t.size) {i : Nat} (hi : s.size ≤ i + 1) : Top s t i := fun j hj => by
  rw [bts_getD_out s j (by omega), bts_getD_out t j (by omega)]
theorem top_step {s t : ByteArray} {i : Nat} (hi : i < s.size) (hi' : i < t.size) (ht : Top s t i) (h : s[i].toNat = t[i].toNat) : ∀ j, i ≤ j → (bts s).getD j 0 = (bts t).getD j 0 := fun j hj => by
  rcases Nat.eq_or_lt_of_le hj with h1 | h1
  · subst h1
    rw [bts_getD s i hi, bts_getD t i hi', h]
  · exact ht j h1
end Go.Proofs.YtmfinfnjamgboaaDoor
