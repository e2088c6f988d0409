/- Plain mathematics of natural numbers as lists of digits, least significant first. It imports nothing of a translation. -/
namespace Go.Proofs.YtmfinfnjamgboaaDoor.NM

/-- The value of a list of digits in base B, least significant first. -/
def val (B : Nat) : List Nat → Nat
  | [] => 0
  | x :: l => x + B * val B l

def lt (B : Nat) (l : List Nat) : Prop := ∀ x ∈ l, x < B

theorem val_append (B : Nat) (l m : List Nat) : val B (l ++ m) = val B l + B ^ l.length * val B m := by
  induction l with
  | nil => simp [val]
  | cons x l ih =>
    simp only [List.cons_append, val, List.length_cons, ih, Nat.mul_add, Nat.pow_succ]
    rw [Nat.mul_comm (B ^ l.length) B, Nat.mul_assoc, Nat.add_assoc]

theorem val_lt {B : Nat} {l : List Nat} (h : lt B l) : val B l < B ^ l.length := by
  induction l with
  | nil => simp [val]
  | cons x l ih =>
    have h1 := h x (by simp)
    have h2 := ih (fun y hy => h y (by simp [hy]))
    simp only [val, List.length_cons, Nat.pow_succ]
    have h3 : B * (val B l + 1) ≤ B * B ^ l.length := Nat.mul_le_mul_left _ h2
    rw [Nat.mul_add, Nat.mul_one] at h3
    rw [Nat.mul_comm (B ^ l.length)]
    omega

theorem val_zeros (B k : Nat) : val B (List.replicate k 0) = 0 := by
  induction k with
  | zero => rfl
  | succ k ih => simp [List.replicate_succ, val, ih]

theorem val_append_zeros (B : Nat) (l : List Nat) (k : Nat) : val B (l ++ List.replicate k 0) = val B l := by
  rw [val_append, val_zeros]; simp

/-- The digit at place i, 0 beyond the end. -/
theorem val_digit {B : Nat} (hB : 1 < B) {l : List Nat} (h : lt B l) (i : Nat) : val B l / B ^ i % B = l.getD i 0 := by
  induction l generalizing i with
  | nil => simp [val]
  | cons x l ih =>
    have h1 := h x (by simp)
    cases i with
    | zero => simp only [val, Nat.pow_zero, Nat.div_one, List.getD_cons_zero]; rw [Nat.add_mul_mod_self_left]; exact Nat.mod_eq_of_lt h1
    | succ i =>
      rw [List.getD_cons_succ, ← ih (fun y hy => h y (by simp [hy])), Nat.pow_succ, Nat.mul_comm, ← Nat.div_div_eq_div_mul]
      congr 2
      simp only [val]
      rw [Nat.add_mul_div_left _ _ (by omega), Nat.div_eq_of_lt h1, Nat.zero_add]

/-- k digits of n. -/
def digs (B : Nat) : Nat → Nat → List Nat
  | 0, _ => []
  | k + 1, n => n % B :: digs B k (n / B)

theorem digs_length (B k n : Nat) : (digs B k n).length = k := by
  induction k generalizing n with
  | zero => rfl
  | succ k ih => simp [digs, ih]

theorem digs_lt {B : Nat} (hB : 0 < B) (k n : Nat) : lt B (digs B k n) := by
  induction k generalizing n with
  | zero => intro x hx; simp [digs] at hx
  | succ k ih =>
    intro x hx
    simp only [digs, List.mem_cons] at hx
    rcases hx with rfl | hx
    · exact Nat.mod_lt _ hB
    · exact ih _ x hx

theorem val_digs (B k n : Nat) : val B (digs B k n) = n % B ^ k := by
  induction k generalizing n with
  | zero => simp [digs, val, Nat.mod_one]
  | succ k ih =>
    simp only [digs, val, ih]
    rw [Nat.pow_succ, Nat.mul_comm (B ^ k) B, Nat.mod_mul]

theorem digs_succ (B k n : Nat) : digs B (k + 1) n = digs B k n ++ [n / B ^ k % B] := by
  induction k generalizing n with
  | zero => simp [digs]
  | succ k ih =>
    rw [digs, ih (n / B), digs, List.cons_append, Nat.div_div_eq_div_mul, Nat.pow_succ, Nat.mul_comm B]

theorem digs_getElem? (B k n i : Nat) (h : i < k) : (digs B k n)[i]? = some (n / B ^ i % B) := by
  induction k generalizing n i with
  | zero => omega
  | succ k ih =>
    cases i with
    | zero => simp [digs]
    | succ i =>
      simp only [digs, List.getElem?_cons_succ]
      rw [ih _ _ (by omega), Nat.div_div_eq_div_mul, Nat.pow_succ, Nat.mul_comm B]

/-- Digits are what their value says. -/
theorem digs_val {B : Nat} (hB : 1 < B) {l : List Nat} (h : lt B l) : digs B l.length (val B l) = l := by
  induction l with
  | nil => rfl
  | cons x l ih =>
    have h1 := h x (by simp)
    simp only [List.length_cons, digs, val]
    rw [Nat.add_mul_mod_self_left, Nat.mod_eq_of_lt h1, Nat.add_mul_div_left _ _ (by omega), Nat.div_eq_of_lt h1, Nat.zero_add, ih (fun y hy => h y (by simp [hy]))]

theorem val_inj {B : Nat} (hB : 1 < B) {l m : List Nat} (hl : lt B l) (hm : lt B m) (hlen : l.length = m.length) (h : val B l = val B m) : l = m := by
  rw [← digs_val hB hl, ← digs_val hB hm, h, hlen]

/-- How many digits n has, without leading zeros (with fuel). -/
def lenF (B : Nat) : Nat → Nat → Nat
  | 0, _ => 0
  | f + 1, n => if n = 0 then 0 else lenF B f (n / B) + 1
def len (B n : Nat) : Nat := lenF B n n

theorem lenF_fuel {B : Nat} (hB : 1 < B) (f g n : Nat) (hf : n ≤ f) (hg : n ≤ g) : lenF B f n = lenF B g n := by
  induction f generalizing g n with
  | zero =>
    obtain rfl : n = 0 := by omega
    cases g <;> simp [lenF]
  | succ f ih =>
    cases g with
    | zero =>
      obtain rfl : n = 0 := by omega
      simp [lenF]
    | succ g =>
      simp only [lenF]
      by_cases hn : n = 0
      · simp [hn]
      · have : n / B < n := Nat.div_lt_self (by omega) hB
        rw [if_neg hn, if_neg hn, ih g (n / B) (by omega) (by omega)]

theorem len_zero (B : Nat) : len B 0 = 0 := rfl
theorem len_pos {B n : Nat} (hB : 1 < B) (hn : n ≠ 0) : len B n = len B (n / B) + 1 := by
  obtain ⟨m, rfl⟩ : ∃ m, n = m + 1 := ⟨n - 1, by omega⟩
  unfold len
  rw [lenF, if_neg hn]
  have : (m + 1) / B < m + 1 := Nat.div_lt_self (by omega) hB
  rw [lenF_fuel hB m ((m + 1) / B) _ (by omega) (by omega)]

theorem len_le_iff {B : Nat} (hB : 1 < B) (k n : Nat) : len B n ≤ k ↔ n < B ^ k := by
  induction k generalizing n with
  | zero =>
    by_cases hn : n = 0
    · subst hn; simp [len_zero]
    · rw [len_pos hB hn]; simp; omega
  | succ k ih =>
    by_cases hn : n = 0
    · subst hn; simp [len_zero]; exact Nat.pow_pos (by omega)
    · rw [len_pos hB hn, Nat.add_le_add_iff_right, ih, Nat.pow_succ, Nat.div_lt_iff_lt_mul (by omega)]

theorem lt_pow_len {B : Nat} (hB : 1 < B) (n : Nat) : n < B ^ len B n := (len_le_iff hB _ _).1 (Nat.le_refl _)
theorem pow_len_le {B : Nat} (hB : 1 < B) {n : Nat} (hn : n ≠ 0) : B ^ (len B n - 1) ≤ n := by
  have h := len_pos hB hn
  rcases Nat.lt_or_ge n (B ^ (len B n - 1)) with h1 | h1
  · have := (len_le_iff hB (len B n - 1) n).2 h1
    omega
  · exact h1

/-- The digits of n, without leading zeros. -/
def dig (B n : Nat) : List Nat := digs B (len B n) n

theorem dig_length (B n : Nat) : (dig B n).length = len B n := digs_length _ _ _
theorem dig_lt {B : Nat} (hB : 0 < B) (n : Nat) : lt B (dig B n) := digs_lt hB _ _
theorem val_dig {B : Nat} (hB : 1 < B) (n : Nat) : val B (dig B n) = n := by
  unfold dig
  rw [val_digs, Nat.mod_eq_of_lt (lt_pow_len hB n)]

theorem dig_inj {B : Nat} (hB : 1 < B) {m n : Nat} (h : dig B m = dig B n) : m = n := by rw [← val_dig hB m, h, val_dig hB n]

theorem dig_zero (B : Nat) : dig B 0 = [] := rfl
theorem dig_ne_nil {B n : Nat} (hB : 1 < B) (hn : n ≠ 0) : dig B n ≠ [] := fun e => by
  have := val_dig hB n
  rw [e] at this
  exact hn this.symm
theorem dig_eq_nil {B n : Nat} (hB : 1 < B) : dig B n = [] ↔ n = 0 := ⟨fun e => by have := val_dig hB n; rw [e] at this; exact this.symm, fun e => by subst e; rfl⟩

/-- A list without a zero at its end is the list of the digits of its value. -/
theorem dig_val {B : Nat} (hB : 1 < B) {l : List Nat} (h : lt B l) (hlast : ∀ x, l.getLast? = some x → x ≠ 0) : dig B (val B l) = l := by
  have hlen : len B (val B l) = l.length := by
    have h1 : len B (val B l) ≤ l.length := (len_le_iff hB _ _).2 (val_lt h)
    rcases Nat.lt_or_ge (len B (val B l)) l.length with h2 | h2
    · exfalso
      have hne : l ≠ [] := by intro e; subst e; simp at h2
      have h3 : val B l < B ^ (l.length - 1) := (len_le_iff hB _ _).1 (by omega)
      obtain ⟨init, x, rfl⟩ : ∃ i x, l = i ++ [x] := ⟨l.dropLast, l.getLast hne, (List.dropLast_concat_getLast hne).symm⟩
      have hx := hlast x (by simp)
      rw [val_append] at h3
      simp only [List.length_append, List.length_cons, List.length_nil, Nat.zero_add, Nat.add_sub_cancel, val, Nat.mul_zero, Nat.add_zero] at h3
      have : B ^ init.length * 1 ≤ B ^ init.length * x := Nat.mul_le_mul_left _ (by omega)
      omega
    · omega
  unfold dig
  rw [hlen, digs_val hB h]

theorem lt_take {B : Nat} {l : List Nat} (h : lt B l) (k : Nat) : lt B (l.take k) := fun x hx => h x (List.mem_of_mem_take hx)
theorem lt_drop {B : Nat} {l : List Nat} (h : lt B l) (k : Nat) : lt B (l.drop k) := fun x hx => h x (List.mem_of_mem_drop hx)
theorem lt_append {B : Nat} {l m : List Nat} (h : lt B l) (k : lt B m) : lt B (l ++ m) := fun x hx => (List.mem_append.1 hx).elim (h x) (k x)
theorem lt_cons {B x : Nat} {l : List Nat} (h : x < B) (k : lt B l) : lt B (x :: l) := fun y hy => (List.mem_cons.1 hy).elim (fun e => e ▸ h) (k y)

theorem val_take_drop (B : Nat) (l : List Nat) (k : Nat) (hk : k ≤ l.length) : val B l = val B (l.take k) + B ^ k * val B (l.drop k) := by
  have h := val_append B (l.take k) (l.drop k)
  rw [List.take_append_drop, List.length_take, Nat.min_eq_left hk] at h
  exact h

theorem val_eq_zero {B : Nat} {l : List Nat} (h : ∀ j, l.getD j 0 = 0) : val B l = 0 := by
  induction l with
  | nil => rfl
  | cons x l ih =>
    have h0 := h 0
    simp only [List.getD_cons_zero] at h0
    have := ih (fun j => by have := h (j + 1); simpa using this)
    simp [val, h0, this]

/-- Cutting zeros off at the end. -/
theorem dig_take {B : Nat} (hB : 1 < B) {l : List Nat} (h : lt B l) (k : Nat) (hk : k ≤ l.length) (hz : ∀ j, k ≤ j → l.getD j 0 = 0) (hl : k = 0 ∨ l.getD (k - 1) 0 ≠ 0) : dig B (val B l) = l.take k := by
  have hd : val B (l.drop k) = 0 := val_eq_zero (fun j => by
    have := hz (k + j) (by omega)
    simpa [List.getD_eq_getElem?_getD, List.getElem?_drop] using this)
  rw [val_take_drop B l k hk, hd, Nat.mul_zero, Nat.add_zero]
  refine dig_val hB (lt_take h k) (fun x hx => ?_)
  rcases hl with rfl | hl
  · simp at hx
  · rw [List.getLast?_eq_getElem?, List.length_take, Nat.min_eq_left hk, List.getElem?_take] at hx
    by_cases hk0 : k = 0
    · subst hk0; simp at hx
    · rw [if_pos (by omega)] at hx
      rw [List.getD_eq_getElem?_getD, hx] at hl
      simpa using hl

theorem val_set {B : Nat} {l : List Nat} {i : Nat} (hi : i < l.length) (x : Nat) : val B (l.set i x) + B ^ i * l.getD i 0 = val B l + B ^ i * x := by
  induction l generalizing i with
  | nil => simp at hi
  | cons y l ih =>
    cases i with
    | zero => simp [val]; omega
    | succ i =>
      have := ih (i := i) (by simpa using hi)
      simp only [List.set_cons_succ, val, List.getD_cons_succ, Nat.pow_succ]
      have e : ∀ z, B ^ i * B * z = B * (B ^ i * z) := fun z => by rw [Nat.mul_comm (B ^ i) B, Nat.mul_assoc]
      rw [e, e, Nat.add_assoc, Nat.add_assoc, ← Nat.mul_add, ← Nat.mul_add, this]

theorem len_mono {B : Nat} (hB : 1 < B) {m n : Nat} (h : m ≤ n) : len B m ≤ len B n := (len_le_iff hB _ _).2 (Nat.lt_of_le_of_lt h (lt_pow_len hB n))

/-- Two numbers with as many digits: the first place from above at which they part decides. -/
theorem val_top {B : Nat} {l m : List Nat} (hl : lt B l) (hlen : l.length = m.length) (i : Nat) (hi : i < l.length) (ht : ∀ j, i < j → l.getD j 0 = m.getD j 0) (h : l.getD i 0 < m.getD i 0) : val B l < val B m := by
  have hd : l.drop (i + 1) = m.drop (i + 1) := by
    apply List.ext_getElem?
    intro j
    rw [List.getElem?_drop, List.getElem?_drop]
    by_cases hj : i + 1 + j < l.length
    · have := ht (i + 1 + j) (by omega)
      have hj' : i + 1 + j < m.length := by omega
      simp only [List.getD_eq_getElem?_getD, List.getElem?_eq_getElem hj, List.getElem?_eq_getElem hj', Option.getD_some] at this ⊢
      rw [this]
    · rw [List.getElem?_eq_none (by omega), List.getElem?_eq_none (by omega)]
  have e1 : ∀ k : List Nat, i < k.length → k.take (i + 1) = k.take i ++ [k.getD i 0] := fun k hk => by
    rw [List.take_succ_eq_append_getElem hk, List.getD_eq_getElem?_getD, List.getElem?_eq_getElem hk]
    rfl
  have e2 : ∀ k : List Nat, i < k.length → val B k = val B (k.take i) + B ^ i * k.getD i 0 + B ^ (i + 1) * val B (k.drop (i + 1)) := fun k hk => by
    rw [val_take_drop B k (i + 1) (by omega), e1 k hk, val_append, List.length_take, Nat.min_eq_left (by omega)]
    simp [val]
  rw [e2 l hi, e2 m (by omega), hd]
  have h1 : val B (l.take i) < B ^ i := by
    have := val_lt (lt_take hl i)
    rwa [List.length_take, Nat.min_eq_left (by omega)] at this
  have h2 : B ^ i * (l.getD i 0 + 1) ≤ B ^ i * m.getD i 0 := Nat.mul_le_mul_left _ h
  rw [Nat.mul_add, Nat.mul_one] at h2
  omega

theorem val_take_succ (B : Nat) (l : List Nat) (k : Nat) : val B (l.take (k + 1)) = val B (l.take k) + B ^ k * l.getD k 0 := by
  by_cases h : k < l.length
  · rw [List.take_succ_eq_append_getElem h, val_append, List.length_take, Nat.min_eq_left (by omega), List.getD_eq_getElem?_getD, List.getElem?_eq_getElem h]
    simp [val]
  · rw [List.take_of_length_le (by omega), List.take_of_length_le (by omega), List.getD_eq_getElem?_getD, List.getElem?_eq_none (by omega)]
    simp
theorem val_snoc (B : Nat) (l : List Nat) (x : Nat) : val B (l ++ [x]) = val B l + B ^ l.length * x := by
  rw [val_append]
  simp [val]
theorem lt_snoc {B : Nat} {l : List Nat} {x : Nat} (h : lt B l) (hx : x < B) : lt B (l ++ [x]) := lt_append h (lt_cons hx (fun _ hy => by simp at hy))
theorem lt_nil (B : Nat) : lt B [] := fun _ h => by simp at h
theorem getD_lt {B : Nat} (hB : 0 < B) {l : List Nat} (h : lt B l) (k : Nat) : l.getD k 0 < B := by
  by_cases hk : k < l.length
  · rw [List.getD_eq_getElem?_getD, List.getElem?_eq_getElem hk]
    exact h _ (List.getElem_mem hk)
  · rw [List.getD_eq_getElem?_getD, List.getElem?_eq_none (by omega)]
    exact hB

/-- One place of a sum: x comes in, x' goes out. -/
theorem sum_round {B : Nat} {L l m : List Nat} {k x d x' : Nat} (hL : L.length = k) (hv : val B L + B ^ k * x = val B (l.take k) + val B (m.take k)) (h : d + B * x' = x + l.getD k 0 + m.getD k 0) :
    val B (L ++ [d]) + B ^ (k + 1) * x' = val B (l.take (k + 1)) + val B (m.take (k + 1)) := by
  rw [val_snoc, val_take_succ, val_take_succ, hL, Nat.pow_succ, Nat.mul_assoc]
  have e : B ^ k * (d + B * x') = B ^ k * (x + l.getD k 0 + m.getD k 0) := by rw [h]
  rw [Nat.mul_add, Nat.mul_add, Nat.mul_add] at e
  omega

/-- One place of a difference: x is what was borrowed, x' what is. -/
theorem diff_round {B : Nat} {L l m : List Nat} {k x d x' : Nat} (hL : L.length = k) (hv : val B L + val B (m.take k) = val B (l.take k) + B ^ k * x) (h : d + m.getD k 0 + x = l.getD k 0 + B * x') :
    val B (L ++ [d]) + val B (m.take (k + 1)) = val B (l.take (k + 1)) + B ^ (k + 1) * x' := by
  rw [val_snoc, val_take_succ, val_take_succ, hL, Nat.pow_succ, Nat.mul_assoc]
  have e : B ^ k * (d + m.getD k 0 + x) = B ^ k * (l.getD k 0 + B * x') := by rw [h]
  rw [Nat.mul_add, Nat.mul_add, Nat.mul_add] at e
  omega

theorem list_ext {l m : List Nat} (hlen : l.length = m.length) (h : ∀ j, l.getD j 0 = m.getD j 0) : l = m := by
  apply List.ext_getElem hlen
  intro i h1 h2
  have := h i
  simpa only [List.getD_eq_getElem?_getD, List.getElem?_eq_getElem h1, List.getElem?_eq_getElem h2, Option.getD_some] using this

end Go.Proofs.YtmfinfnjamgboaaDoor.NM
