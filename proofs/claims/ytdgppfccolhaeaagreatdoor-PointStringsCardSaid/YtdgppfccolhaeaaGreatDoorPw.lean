/- Texts of points: what is cut at a comma and a space; sizes of what is parsed. -/
import Derived.Test.YtdgppfccolhaeaaGreatDoorPv
import Derived.Test.YtdgppfccolhaeaaGreatDoorShelf
set_option linter.unusedVariables false
set_option linter.unusedSimpArgs false
namespace Go.Proofs.YtdgppfccolhaeaaGreatDoor
open Go.RowKit NM SX

/-- The comma and the space between two coordinates. -/
abbrev sepB : ByteArray := ⟨#[44, 32]⟩
theorem mem_bts {c : UInt8} {s : ByteArray} (h : c ∈ s.data.toList) : c.toNat ∈ bts s := List.mem_map.2 ⟨c, h, rfl⟩
theorem no_comma {s : ByteArray} (h : 44 ∉ bts s) : (44 : UInt8) ∉ s.data.toList := fun e => h (mem_bts e)
theorem index_sep {x r : List UInt8} (hx : (44 : UInt8) ∉ x) : Lib.index (x ++ 44 :: 32 :: r) [44, 32] = (x.length : Nat) := by
  refine Lib.index_first (i := x.length) (by simp) ?_ (fun j hj => ?_)
  · unfold Lib.occAt
    rw [List.drop_left]
    simp [List.isPrefixOf]
  · unfold Lib.occAt
    rw [List.drop_append_of_le_length (Nat.le_of_lt hj), List.drop_eq_getElem_cons hj]
    have : x[j] ≠ 44 := fun e => hx (e ▸ List.getElem_mem hj)
    show ((44 : UInt8) == x[j] && _) = false
    rw [beq_eq_false_iff_ne.2 (Ne.symm this)]
    rfl
theorem index_no {x : List UInt8} (hx : (44 : UInt8) ∉ x) : Lib.index x [44, 32] = -1 := by
  refine Lib.index_none (fun j hj => ?_)
  unfold Lib.occAt
  rcases Nat.lt_or_ge j x.length with h | h
  · rw [List.drop_eq_getElem_cons h]
    have : x[j] ≠ 44 := fun e => hx (e ▸ List.getElem_mem h)
    simp [List.isPrefixOf, Ne.symm this]
  · rw [List.drop_eq_nil_of_le h]
    rfl
theorem size_list (s : ByteArray) : s.size = s.data.toList.length := by
  simp only [Array.length_toList]
  rfl
theorem ba_ext {a b : ByteArray} (h : a.data.toList = b.data.toList) : a = b := ByteArray.ext (Array.toList_inj.1 h)
theorem cat3 (x r : ByteArray) : (x ++ sepB ++ r).data.toList = x.data.toList ++ 44 :: 32 :: r.data.toList := by
  simp [ByteArray.data_append]
theorem indexB_sep {x r : ByteArray} (hx : 44 ∉ bts x) : Lib.indexB (x ++ sepB ++ r) sepB = (x.size : Nat) := by
  show Lib.index (x ++ sepB ++ r).data.toList [44, 32] = _
  rw [cat3, index_sep (no_comma hx), size_list]
theorem indexB_no {x : ByteArray} (hx : 44 ∉ bts x) : Lib.indexB x sepB = -1 := index_no (no_comma hx)
theorem cat3_left (x r : ByteArray) : (x ++ sepB ++ r).extract 0 x.size = x := by
  apply ba_ext
  rw [Lib.extract_data, cat3, size_list]
  simp
theorem cat3_right (x r : ByteArray) : (x ++ sepB ++ r).extract (x.size + 2) (x ++ sepB ++ r).size = r := by
  apply ba_ext
  have e : (x ++ sepB ++ r).size = x.size + 2 + r.size := by simp only [ByteArray.size_append]; rfl
  rw [Lib.extract_data, cat3, e, size_list, size_list]
  rw [List.drop_append, List.drop_eq_nil_of_le (by omega), show x.data.toList.length + 2 - x.data.toList.length = 2 by omega]
  simp only [List.nil_append, List.drop_succ_cons, List.drop_zero]
  rw [Nat.add_sub_cancel_left, List.take_length]
theorem splitB_three {x y z : ByteArray} (hx : 44 ∉ bts x) (hy : 44 ∉ bts y) (hz : 44 ∉ bts z) :
    Lib.countB (x ++ sepB ++ (y ++ sepB ++ z)) sepB = 2 ∧ Lib.splitB sepB 0 2 (x ++ sepB ++ (y ++ sepB ++ z)) = [x, y, z] := by
  have i1 := indexB_sep (r := y ++ sepB ++ z) hx
  have i2 := indexB_sep (r := z) hy
  have i3 := indexB_no hz
  have r1 : (x ++ sepB ++ (y ++ sepB ++ z)).extract (x.size + sepB.size) (x ++ sepB ++ (y ++ sepB ++ z)).size = y ++ sepB ++ z := cat3_right x _
  have r2 : (y ++ sepB ++ z).extract (y.size + sepB.size) (y ++ sepB ++ z).size = z := cat3_right y _
  constructor
  · rw [Lib.countB_hit _ _ _ (by decide) i1, r1, Lib.countB_hit _ _ _ (by decide) i2, r2, Lib.countB_miss _ _ i3]
  · rw [Lib.splitB_hit _ _ _ _ _ i1, r1, Lib.splitB_hit _ _ _ _ _ i2, r2, Lib.splitB_zero, Nat.add_zero, Nat.add_zero, cat3_left, cat3_left]
/-- What lies about the first comma and space. -/
theorem index_parts {u : ByteArray} {i : Nat} (h : Lib.indexB u sepB = (i : Int)) : u = u.extract 0 i ++ sepB ++ u.extract (i + 2) u.size := by
  have hs := Lib.index_spec u.data.toList sepB.data.toList
  rcases hs with ⟨h1, _⟩ | ⟨j, h1, h2, h3, _⟩
  · have : Lib.index u.data.toList sepB.data.toList = (i : Int) := h
    omega
  · have : Lib.index u.data.toList sepB.data.toList = (i : Int) := h
    obtain rfl : i = j := by omega
    unfold Lib.occAt at h3
    rw [List.isPrefixOf_iff_prefix] at h3
    obtain ⟨t, ht⟩ := h3
    have e0 := List.take_append_drop i u.data.toList
    rw [← ht] at e0
    have ht' : u.data.toList.drop (i + 2) = t := by
      rw [← List.drop_drop, ← ht]
      rfl
    apply ba_ext
    rw [cat3, Lib.extract_data, Lib.extract_data, ht']
    have hl : (t.take (u.size - (i + 2))) = t := by
      apply List.take_of_length_le
      rw [← ht', List.length_drop, size_list]
      exact Nat.le_refl _
    rw [hl]
    simpa using e0.symm
/-- A text with two commas and spaces: three pieces. -/
theorem split_two {u : ByteArray} (h : Lib.countB u sepB = 2) : ∃ a b c, Lib.splitB sepB 0 2 u = [a, b, c] ∧ u = a ++ sepB ++ (b ++ sepB ++ c) := by
  rcases Lib.indexB_cases u sepB with h1 | ⟨i, h1, _⟩
  · rw [Lib.countB_miss _ _ h1] at h; omega
  · have p1 := index_parts h1
    have s1 := Lib.splitB_hit sepB 0 1 u i h1
    rw [Lib.countB_hit _ _ _ (by decide) h1] at h
    have e2 : sepB.size = 2 := rfl
    rw [e2] at h s1
    generalize hr : u.extract (i + 2) u.size = r at *
    rcases Lib.indexB_cases r sepB with h2 | ⟨j, h2, _⟩
    · rw [Lib.countB_miss _ _ h2] at h; omega
    · have p2 := index_parts h2
      have s2 := Lib.splitB_hit sepB 0 0 r j h2
      rw [e2, Lib.splitB_zero] at s2
      refine ⟨u.extract 0 i, r.extract 0 j, r.extract (j + 2) r.size, ?_, ?_⟩
      · rw [s1, s2]; rfl
      · rw [← p2]; exact p1

/-! The brackets. -/
abbrev opened (s : ByteArray) : Bool := Lib.hasPrefix s.data.toList [40]
abbrev behind (s : ByteArray) : ByteArray := ⟨(Lib.trimPrefix s.data.toList [40]).toArray⟩
abbrev closed (s : ByteArray) : Bool := Lib.hasSuffix (behind s).data.toList [41]
abbrev inner (s : ByteArray) : ByteArray := ⟨(Lib.trimSuffix (behind s).data.toList [41]).toArray⟩
theorem brackets {s : ByteArray} (h1 : opened s = true) (h2 : closed s = true) : s = ⟨#[40]⟩ ++ inner s ++ ⟨#[41]⟩ := by
  apply ba_ext
  unfold opened Lib.hasPrefix at h1
  rw [List.isPrefixOf_iff_prefix] at h1
  obtain ⟨t, ht⟩ := h1
  have e1 : (behind s).data.toList = t := by
    show Lib.trimPrefix s.data.toList [40] = t
    unfold Lib.trimPrefix Lib.hasPrefix
    rw [if_pos (by rw [List.isPrefixOf_iff_prefix]; exact ⟨t, ht⟩), ← ht]
    rfl
  unfold closed Lib.hasSuffix at h2
  rw [e1, List.isSuffixOf_iff_suffix] at h2
  obtain ⟨v, hv⟩ := h2
  have e2 : (inner s).data.toList = v := by
    show Lib.trimSuffix (behind s).data.toList [41] = v
    unfold Lib.trimSuffix Lib.hasSuffix
    rw [e1, if_pos (by rw [List.isSuffixOf_iff_suffix]; exact ⟨v, hv⟩), ← hv]
    simp
  rw [ByteArray.data_append, ByteArray.data_append, Array.toList_append, Array.toList_append, e2, ← ht, ← hv]
  rfl
theorem inner_size (s : ByteArray) : (behind s).size ≤ s.size ∧ (inner s).size ≤ s.size := by
  have h1 : (behind s).size ≤ s.size := by
    rw [size_list, size_list]
    show (Lib.trimPrefix s.data.toList [40]).length ≤ _
    unfold Lib.trimPrefix
    split
    · rw [List.length_drop]; omega
    · exact Nat.le_refl _
  refine ⟨h1, Nat.le_trans ?_ h1⟩
  rw [size_list, size_list (behind s)]
  show (Lib.trimSuffix (behind s).data.toList [41]).length ≤ _
  unfold Lib.trimSuffix
  split
  · rw [List.length_take]; omega
  · exact Nat.le_refl _
/-- A point's text, taken apart. -/
theorem text_parts {s : ByteArray} {p : P3} (h : textP p = s) : opened s = true ∧ closed s = true ∧ inner s = textQ p.x ++ sepB ++ (textQ p.y ++ sepB ++ textQ p.z) := by
  have e : s.data.toList = 40 :: ((textQ p.x ++ sepB ++ (textQ p.y ++ sepB ++ textQ p.z)).data.toList ++ [41]) := by
    rw [← h]
    unfold textP
    simp [ByteArray.data_append]
  have o : opened s = true := by
    unfold opened Lib.hasPrefix
    rw [e]
    rfl
  have eb : (behind s).data.toList = (textQ p.x ++ sepB ++ (textQ p.y ++ sepB ++ textQ p.z)).data.toList ++ [41] := by
    show Lib.trimPrefix s.data.toList [40] = _
    unfold Lib.trimPrefix
    rw [if_pos o, e]
    rfl
  have c : closed s = true := by
    unfold closed Lib.hasSuffix
    rw [eb, List.isSuffixOf_iff_suffix]
    exact ⟨_, rfl⟩
  refine ⟨o, c, ba_ext ?_⟩
  show Lib.trimSuffix (behind s).data.toList [41] = _
  unfold Lib.trimSuffix
  rw [if_pos c, eb]
  generalize (textQ p.x ++ sepB ++ (textQ p.y ++ sepB ++ textQ p.z)).data.toList = M
  simp
theorem text_split {s : ByteArray} {p : P3} (h : textP p = s) : opened s = true ∧ closed s = true ∧ Lib.countB (inner s) sepB = 2 ∧ Lib.splitB sepB 0 2 (inner s) = [textQ p.x, textQ p.y, textQ p.z] := by
  obtain ⟨h1, h2, h3⟩ := text_parts h
  have n : ∀ q : Rat, 44 ∉ bts (textQ q) := fun q => textQ_ne q (.inl rfl)
  have h4 := splitB_three (n p.x) (n p.y) (n p.z)
  rw [← h3] at h4
  exact ⟨h1, h2, h4⟩
theorem text_back {s a b c : ByteArray} {x y z : Rat} (h1 : opened s = true) (h2 : closed s = true) (h3 : inner s = a ++ sepB ++ (b ++ sepB ++ c)) (ha : textQ x = a) (hb : textQ y = b) (hc : textQ z = c) : textP ⟨x, y, z⟩ = s := by
  rw [brackets h1 h2, h3]
  unfold textP
  rw [← ha, ← hb, ← hc]
  simp only [ByteArray.append_assoc]

/-! What Parse returns: the point whose text it is, if there is one. -/
abbrev P0 : Value := .agg #[.bool false, .string ⟨#[]⟩, .bool false, .string ⟨#[]⟩, .bool false, .string ⟨#[]⟩, .bool false, .string ⟨#[]⟩]
open Classical in
noncomputable def pointV (s : ByteArray) : Value := if h : ∃ p, textP p = s then .tuple #[PV h.choose, .bool true] else .tuple #[P0, .bool false]
theorem pointV_yes {s : ByteArray} {p : P3} (h : textP p = s) : pointV s = .tuple #[PV p, .bool true] := by
  unfold pointV
  have hx : ∃ p, textP p = s := ⟨p, h⟩
  rw [dif_pos hx, textP_inj (hx.choose_spec.trans h.symm)]
theorem pointV_no {s : ByteArray} (h : ¬ ∃ p, textP p = s) : pointV s = .tuple #[P0, .bool false] := by
  unfold pointV
  rw [dif_neg h]

/-! Sizes of what is parsed. -/
theorem ext_sz (u : ByteArray) (i j : Nat) : (u.extract i j).size ≤ j - i := by rw [ByteArray.size_extract]; omega
theorem fracV_size {u : ByteArray} {x y : Nat} (h : fracV u = some (x, y)) : (can x).size ≤ u.size + 1 ∧ (can y).size ≤ u.size + 1 := by
  unfold fracV at h
  split at h
  · rename_i h47
    rw [Option.bind_eq_some_iff] at h
    obtain ⟨a, h1, h⟩ := h
    rw [Option.bind_eq_some_iff] at h
    obtain ⟨b, h2, h⟩ := h
    simp only [Option.some.injEq, Prod.mk.injEq] at h
    obtain ⟨rfl, rfl⟩ := h
    have k1 := digV_val h1
    have k2 := digV_val h2
    rw [bts_length] at k1 k2
    have z1 := ext_sz u 0 (at_ 47 u)
    have z2 := ext_sz u (at_ 47 u + 1) u.size
    omega
  · split at h
    · rename_i h46
      rw [Option.bind_eq_some_iff] at h
      obtain ⟨a, h1, h⟩ := h
      rw [Option.bind_eq_some_iff] at h
      obtain ⟨b, h2, h⟩ := h
      simp only [Option.some.injEq, Prod.mk.injEq] at h
      obtain ⟨rfl, rfl⟩ := h
      have k0 := digV_app h1 h2
      have k1 := digV_val k0
      rw [bts_length, List.length_append, bts_length, bts_length] at k1
      have z1 := ext_sz u 0 (at_ 46 u)
      have z2 := ext_sz u (at_ 46 u + 1) u.size
      have k3 : (can (10 ^ (u.extract (at_ 46 u + 1) u.size).size)).size ≤ (u.extract (at_ 46 u + 1) u.size).size + 1 := by
        refine can_size_le ?_
        refine Nat.lt_of_le_of_lt (Nat.pow_le_pow_left (show 10 ≤ 256 by decide) _) ?_
        exact Nat.pow_lt_pow_right (by decide) (Nat.lt_succ_self _)
      omega
    · rw [Option.bind_eq_some_iff] at h
      obtain ⟨a, h1, h⟩ := h
      simp only [Option.some.injEq, Prod.mk.injEq] at h
      obtain ⟨rfl, rfl⟩ := h
      have k1 := digV_val h1
      rw [bts_length] at k1
      have k2 : (can 1).size = 1 := rfl
      omega
theorem parseQV_size {s : ByteArray} {q : Rat} {b : Bool} (h : parseQV s = .tuple #[QV q, .bool b]) : Rk q (s.size + 1) := by
  have hr := restS_size s
  unfold parseQV signV at h
  split at h
  · rename_i p hp
    obtain ⟨x, y⟩ := p
    obtain ⟨h1, h2⟩ := fracV_size hp
    rw [makeV_eq] at h
    simp only [Value.tuple.injEq, Array.mk.injEq, List.cons.injEq, and_true] at h
    rw [← QV_inj h.1]
    refine Rk.divInt (mg_iv_size (by omega)) ?_ (by omega)
    show (can ((y : Nat) : Int).natAbs).size ≤ _
    rw [Int.natAbs_natCast]
    omega
  · have e : q = 0 := by
      simp only [Value.tuple.injEq, Array.mk.injEq, List.cons.injEq, and_true] at h
      exact (QV_inj (x := 0) h.1).symm
    rw [e]
    exact Rk.zero.mono (by omega)

/-! The first comma and space, as the reference finds it. -/
theorem occ_get (u : ByteArray) (j : Nat) : Lib.occAt u.data.toList [44, 32] j = true ↔ j + 1 < u.size ∧ (bts u).getD j 0 = 44 ∧ (bts u).getD (j + 1) 0 = 32 := by
  unfold Lib.occAt
  have hl := size_list u
  rcases Nat.lt_or_ge (j + 1) u.size with h | h
  · have h1 : j < u.data.toList.length := by omega
    have h2 : j + 1 < u.data.toList.length := by omega
    rw [List.drop_eq_getElem_cons h1, List.drop_eq_getElem_cons h2, bts_getD u j (by omega), bts_getD u (j + 1) h]
    have e1 : u.data.toList[j] = u[j] := by simp; rfl
    have e2 : u.data.toList[j + 1] = u[j + 1] := by simp; rfl
    rw [e1, e2]
    show ((44 : UInt8) == u[j] && ((32 : UInt8) == u[j + 1] && true)) = true ↔ _
    rw [Bool.and_true, Bool.and_eq_true, beq_iff_eq, beq_iff_eq]
    constructor
    · rintro ⟨k1, k2⟩
      rw [← k1, ← k2]
      exact ⟨h, rfl, rfl⟩
    · rintro ⟨_, k1, k2⟩
      exact ⟨UInt8.toNat_inj.1 k1.symm, UInt8.toNat_inj.1 k2.symm⟩
  · constructor
    · intro k
      rw [List.isPrefixOf_iff_prefix] at k
      have := k.length_le
      rw [List.length_drop] at this
      simp at this
      omega
    · intro k
      omega
/-- What the reference's cut returns. -/
def cutV (u : ByteArray) : ByteArray × ByteArray × Bool := if Lib.indexB u sepB = -1 then (⟨#[]⟩, ⟨#[]⟩, false) else (u.extract 0 (Lib.indexB u sepB).toNat, u.extract ((Lib.indexB u sepB).toNat + 2) u.size, true)
theorem cutV_no {u : ByteArray} (h : Lib.indexB u sepB = -1) : cutV u = (⟨#[]⟩, ⟨#[]⟩, false) := if_pos h
theorem cutV_at {u : ByteArray} {i : Nat} (h : Lib.indexB u sepB = (i : Int)) : cutV u = (u.extract 0 i, u.extract (i + 2) u.size, true) := by
  unfold cutV
  rw [if_neg (by omega), h, Int.toNat_natCast]
theorem cutV_sep {x r : ByteArray} (hx : 44 ∉ bts x) : cutV (x ++ sepB ++ r) = (x, r, true) := by
  rw [cutV_at (indexB_sep hx), cat3_left, cat3_right]
theorem cutV_size {u a r : ByteArray} {b : Bool} (h : cutV u = (a, r, b)) : a.size ≤ u.size ∧ r.size ≤ u.size := by
  unfold cutV at h
  split at h
  · cases h; exact ⟨Nat.zero_le _, Nat.zero_le _⟩
  · cases h
    have z1 := ext_sz u ((Lib.indexB u sepB).toNat + 2) u.size
    refine ⟨?_, by omega⟩
    rw [ByteArray.size_extract]
    omega
/-- What lies between the brackets of a point's text. -/
theorem text_within {s : ByteArray} {p : P3} (h : textP p = s) : 2 ≤ s.size ∧ s.extract 1 (s.size - 1) = textQ p.x ++ sepB ++ (textQ p.y ++ sepB ++ textQ p.z) := by
  have e : s = ⟨#[40]⟩ ++ (textQ p.x ++ sepB ++ (textQ p.y ++ sepB ++ textQ p.z)) ++ ⟨#[41]⟩ := by
    rw [← h]
    unfold textP
    simp only [ByteArray.append_assoc]
  generalize textQ p.x ++ sepB ++ (textQ p.y ++ sepB ++ textQ p.z) = M at *
  have hs : s.size = M.size + 2 := by rw [e]; simp only [ByteArray.size_append, lit40, lit41]; omega
  refine ⟨by omega, ba_ext ?_⟩
  rw [Lib.extract_data, hs]
  rw [e]
  simp only [ByteArray.data_append, Array.toList_append]
  rw [show M.size + 2 - 1 - 1 = M.data.toList.length by rw [← size_list]; omega]
  simp
theorem parseQV_ex (s : ByteArray) : ∃ q b, parseQV s = .tuple #[QV q, .bool b] := by
  unfold parseQV
  generalize fracV (restS s) = o
  cases o with
  | none => exact ⟨0, false, rfl⟩
  | some p => exact ⟨_, _, makeV_eq _ _⟩
theorem parse_is {a : ByteArray} {q x : Rat} {b : Bool} (h : parseQV a = .tuple #[QV x, .bool b]) (ha : textQ q = a) : x = q ∧ b = true := by
  rw [← ha, parse_text] at h
  simp only [Value.tuple.injEq, Array.mk.injEq, List.cons.injEq, Value.bool.injEq, and_true] at h
  exact ⟨(QV_inj h.1).symm, h.2.symm⟩
theorem textP_Pk {p : P3} {k : Nat} (h : (textP p).size ≤ k) : Pk p (3 * (k + 1)) := by
  have e : (textP p).size = 1 + (textQ p.x).size + 2 + (textQ p.y).size + 2 + (textQ p.z).size + 1 := by
    unfold textP
    simp only [ByteArray.size_append, lit40, lit41, lit44]
  exact Pk.ofV3 ⟨(parseQV_size (parse_text p.x)).mono (by omega), (parseQV_size (parse_text p.y)).mono (by omega), (parseQV_size (parse_text p.z)).mono (by omega)⟩
theorem textP_small {p : P3} {k : Nat} (h : Pk p k) (hk : 1 ≤ k) : (textP p).size ≤ 18 * k + 21 := by
  have v := Vk.ofP h hk
  have y0 := textQ_sz v.1
  have y1 := textQ_sz v.2.1
  have y2 := textQ_sz v.2.2
  unfold textP
  simp only [ByteArray.size_append, lit40, lit41, lit44]
  omega
end Go.Proofs.YtdgppfccolhaeaaGreatDoor
