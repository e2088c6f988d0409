/- Texts of planes, taken apart: what Parse and its reference look for. -/
import Derived.Test.YtpmfaommooneiaaGreatDoorVt
import Derived.Test.YtpmfaommooneiaaGreatDoorVm
import Derived.Test.YtpmfaommooneiaaGreatDoorPw
import Derived.Test.YtpmfaommooneiaaGreatDoorDecZ
set_option linter.unusedVariables false
set_option linter.unusedSimpArgs false
namespace Go.Proofs.YtpmfaommooneiaaGreatDoor
open Go.RowKit NM SX

/-- The space between two coefficients. -/
abbrev spB : ByteArray := ⟨#[32]⟩
theorem decZ_bytes (z : Int) : ∀ x ∈ bts (decZ z), x = 45 ∨ (48 ≤ x ∧ x ≤ 57) := by
  intro x hx
  unfold decZ at hx
  split at hx
  · rw [bts_append, List.mem_append] at hx
    rcases hx with hx | hx
    · have : x = 45 := by simpa [bts] using hx
      exact .inl this
    · exact .inr (dec_bytes _ x hx)
  · exact .inr (dec_bytes _ x hx)
theorem decZ_nosp (z : Int) : (32 : UInt8) ∉ (decZ z).data.toList := fun e => by
  have := decZ_bytes z _ (mem_bts e)
  have h : (32 : UInt8).toNat = 32 := rfl
  omega
theorem minus_rest {s : ByteArray} (h : negS s = true) : ⟨#[45]⟩ ++ restS s = s := by
  apply ba_ext
  rw [data_minus]
  have h' : Lib.hasPrefix s.data.toList (⟨#[45]⟩ : ByteArray).data.toList = true := h
  have h2 : [45] <+: s.data.toList := by
    have h3 := h'
    unfold Lib.hasPrefix at h3
    rwa [List.isPrefixOf_iff_prefix] at h3
  obtain ⟨t, ht⟩ := h2
  have e : (restS s).data.toList = t := by
    show Lib.trimPrefix s.data.toList (⟨#[45]⟩ : ByteArray).data.toList = t
    unfold Lib.trimPrefix
    rw [if_pos h', ← ht]
    rfl
  rw [e]
  exact ht
theorem parseZ_ex (s : ByteArray) : ∃ z b, parseZ s = .tuple #[Z z, .bool b] := by
  by_cases h : GoodZ s
  · exact ⟨_, _, parseZ_yes h⟩
  · exact ⟨0, false, parseZ_no h⟩
theorem ZV_inj {x y : Int} (h : Z x = Z y) : x = y := by
  simp only [Value.agg.injEq, Array.mk.injEq, List.cons.injEq, Value.bool.injEq, Value.string.injEq, and_true] at h
  exact Z_inj h.1 h.2
theorem parseZ_size {s : ByteArray} {z : Int} {b : Bool} (h : parseZ s = .tuple #[Z z, .bool b]) : Zk z s.size := by
  have hr := restS_size s
  by_cases hg : GoodZ s
  · rw [parseZ_yes hg] at h
    simp only [Value.tuple.injEq, Array.mk.injEq, List.cons.injEq, and_true] at h
    have e := ZV_inj h.1
    have h1 := decVal_size' hg.1
    rw [← e]
    exact mg_iv_size (Nat.le_trans h1 hr)
  · rw [parseZ_no hg] at h
    simp only [Value.tuple.injEq, Array.mk.injEq, List.cons.injEq, and_true] at h
    have e : (0 : Int) = z := ZV_inj h.1
    rw [← e]
    exact Nat.zero_le _
theorem parseZ_back {s : ByteArray} {z : Int} (h : parseZ s = .tuple #[Z z, .bool true]) : decZ z = s := by
  by_cases hg : GoodZ s
  · rw [parseZ_yes hg] at h
    simp only [Value.tuple.injEq, Array.mk.injEq, List.cons.injEq, and_true] at h
    have e := ZV_inj h
    have hd := dec_decVal hg.1
    cases hn : negS s with
    | false =>
      rw [hn, iv_false, nat_can] at e
      rw [← e, decZ_pos (by omega), Int.natAbs_natCast, hd, restS_false hn]
    | true =>
      have h0 : decVal (bts (restS s)) ≠ 0 := fun h0 => hg.2 ⟨hn, h0⟩
      rw [hn, iv_true, nat_can] at e
      rw [← e, decZ_neg (by omega), Int.natAbs_neg, Int.natAbs_natCast, hd, minus_rest hn]
  · rw [parseZ_no hg] at h
    simp at h
theorem parseZ_is {a : ByteArray} {q x : Int} {b : Bool} (h : parseZ a = .tuple #[Z x, .bool b]) (ha : decZ q = a) : x = q ∧ b = true := by
  rw [← ha, parse_decZ] at h
  simp only [Value.tuple.injEq, Array.mk.injEq, List.cons.injEq, Value.bool.injEq, and_true] at h
  exact ⟨(ZV_inj h.1).symm, h.2.symm⟩

/-! Pieces by spaces, as strings.Split tells of them. -/
theorem sp_index {x r : List UInt8} (hx : (32 : UInt8) ∉ x) : Lib.index (x ++ 32 :: r) [32] = (x.length : Nat) := by
  refine Lib.index_first (i := x.length) (by simp) ?_ (fun j hj => ?_)
  · unfold Lib.occAt
    rw [List.drop_left]
    simp [List.isPrefixOf]
  · unfold Lib.occAt
    rw [List.drop_append_of_le_length (Nat.le_of_lt hj), List.drop_eq_getElem_cons hj]
    have : x[j] ≠ 32 := fun e => hx (e ▸ List.getElem_mem hj)
    show ((32 : UInt8) == x[j] && _) = false
    rw [beq_eq_false_iff_ne.2 (Ne.symm this)]
    rfl
theorem sp_none {x : List UInt8} (hx : (32 : UInt8) ∉ x) : Lib.index x [32] = -1 := by
  refine Lib.index_none (fun j hj => ?_)
  unfold Lib.occAt
  rcases Nat.lt_or_ge j x.length with h | h
  · rw [List.drop_eq_getElem_cons h]
    have : x[j] ≠ 32 := fun e => hx (e ▸ List.getElem_mem h)
    simp [List.isPrefixOf, Ne.symm this]
  · rw [List.drop_eq_nil_of_le h]
    rfl
theorem sp_cat (x r : ByteArray) : (x ++ spB ++ r).data.toList = x.data.toList ++ 32 :: r.data.toList := by
  simp [ByteArray.data_append]
theorem sp_indexB {x r : ByteArray} (hx : (32 : UInt8) ∉ x.data.toList) : Lib.indexB (x ++ spB ++ r) spB = (x.size : Nat) := by
  show Lib.index (x ++ spB ++ r).data.toList [32] = _
  rw [sp_cat, sp_index hx, size_list]
theorem sp_noneB {x : ByteArray} (hx : (32 : UInt8) ∉ x.data.toList) : Lib.indexB x spB = -1 := sp_none hx
theorem sp_left (x r : ByteArray) : (x ++ spB ++ r).extract 0 x.size = x := by
  apply ba_ext
  rw [Lib.extract_data, sp_cat, size_list]
  simp
theorem sp_right (x r : ByteArray) : (x ++ spB ++ r).extract (x.size + 1) (x ++ spB ++ r).size = r := by
  apply ba_ext
  have e : (x ++ spB ++ r).size = x.size + 1 + r.size := by simp only [ByteArray.size_append]; rfl
  rw [Lib.extract_data, sp_cat, e, size_list, size_list]
  rw [List.drop_append, List.drop_eq_nil_of_le (by omega), show x.data.toList.length + 1 - x.data.toList.length = 1 by omega]
  simp only [List.nil_append, List.drop_succ_cons, List.drop_zero]
  rw [Nat.add_sub_cancel_left, List.take_length]
theorem sp_four {x y z u : ByteArray} (hx : (32 : UInt8) ∉ x.data.toList) (hy : (32 : UInt8) ∉ y.data.toList) (hz : (32 : UInt8) ∉ z.data.toList) (hu : (32 : UInt8) ∉ u.data.toList) :
    Lib.countB (x ++ spB ++ (y ++ spB ++ (z ++ spB ++ u))) spB = 3 ∧ Lib.splitB spB 0 3 (x ++ spB ++ (y ++ spB ++ (z ++ spB ++ u))) = [x, y, z, u] := by
  have i1 := sp_indexB (r := y ++ spB ++ (z ++ spB ++ u)) hx
  have i2 := sp_indexB (r := z ++ spB ++ u) hy
  have i3 := sp_indexB (r := u) hz
  have i4 := sp_noneB hu
  have r1 : (x ++ spB ++ (y ++ spB ++ (z ++ spB ++ u))).extract (x.size + spB.size) (x ++ spB ++ (y ++ spB ++ (z ++ spB ++ u))).size = y ++ spB ++ (z ++ spB ++ u) := sp_right x _
  have r2 : (y ++ spB ++ (z ++ spB ++ u)).extract (y.size + spB.size) (y ++ spB ++ (z ++ spB ++ u)).size = z ++ spB ++ u := sp_right y _
  have r3 : (z ++ spB ++ u).extract (z.size + spB.size) (z ++ spB ++ u).size = u := sp_right z _
  constructor
  · rw [Lib.countB_hit _ _ _ (by decide) i1, r1, Lib.countB_hit _ _ _ (by decide) i2, r2, Lib.countB_hit _ _ _ (by decide) i3, r3, Lib.countB_miss _ _ i4]
  · rw [Lib.splitB_hit _ _ _ _ _ i1, r1, Lib.splitB_hit _ _ _ _ _ i2, r2, Lib.splitB_hit _ _ _ _ _ i3, r3, Lib.splitB_zero, Nat.add_zero, Nat.add_zero, Nat.add_zero, sp_left, sp_left, sp_left]
/-- What lies about the first space. -/
theorem sp_parts {u : ByteArray} {i : Nat} (h : Lib.indexB u spB = (i : Int)) : u = u.extract 0 i ++ spB ++ u.extract (i + 1) u.size := by
  have hs := Lib.index_spec u.data.toList spB.data.toList
  rcases hs with ⟨h1, _⟩ | ⟨j, h1, h2, h3, _⟩
  · have : Lib.index u.data.toList spB.data.toList = (i : Int) := h
    omega
  · have : Lib.index u.data.toList spB.data.toList = (i : Int) := h
    obtain rfl : i = j := by omega
    unfold Lib.occAt at h3
    rw [List.isPrefixOf_iff_prefix] at h3
    obtain ⟨t, ht⟩ := h3
    have e0 := List.take_append_drop i u.data.toList
    rw [← ht] at e0
    have ht' : u.data.toList.drop (i + 1) = t := by
      rw [← List.drop_drop, ← ht]
      rfl
    apply ba_ext
    rw [sp_cat, Lib.extract_data, Lib.extract_data, ht']
    have hl : (t.take (u.size - (i + 1))) = t := by
      apply List.take_of_length_le
      rw [← ht', List.length_drop, size_list]
      exact Nat.le_refl _
    rw [hl]
    simpa using e0.symm
theorem sp_step {u : ByteArray} {k : Nat} (h : Lib.countB u spB = k + 1) : ∃ a r, (∀ m, Lib.splitB spB 0 (m + 1) u = a :: Lib.splitB spB 0 m r) ∧ u = a ++ spB ++ r ∧ Lib.countB r spB = k := by
  rcases Lib.indexB_cases u spB with h1 | ⟨i, h1, _⟩
  · rw [Lib.countB_miss _ _ h1] at h; omega
  · have p1 := sp_parts h1
    rw [Lib.countB_hit _ _ _ (by decide) h1] at h
    refine ⟨u.extract 0 i, u.extract (i + 1) u.size, fun m => ?_, p1, ?_⟩
    · rw [Lib.splitB_hit spB 0 m u i h1]; rfl
    · have e : spB.size = 1 := rfl
      rw [e] at h
      omega
/-- A text with three spaces: four pieces. -/
theorem sp_three {u : ByteArray} (h : Lib.countB u spB = 3) : ∃ a b c d, Lib.splitB spB 0 3 u = [a, b, c, d] ∧ u = a ++ spB ++ (b ++ spB ++ (c ++ spB ++ d)) := by
  obtain ⟨a, r, s1, p1, h⟩ := sp_step h
  obtain ⟨b, r2, s2, p2, h⟩ := sp_step h
  obtain ⟨c, r3, s3, p3, h⟩ := sp_step h
  refine ⟨a, b, c, r3, ?_, ?_⟩
  · rw [s1, s2, s3, Lib.splitB_zero]
  · rw [← p3, ← p2]; exact p1

/-! The brackets. -/
abbrev opened5 (s : ByteArray) : Bool := Lib.hasPrefix s.data.toList [91]
abbrev behind5 (s : ByteArray) : ByteArray := ⟨(Lib.trimPrefix s.data.toList [91]).toArray⟩
abbrev closed5 (s : ByteArray) : Bool := Lib.hasSuffix (behind5 s).data.toList [93]
abbrev inner5 (s : ByteArray) : ByteArray := ⟨(Lib.trimSuffix (behind5 s).data.toList [93]).toArray⟩
theorem brackets5 {s : ByteArray} (h1 : opened5 s = true) (h2 : closed5 s = true) : s = ⟨#[91]⟩ ++ inner5 s ++ ⟨#[93]⟩ := by
  apply ba_ext
  unfold opened5 Lib.hasPrefix at h1
  rw [List.isPrefixOf_iff_prefix] at h1
  obtain ⟨t, ht⟩ := h1
  have e1 : (behind5 s).data.toList = t := by
    show Lib.trimPrefix s.data.toList [91] = t
    unfold Lib.trimPrefix Lib.hasPrefix
    rw [if_pos (by rw [List.isPrefixOf_iff_prefix]; exact ⟨t, ht⟩), ← ht]
    rfl
  unfold closed5 Lib.hasSuffix at h2
  rw [e1, List.isSuffixOf_iff_suffix] at h2
  obtain ⟨v, hv⟩ := h2
  have e2 : (inner5 s).data.toList = v := by
    show Lib.trimSuffix (behind5 s).data.toList [93] = v
    unfold Lib.trimSuffix Lib.hasSuffix
    rw [e1, if_pos (by rw [List.isSuffixOf_iff_suffix]; exact ⟨v, hv⟩), ← hv]
    simp
  rw [ByteArray.data_append, ByteArray.data_append, Array.toList_append, Array.toList_append, e2, ← ht, ← hv]
  rfl
theorem inner5_size (s : ByteArray) : (behind5 s).size ≤ s.size ∧ (inner5 s).size ≤ s.size := by
  have h1 : (behind5 s).size ≤ s.size := by
    rw [size_list, size_list]
    show (Lib.trimPrefix s.data.toList [91]).length ≤ _
    unfold Lib.trimPrefix
    split
    · rw [List.length_drop]; omega
    · exact Nat.le_refl _
  refine ⟨h1, Nat.le_trans ?_ h1⟩
  rw [size_list, size_list (behind5 s)]
  show (Lib.trimSuffix (behind5 s).data.toList [93]).length ≤ _
  unfold Lib.trimSuffix
  split
  · rw [List.length_take]; omega
  · exact Nat.le_refl _
/-- The four coefficients' texts between spaces. -/
abbrev mid5 (q : Z4) : ByteArray := decZ q.a ++ spB ++ (decZ q.b ++ spB ++ (decZ q.c ++ spB ++ decZ q.d))
theorem textF_mid (q : Z4) : textF q = ⟨#[91]⟩ ++ mid5 q ++ ⟨#[93]⟩ := by
  unfold textF
  simp only [ByteArray.append_assoc]
theorem textF_parts {s : ByteArray} {q : Z4} (h : textF q = s) : opened5 s = true ∧ closed5 s = true ∧ inner5 s = mid5 q := by
  have e : s.data.toList = 91 :: ((mid5 q).data.toList ++ [93]) := by
    rw [← h, textF_mid]
    generalize mid5 q = M
    simp [ByteArray.data_append]
  have o : opened5 s = true := by
    unfold opened5 Lib.hasPrefix
    rw [e]
    rfl
  have eb : (behind5 s).data.toList = (mid5 q).data.toList ++ [93] := by
    show Lib.trimPrefix s.data.toList [91] = _
    unfold Lib.trimPrefix
    rw [if_pos o, e]
    rfl
  have c : closed5 s = true := by
    unfold closed5 Lib.hasSuffix
    rw [eb, List.isSuffixOf_iff_suffix]
    exact ⟨_, rfl⟩
  refine ⟨o, c, ba_ext ?_⟩
  show Lib.trimSuffix (behind5 s).data.toList [93] = _
  unfold Lib.trimSuffix
  rw [if_pos c, eb]
  generalize mid5 q = M
  simp
theorem textF_split {s : ByteArray} {q : Z4} (h : textF q = s) : opened5 s = true ∧ closed5 s = true ∧ Lib.countB (inner5 s) spB = 3 ∧ Lib.splitB spB 0 3 (inner5 s) = [decZ q.a, decZ q.b, decZ q.c, decZ q.d] := by
  obtain ⟨h1, h2, h3⟩ := textF_parts h
  have h4 : Lib.countB (mid5 q) spB = 3 ∧ Lib.splitB spB 0 3 (mid5 q) = [decZ q.a, decZ q.b, decZ q.c, decZ q.d] := sp_four (decZ_nosp q.a) (decZ_nosp q.b) (decZ_nosp q.c) (decZ_nosp q.d)
  rw [← h3] at h4
  exact ⟨h1, h2, h4⟩
theorem textF_back {s a b c d : ByteArray} {q : Z4} (h1 : opened5 s = true) (h2 : closed5 s = true) (h3 : inner5 s = a ++ spB ++ (b ++ spB ++ (c ++ spB ++ d))) (ha : decZ q.a = a) (hb : decZ q.b = b) (hc : decZ q.c = c) (hd : decZ q.d = d) : textF q = s := by
  rw [brackets5 h1 h2, h3, textF_mid]
  show ⟨#[91]⟩ ++ mid5 q ++ ⟨#[93]⟩ = _
  unfold mid5
  rw [ha, hb, hc, hd]
theorem decZ_inj {x y : Int} (h : decZ x = decZ y) : x = y := by
  have h1 := parse_decZ x
  rw [h, parse_decZ y] at h1
  simp only [Value.tuple.injEq, Array.mk.injEq, List.cons.injEq, and_true] at h1
  exact (ZV_inj h1).symm
theorem textF_inj {p q : Z4} (h : textF p = textF q) : p = q := by
  have h1 := (textF_split h).2.2.2
  have h2 := (textF_split (s := textF q) rfl).2.2.2
  rw [h1] at h2
  simp only [List.cons.injEq, and_true] at h2
  exact Z4.ext' (decZ_inj h2.1) (decZ_inj h2.2.1) (decZ_inj h2.2.2.1) (decZ_inj h2.2.2.2)
theorem textF_size {q : Z4} {k : Nat} (h : Fk q k) : (textF q).size ≤ 12 * k + 13 := by
  have y0 := decZ_size h.1
  have y1 := decZ_size h.2.1
  have y2 := decZ_size h.2.2.1
  have y3 := decZ_size h.2.2.2
  unfold textF
  simp only [ByteArray.size_append, lit91, lit32, lit93]
  omega

/-! What Parse returns: the plane in canonical form whose text it is, if there is one. -/
def Can5 (q : Z4) : Prop := prim q = q ∧ ¬ flatF q
def Has5 (s : ByteArray) : Prop := ∃ q, Can5 q ∧ textF q = s
open Classical in
noncomputable def planeT (s : ByteArray) : Value := if h : Has5 s then .tuple #[FV h.choose, .bool true] else .tuple #[P0, .bool false]
theorem planeT_yes {s : ByteArray} {q : Z4} (hc : Can5 q) (h : textF q = s) : planeT s = .tuple #[FV q, .bool true] := by
  unfold planeT
  have hx : Has5 s := ⟨q, hc, h⟩
  rw [dif_pos hx, textF_inj (hx.choose_spec.2.trans h.symm)]
theorem planeT_no {s : ByteArray} (h : ¬ Has5 s) : planeT s = .tuple #[P0, .bool false] := by
  unfold planeT
  rw [dif_neg h]
theorem textF_Fk {q : Z4} {k : Nat} (h : (textF q).size ≤ k) : Fk q k := by
  have e : (textF q).size = 1 + (decZ q.a).size + 1 + (decZ q.b).size + 1 + (decZ q.c).size + 1 + (decZ q.d).size + 1 := by
    unfold textF
    simp only [ByteArray.size_append, lit91, lit32, lit93]
  exact ⟨(parseZ_size (parse_decZ q.a)).up (by omega), (parseZ_size (parse_decZ q.b)).up (by omega), (parseZ_size (parse_decZ q.c)).up (by omega), (parseZ_size (parse_decZ q.d)).up (by omega)⟩

/-! Pieces by spaces, as the reference takes them: byte after byte. -/
def pcs : List UInt8 → List (List UInt8)
  | [] => [[]]
  | c :: r => if c = 32 then [] :: pcs r else match pcs r with
    | h :: t => (c :: h) :: t
    | [] => [[c]]
theorem pcs_snoc : ∀ {u : List UInt8} {L : List (List UInt8)} {x : List UInt8}, pcs u = L ++ [x] → ∀ c : UInt8, pcs (u ++ [c]) = if c = 32 then L ++ [x] ++ [[]] else L ++ [x ++ [c]]
  | [], L, x, h, c => by
    have hL : L = [] := by
      cases L with
      | nil => rfl
      | cons a l => simp [pcs] at h
    subst hL
    have hx : x = [] := by simpa [pcs] using h.symm
    subst hx
    by_cases hc : c = 32
    · simp [pcs, hc]
    · simp [pcs, hc]
  | a :: r, L, x, h, c => by
    obtain ⟨M, y, hM⟩ : ∃ M y, pcs r = M ++ [y] := by
      have hne : pcs r ≠ [] := by
        cases r with
        | nil => simp [pcs]
        | cons b r' =>
          unfold pcs
          split
          · simp
          · split <;> simp
      exact ⟨_, _, (List.dropLast_concat_getLast hne).symm⟩
    have ih := pcs_snoc hM c
    by_cases ha : a = 32
    · have e1 : pcs (a :: r) = [] :: pcs r := by rw [pcs, if_pos ha]
      have e2 : pcs (a :: r ++ [c]) = [] :: pcs (r ++ [c]) := by show pcs (a :: (r ++ [c])) = _; rw [pcs, if_pos ha]
      rw [e1, hM] at h
      have h' : ([] :: M) ++ [y] = L ++ [x] := h
      obtain ⟨hL, hx⟩ := List.append_inj' h' rfl
      have hx' : y = x := by simpa using hx
      subst hx' hL
      rw [e2, ih]
      split <;> rfl
    · cases M with
      | nil =>
        have hr : pcs r = [y] := hM
        have e1 : pcs (a :: r) = [a :: y] := by rw [pcs, if_neg ha, hr]
        rw [e1] at h
        have h' : ([] : List (List UInt8)) ++ [a :: y] = L ++ [x] := h
        obtain ⟨hL, hx⟩ := List.append_inj' h' rfl
        have hx' : a :: y = x := by simpa using hx
        subst hx' hL
        show pcs (a :: (r ++ [c])) = _
        rw [pcs, if_neg ha, ih]
        by_cases hc : c = 32
        · rw [if_pos hc, if_pos hc]; rfl
        · rw [if_neg hc, if_neg hc]; rfl
      | cons m M =>
        have hr : pcs r = m :: (M ++ [y]) := hM
        have e1 : pcs (a :: r) = (a :: m) :: (M ++ [y]) := by rw [pcs, if_neg ha, hr]
        rw [e1] at h
        have h' : ((a :: m) :: M) ++ [y] = L ++ [x] := h
        obtain ⟨hL, hx⟩ := List.append_inj' h' rfl
        have hx' : y = x := by simpa using hx
        subst hx' hL
        show pcs (a :: (r ++ [c])) = _
        rw [pcs, if_neg ha, ih]
        by_cases hc : c = 32
        · rw [if_pos hc, if_pos hc]; rfl
        · rw [if_neg hc, if_neg hc]; rfl
theorem pcs_one : ∀ {x : List UInt8}, (32 : UInt8) ∉ x → pcs x = [x]
  | [], _ => rfl
  | a :: r, h => by
    have ha : a ≠ 32 := fun e => h (by rw [e]; exact List.mem_cons_self)
    have ih := pcs_one (x := r) (fun e => h (List.mem_cons_of_mem _ e))
    rw [pcs, if_neg ha, ih]
theorem pcs_cons : ∀ {x r : List UInt8}, (32 : UInt8) ∉ x → pcs (x ++ 32 :: r) = x :: pcs r
  | [], r, _ => by show pcs (32 :: r) = _; rw [pcs, if_pos rfl]
  | a :: x, r, h => by
    have ha : a ≠ 32 := fun e => h (by rw [e]; exact List.mem_cons_self)
    have ih := pcs_cons (x := x) (r := r) (fun e => h (List.mem_cons_of_mem _ e))
    show pcs (a :: (x ++ 32 :: r)) = _
    rw [pcs, if_neg ha, ih]
/-- The pieces of what lies between the first and the last byte. -/
def pcsB (s : ByteArray) (i j : Nat) : List ByteArray := (pcs (s.extract i j).data.toList).map fun l => ⟨l.toArray⟩
theorem textF_within {s : ByteArray} {q : Z4} (h : textF q = s) : 2 ≤ s.size ∧ pcsB s 1 (s.size - 1) = [decZ q.a, decZ q.b, decZ q.c, decZ q.d] := by
  have e : s = ⟨#[91]⟩ ++ mid5 q ++ ⟨#[93]⟩ := by rw [← h, textF_mid]
  obtain ⟨M, hM⟩ : ∃ M, M = mid5 q := ⟨_, rfl⟩
  rw [← hM] at e
  have hs : s.size = M.size + 2 := by rw [e]; simp only [ByteArray.size_append, lit91, lit93]; omega
  refine ⟨by omega, ?_⟩
  have hx : (s.extract 1 (s.size - 1)).data.toList = M.data.toList := by
    rw [Lib.extract_data, hs]
    rw [e]
    simp only [ByteArray.data_append, Array.toList_append]
    rw [show M.size + 2 - 1 - 1 = M.data.toList.length by rw [← size_list]; omega]
    simp
  unfold pcsB
  rw [hx, hM, sp_cat, pcs_cons (decZ_nosp _), sp_cat, pcs_cons (decZ_nosp _), sp_cat, pcs_cons (decZ_nosp _), pcs_one (decZ_nosp _)]
  rfl
end Go.Proofs.YtpmfaommooneiaaGreatDoor
