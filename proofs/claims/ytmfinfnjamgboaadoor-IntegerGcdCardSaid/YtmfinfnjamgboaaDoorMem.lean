/- Blocks of memory that are known whole, and a few laws of the walk over them. -/
import Derived.Test.YtmfinfnjamgboaaDoorChecked
import Derived.Test.YtmfinfnjamgboaaDoorB
import Derived.WalkKit
import Derived.WalkSpells
import Derived.WalkLawsBesides
import Derived.Deep.QuietTactic
import Derived.BigQuiet
import Derived.Lib.Hide
import Derived.Laws.IdiomStrings
namespace Go.Proofs.YtmfinfnjamgboaaDoor
open Go.RowKit

/-- The cells of a list of numbers of kind k. -/
def cv (k : IntKind) (l : List Nat) : List Value := l.map fun (n : Nat) => .int k (n : Int)
theorem cv_length (k : IntKind) (l : List Nat) : (cv k l).length = l.length := by simp [cv]
theorem cv_getElem? (k : IntKind) (l : List Nat) (j : Nat) (h : j < l.length) : (cv k l)[j]? = some (.int k (l.getD j 0 : Nat)) := by
  simp [cv, h]
theorem cv_set (k : IntKind) (l : List Nat) (j n : Nat) : (cv k l).set j (.int k (n : Int)) = cv k (l.set j n) := by simp [cv, List.map_set]
theorem cv_append (k : IntKind) (l m : List Nat) : cv k (l ++ m) = cv k l ++ cv k m := by simp [cv]

/-- Block g holds the cells cs, of element type E; none of them is frozen. -/
def Blk (w : World) (g : Nat) (E : TypeId) (cs : List Value) : Prop := ∃ fz, w.heap[g]? = some (.cells cs.toArray E fz) ∧ ∀ j, j < cs.length → w.frozen? ⟨g, j, none⟩ = false

section
variable {w w' : World} {g : Nat} {E : TypeId} {cs : List Value}
theorem Blk.lt (h : Blk w g E cs) : g < w.heap.size := by
  obtain ⟨fz, h, _⟩ := h
  exact (Array.getElem?_eq_some_iff.1 h).1
theorem Blk.cell (h : Blk w g E cs) {j : Nat} {v : Value} (hv : cs[j]? = some v) : w.cell? ⟨g, j, none⟩ = some v := by
  obtain ⟨fz, h, _⟩ := h
  rw [cell_of_row w g j cs.toArray E fz h]
  simpa using hv
theorem Blk.free (h : Blk w g E cs) {j : Nat} (hj : j < cs.length) : w.frozen? ⟨g, j, none⟩ = false := by
  obtain ⟨fz, _, h⟩ := h
  exact h j hj
theorem Blk.of_block (h : Blk w g E cs) (e : w'.heap[g]? = w.heap[g]?) : Blk w' g E cs := by
  obtain ⟨fz, h1, h2⟩ := h
  exact ⟨fz, e.trans h1, fun j hj => (World.frozen?_of_block (w := w) (a := ⟨g, j, none⟩) e).trans (h2 j hj)⟩
theorem Blk.keep (h : Blk w g E cs) (hb : Below w.heap.size w w') : Blk w' g E cs := h.of_block (hb.block g h.lt)
theorem Blk.drew (h : Blk w g E cs) : Blk w.drew g E cs := h
theorem Blk.drewN (h : Blk w g E cs) (n : Nat) : Blk (w.drewN n) g E cs := h
theorem Blk.alloc (h : Blk w g E cs) (o : Obj) : Blk (w.alloc o) g E cs := h.of_block (Below.heap_alloc w o g h.lt)
theorem Blk.below {B : Nat} (h : Blk w g E cs) (hb : Below B w w') (hg : g < B) : Blk w' g E cs := h.of_block (hb.block g hg)
theorem Blk.grown {row : Option Nat} (h : Blk w g E cs) (hg : w.grownBy w' row) (hr : some g ≠ row) : Blk w' g E cs := h.of_block (hg.block g h.lt hr)
theorem Blk.setOther (h : Blk w g E cs) {p : Addr} (hp : p.block ≠ g) (u : Value) : Blk (w.setCell p u) g E cs := h.of_block (Below.heap_setCell w p u g (fun e => hp e.symm))
theorem Blk.set (h : Blk w g E cs) (j : Nat) (v : Value) : Blk (w.setCell ⟨g, j, none⟩ v) g E (cs.set j v) := by
  obtain ⟨fz, h1, h2⟩ := h
  have e : (w.setCell ⟨g, j, none⟩ v).heap[g]? = some (.cells (cs.set j v).toArray E fz) := by
    simp only [World.setCell, Array.getElem?_modify, if_pos, h1, Option.map_some]
    simp
  refine ⟨fz, e, fun i hi => ?_⟩
  have h3 := h2 i (by simpa using hi)
  simp only [World.frozen?, e, h1] at h3 ⊢
  simpa using h3
theorem Blk.new (w : World) (cs : Array Value) (E : TypeId) : Blk (w.alloc (.cells cs E)) w.heap.size E cs.toList := by
  have e : (w.alloc (.cells cs E)).heap[w.heap.size]? = some (.cells cs E) := heap_alloc_new w _
  refine ⟨(0, 0), by rw [e], fun j hj => ?_⟩
  unfold World.frozen?
  rw [e]
  simp
end

theorem cv_replicate (k : IntKind) (n : Nat) : cv k (List.replicate n 0) = List.replicate n (.int k 0) := by simp [cv]
theorem madeCells_int (k : IntKind) (n : Nat) : (madeCells #[.int k 0] n).toList = List.replicate n (.int k 0) := by
  simp only [madeCells]
  apply List.ext_getElem (by simp)
  intro i h1 h2
  simp [Nat.mod_one]

theorem zeros_at {k : IntKind} {L : List Nat} {m j : Nat} (hj : L.length = j) (hm : 0 < m) : (cv k (L ++ List.replicate m 0))[j]? = some (.int k 0) := by
  rw [cv_getElem? k _ j (by simp; omega)]
  simp only [List.getD_eq_getElem?_getD]
  rw [List.getElem?_append_right (by omega), List.getElem?_replicate, if_pos (by omega)]
  rfl
theorem zeros_set {k : IntKind} {L : List Nat} {m j d : Nat} (hj : L.length = j) (hm : 0 < m) : (cv k (L ++ List.replicate m 0)).set j (.int k (d : Int)) = cv k ((L ++ [d]) ++ List.replicate (m - 1) 0) := by
  rw [cv_set, List.set_append_right _ _ (by omega)]
  obtain ⟨m, rfl⟩ : ∃ m', m = m' + 1 := ⟨m - 1, by omega⟩
  rw [hj, Nat.sub_self, List.replicate_succ, List.set_cons_zero]
  simp
section
variable {w : World} {g : Nat} {E : TypeId} {k : IntKind} {L : List Nat} {m j : Nat}
/-- A block that is filled from its beginning on: the next cell, still zero. -/
theorem Blk.next (hB : Blk w g E (cv k (L ++ List.replicate m 0))) (hj : L.length = j) (hm : 0 < m) : w.cell? ⟨g, j, none⟩ = some (.int k 0) := hB.cell (zeros_at hj hm)
theorem Blk.nextFree (hB : Blk w g E (cv k (L ++ List.replicate m 0))) (hj : L.length = j) (hm : 0 < m) : w.frozen? ⟨g, j, none⟩ = false := hB.free (by rw [cv_length]; simp; omega)
theorem Blk.push (hB : Blk w g E (cv k (L ++ List.replicate m 0))) (hj : L.length = j) (hm : 0 < m) {v : Value} {d m' : Nat} (hv : v = .int k (d : Int)) (hm' : m' = m - 1) :
    Blk (w.setCell ⟨g, j, none⟩ v) g E (cv k ((L ++ [d]) ++ List.replicate m' 0)) := by
  subst hv hm'
  rw [← zeros_set hj hm]
  exact hB.set j _
end

theorem part_at {k : IntKind} {L M : List Nat} {post : List Value} {j : Nat} (hj : L.length = j) (hM : j < M.length) : (cv k (L ++ M.drop j) ++ post)[j]? = some (.int k (M.getD j 0 : Nat)) := by
  rw [List.getElem?_append_left (by rw [cv_length]; simp; omega), cv_getElem? k _ j (by simp; omega)]
  simp [List.getD_eq_getElem?_getD, List.getElem?_append_right (show L.length ≤ j by omega), hj]
theorem part_set {k : IntKind} {L M : List Nat} {post : List Value} {j d : Nat} (hj : L.length = j) (hM : j < M.length) : (cv k (L ++ M.drop j) ++ post).set j (.int k (d : Int)) = cv k ((L ++ [d]) ++ M.drop (j + 1)) ++ post := by
  rw [List.set_append_left _ _ (by rw [cv_length]; simp; omega), cv_set, List.set_append_right _ _ (by omega), hj, Nat.sub_self, List.drop_eq_getElem_cons hM, List.set_cons_zero]
  simp
section
variable {w : World} {g : Nat} {E : TypeId} {k : IntKind} {L M : List Nat} {post : List Value} {j : Nat}
/-- A block that is changed from its beginning on. -/
theorem Blk.partAt (hB : Blk w g E (cv k (L ++ M.drop j) ++ post)) (hj : L.length = j) (hM : j < M.length) : w.cell? ⟨g, j, none⟩ = some (.int k (M.getD j 0 : Nat)) := hB.cell (part_at hj hM)
theorem Blk.partFree (hB : Blk w g E (cv k (L ++ M.drop j) ++ post)) (hj : L.length = j) (hM : j < M.length) : w.frozen? ⟨g, j, none⟩ = false := hB.free (by simp [cv_length]; omega)
theorem Blk.partSet (hB : Blk w g E (cv k (L ++ M.drop j) ++ post)) (hj : L.length = j) (hM : j < M.length) {v : Value} {d : Nat} (hv : v = .int k (d : Int)) :
    Blk (w.setCell ⟨g, j, none⟩ v) g E (cv k ((L ++ [d]) ++ M.drop (j + 1)) ++ post) := by
  subst hv
  rw [← part_set hj hM]
  exact hB.set j _
end

/-- 'make([]T, n)' for numbers of kind k: a new block of n zeros. -/
theorem wpList_make_blk {P : Program} (w : World) {ops : Array Oper} {rest : List Oper} {o : Oper} {a : Act} {Q : Exit → Act → World → Prop}
    (hg : o.guard = none) (l c : Operand) (t : TypeId) (hop : o.op = Op.makeSlice t l c)
    (E : TypeId) (k : IntKind) (by_ : Nat) (h1 : P.underlying t = some (.slice E)) (hrow : (P.info? E).map (fun i => (i.zero, i.size, i.bytes)) = some (some (.int k 0), 1, by_))
    (kl kc : IntKind) (L C : Int) (n : Nat) (hl : a.eval l = .int kl L) (hc : a.eval c = .int kc C) (hL : L = (n : Int)) (hC : C = (n : Int)) (b2 : by_ * n ≤ 281474976710656) (b3 : n ≤ 9223372036854775807)
    (hK : ∀ w', Blk w' w.heap.size E (cv k (List.replicate n 0)) → Below w.heap.size w w' → w'.heap.size = w.heap.size + 1 → wpList P ops Q rest (a.put o.dst (.slice (some ⟨w.heap.size, 0, none⟩) n n)) w') :
    wpList P ops Q (o :: rest) a w := by
  obtain ⟨i, hi, hz, hs, hb⟩ := info_parts hrow
  refine wpList_plain hg fun K hK' => ?_
  subst hL
  subst hC
  have hrun := run_make (P := P) w t E i (.int k 0) h1 hi hz kl kc n n (by omega) (by omega) (by rw [hb]; omega) (by omega)
  unfold Oper.wp
  simp [execOp, hop, hl, hc, hrun, Result.andThen]
  have hB : Blk (w.alloc (.cells (madeCells (Value.int k 0).cells (n * i.size)) E)) w.heap.size E (cv k (List.replicate n 0)) := by
    have := Blk.new w (madeCells (Value.int k 0).cells (n * i.size)) E
    rw [hs, Nat.mul_one] at this ⊢
    have e : (madeCells (Value.int k 0).cells n).toList = cv k (List.replicate n 0) := by
      rw [cv_replicate]
      exact madeCells_int k n
    rwa [e] at this
  exact hK' _ _ (hK _ hB ((Below.refl _ _).alloc (Nat.le_refl _) _) (by simp))

/-- The walk's words for 's == ""' and 's == t'. -/
theorem isEmpty_can (n : Nat) : (can n).toList.isEmpty = decide (n = 0) := by
  rw [ByteArray.toList_eq]
  by_cases h : n = 0
  · subst h
    rfl
  · rw [decide_eq_false h]
    have h1 : can n ≠ ⟨#[]⟩ := fun e => h (can_nil.1 e)
    cases hl : (can n).data.toList with
    | nil =>
      exfalso
      apply h1
      obtain ⟨d, hd⟩ : ∃ d, can n = ⟨d⟩ := ⟨(can n).data, rfl⟩
      rw [hd] at hl ⊢
      congr 1
      exact Array.toList_eq_nil_iff.1 hl
    | cons x l => rfl
theorem isEmpty_pos {n : Nat} (h : n = 0) : (can n).toList.isEmpty = true := by rw [isEmpty_can, decide_eq_true h]
theorem isEmpty_neg {n : Nat} (h : n ≠ 0) : (can n).toList.isEmpty = false := by rw [isEmpty_can, decide_eq_false h]
theorem beq_str {s t : ByteArray} : (s.toList == t.toList) = true ↔ s = t := by
  rw [ByteArray.toList_eq, ByteArray.toList_eq, beq_iff_eq]
  constructor
  · intro h
    exact bts_inj (by unfold bts; rw [h])
  · intro h
    rw [h]
theorem beq_can (m n : Nat) : ((can m).toList == (can n).toList) = decide (m = n) := by
  by_cases h : m = n
  · subst h
    simp
  · rw [decide_eq_false h]
    rcases hb : ((can m).toList == (can n).toList) with _ | _
    · rfl
    · exact absurd (can_inj (beq_str.1 hb)) h

/-- What '[]byte(s)' lays. -/
theorem Blk.bytes (w : World) (s : ByteArray) (c : Nat) (E : TypeId) (n : Nat) (hn : n = (bytesRow s c).size) : Blk (w.alloc (.cells (bytesRow s c) E (n, n + 1))) w.heap.size E (cv .u8 (bts s) ++ List.replicate (c - s.size) (.int .u8 0)) := by
  subst hn
  have e : (w.alloc (.cells (bytesRow s c) E ((bytesRow s c).size, (bytesRow s c).size + 1))).heap[w.heap.size]? = some (.cells (bytesRow s c) E ((bytesRow s c).size, (bytesRow s c).size + 1)) := heap_alloc_new w _
  have l : cv .u8 (bts s) ++ List.replicate (c - s.size) (.int .u8 0) = (bytesRow s c).toList := by
    simp [bytesRow, cv, bts, List.map_map, Function.comp_def]
  refine ⟨((bytesRow s c).size, (bytesRow s c).size + 1), by rw [e, l], fun j hj => ?_⟩
  unfold World.frozen?
  rw [e]
  rw [l] at hj
  simp at hj ⊢
  omega

/-- The string of a block of bytes. -/
theorem run_str_blk {P : Program} {w : World} {g : Nat} {T E src dst : TypeId} {l : List Nat} {post : List Value} (hB : Blk w g T (cv .u8 l ++ post)) (n c : Nat) (hn : n = l.length) (hs : P.underlying src = some (.slice E)) (he : P.underlying E = some (.int .u8)) (hd : P.underlying dst = some .string) :
    (convert src dst (.slice (some ⟨g, 0, none⟩) n c)).run P w = .ok (.string (ofBts l)) w := by
  have h := run_convert_bytes_arg (P := P) w src E hs he g 0 n c (l.map fun (x : Nat) => (x : Int)) (by simp [hn]) (fun i hi => by
    have hil : i < l.length := by omega
    rw [Nat.zero_add, hB.cell (v := .int .u8 (l.getD i 0 : Nat)) (by rw [List.getElem?_append_left (by rw [cv_length]; exact hil)]; exact cv_getElem? .u8 l i hil)]
    simp [hil]) dst hd
  rw [h]
  simp [strOfNums, ofBts, List.map_map, Function.comp_def]
end Go.Proofs.YtmfinfnjamgboaaDoor
