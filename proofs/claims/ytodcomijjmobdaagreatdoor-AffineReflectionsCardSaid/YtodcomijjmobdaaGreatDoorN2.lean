/- Blocks of memory that are known whole, and a few laws of the walk over them. -/
import Derived.Test.YtodcomijjmobdaaGreatDoorChecked
import Derived.Test.YtodcomijjmobdaaGreatDoorN1
import Derived.WalkKit
import Derived.WalkSpells
import Derived.WalkLawsBesides
import Derived.Deep.QuietTactic
import Derived.BigQuiet
import Derived.Lib.Hide
import Derived.Laws.IdiomStrings
import Derived.Deep.RegionWith
set_option linter.unusedVariables false
set_option linter.unusedSimpArgs false
namespace Go.Proofs.YtodcomijjmobdaaGreatDoor
open Go.RowKit

/-- The cells of a list of numbers of kind k. -/
def cv (k : IntKind) (l : List Nat) : List Value := l.map fun (n : Nat) => .int k (n : Int)
theorem cv_length (k : IntKind) (l : List Nat) : (cv k l).length = l.length := by simp [cv]
theorem cv_getElem? (k : IntKind) (l : List Nat) (j : Nat) (h : j < l.length) : (cv k l)[j]? = some (.int k (l.getD j 0 : Nat)) := by
  simp [cv, h]
theorem cv_set (k : IntKind) (l : List Nat) (j n : Nat) : (cv k l).set j (.int k (n : Int)) = cv k (l.set j n) := by simp [cv, List.map_set]
theorem cv_append (k : IntKind) (l m : List Nat) : cv k (l ++ m) = cv k l ++ cv k m := by simp [cv]

/-- Block g holds the cells cs, of element type E; none of them is frozen. -/
def Blk (w : World) (g : Nat) (E : TypeId) (cs : List Value) : Prop := ∃ fz, w.heap[g]? = some (.cells cs.toArray E fz) ∧ ∀ j, j < cs.length → w.frozen? ⟨g, j, none⟩ = false

section
variable {w w' : World} {g : Nat} {E : TypeId} {cs : List Value}
theorem Blk.lt (h : Blk w g E cs) : g < w.heap.size := by
  obtain ⟨fz, h, _⟩ := h
  exact (Array.getElem?_eq_some_iff.1 h).1
theorem Blk.cell (h : Blk w g E cs) {j : Nat} {v : Value} (hv : cs[j]? = some v) : w.cell? ⟨g, j, none⟩ = some v := by
  obtain ⟨fz, h, _⟩ := h
  rw [cell_of_row w g j cs.toArray E fz h]
  simpa using hv
theorem Blk.free (h : Blk w g E cs) {j : Nat} (hj : j < cs.length) : w.frozen? ⟨g, j, none⟩ = false := by
  obtain ⟨fz, _, h⟩ := h
  exact h j hj
theorem Blk.of_block (h : Blk w g E cs) (e : w'.heap[g]? = w.heap[g]?) : Blk w' g E cs := by
  obtain ⟨fz, h1, h2⟩ := h
  exact ⟨fz, e.trans h1, fun j hj => (World.frozen?_of_block (w := w) (a := ⟨g, j, none⟩) e).trans (h2 j hj)⟩
theorem Blk.keep (h : Blk w g E cs) (hb : Below w.heap.size w w') : Blk w' g E cs := h.of_block (hb.block g h.lt)
theorem Blk.drew (h : Blk w g E cs) : Blk w.drew g E cs := h
theorem Blk.drewN (h : Blk w g E cs) (n : Nat) : Blk (w.drewN n) g E cs := h
theorem Blk.alloc (h : Blk w g E cs) (o : Obj) : Blk (w.alloc o) g E cs := h.of_block (Below.heap_alloc w o g h.lt)
theorem Blk.below {B : Nat} (h : Blk w g E cs) (hb : Below B w w') (hg : g < B) : Blk w' g E cs := h.of_block (hb.block g hg)
theorem Blk.grown {row : Option Nat} (h : Blk w g E cs) (hg : w.grownBy w' row) (hr : some g ≠ row) : Blk w' g E cs := h.of_block (hg.block g h.lt hr)
theorem Blk.setOther (h : Blk w g E cs) {p : Addr} (hp : p.block ≠ g) (u : Value) : Blk (w.setCell p u) g E cs := h.of_block (Below.heap_setCell w p u g (fun e => hp e.symm))
theorem Blk.set (h : Blk w g E cs) (j : Nat) (v : Value) : Blk (w.setCell ⟨g, j, none⟩ v) g E (cs.set j v) := by
  obtain ⟨fz, h1, h2⟩ := h
  have e : (w.setCell ⟨g, j, none⟩ v).heap[g]? = some (.cells (cs.set j v).toArray E fz) := by
    simp only [World.setCell, Array.getElem?_modify, if_pos, h1, Option.map_some]
    simp
  refine ⟨fz, e, fun i hi => ?_⟩
  have h3 := h2 i (by simpa using hi)
  simp only [World.frozen?, e, h1] at h3 ⊢
  simpa using h3
theorem Blk.new (w : World) (cs : Array Value) (E : TypeId) : Blk (w.alloc (.cells cs E)) w.heap.size E cs.toList := by
  have e : (w.alloc (.cells cs E)).heap[w.heap.size]? = some (.cells cs E) := heap_alloc_new w _
  refine ⟨(0, 0), by rw [e], fun j hj => ?_⟩
  unfold World.frozen?
  rw [e]
  simp
end

theorem cv_replicate (k : IntKind) (n : Nat) : cv k (List.replicate n 0) = List.replicate n (.int k 0) := by simp [cv]
theorem madeCells_int (k : IntKind) (n : Nat) : (madeCells #[.int k 0] n).toList = List.replicate n (.int k 0) := by
  simp only [madeCells]
  apply List.ext_getElem (by simp)
  intro i h1 h2
  simp [Nat.mod_one]

theorem zeros_at {k : IntKind} {L : List Nat} {m j : Nat} (hj : L.length = j) (hm : 0 < m) : (cv k (L ++ List.replicate m 0))[j]? = some (.int k 0) := by
  rw [cv_getElem? k _ j (by simp; omega)]
  simp only [List.getD_eq_getElem?_getD]
  rw [List.getElem?_append_right (by omega), List.getElem?_replicate, if_pos (by omega)]
  rfl
theorem zeros_set {k : IntKind} {L : List Nat} {m j d : Nat} (hj : L.length = j) (hm : 0 < m) : (cv k (L ++ List.replicate m 0)).set j (.int k (d : Int)) = cv k ((L ++ [d]) ++ List.replicate (m - 1) 0) := by
  rw [cv_set, List.set_append_right _ _ (by omega)]
  obtain ⟨m, rfl⟩ : ∃ m', m = m' + 1 := ⟨m - 1, by omega⟩
  rw [hj, Nat.sub_self, List.replicate_succ, List.set_cons_zero]
  simp
section
variable {w : World} {g : Nat} {E : TypeId} {k : IntKind} {L : List Nat} {m j : Nat}
/-- A block that is filled from its beginning on: the next cell, still zero. -/
theorem Blk.next (hB : Blk w g E (cv k (L ++ List.replicate m 0))) (hj : L.length = j) (hm : 0 < m) : w.cell? ⟨g, j, none⟩ = some (.int k 0) := hB.cell (zeros_at hj hm)
theorem Blk.nextFree (hB : Blk w g E (cv k (L ++ List.replicate m 0))) (hj : L.length = j) (hm : 0 < m) : w.frozen? ⟨g, j, none⟩ = false := hB.free (by rw [cv_length]; simp; omega)
theorem Blk.push (hB : Blk w g E (cv k (L ++ List.replicate m 0))) (hj : L.length = j) (hm : 0 < m) {v : Value} {d m' : Nat} (hv : v = .int k (d : Int)) (hm' : m' = m - 1) :
    Blk (w.setCell ⟨g, j, none⟩ v) g E (cv k ((L ++ [d]) ++ List.replicate m' 0)) := by
  subst hv hm'
  rw [← zeros_set hj hm]
  exact hB.set j _
end

theorem part_at {k : IntKind} {L M : List Nat} {post : List Value} {j : Nat} (hj : L.length = j) (hM : j < M.length) : (cv k (L ++ M.drop j) ++ post)[j]? = some (.int k (M.getD j 0 : Nat)) := by
  rw [List.getElem?_append_left (by rw [cv_length]; simp; omega), cv_getElem? k _ j (by simp; omega)]
  simp [List.getD_eq_getElem?_getD, List.getElem?_append_right (show L.length ≤ j by omega), hj]
theorem part_set {k : IntKind} {L M : List Nat} {post : List Value} {j d : Nat} (hj : L.length = j) (hM : j < M.length) : (cv k (L ++ M.drop j) ++ post).set j (.int k (d : Int)) = cv k ((L ++ [d]) ++ M.drop (j + 1)) ++ post := by
  rw [List.set_append_left _ _ (by rw [cv_length]; simp; omega), cv_set, List.set_append_right _ _ (by omega), hj, Nat.sub_self, List.drop_eq_getElem_cons hM, List.set_cons_zero]
  simp
section
variable {w : World} {g : Nat} {E : TypeId} {k : IntKind} {L M : List Nat} {post : List Value} {j : Nat}
/-- A block that is changed from its beginning on. -/
theorem Blk.partAt (hB : Blk w g E (cv k (L ++ M.drop j) ++ post)) (hj : L.length = j) (hM : j < M.length) : w.cell? ⟨g, j, none⟩ = some (.int k (M.getD j 0 : Nat)) := hB.cell (part_at hj hM)
theorem Blk.partFree (hB : Blk w g E (cv k (L ++ M.drop j) ++ post)) (hj : L.length = j) (hM : j < M.length) : w.frozen? ⟨g, j, none⟩ = false := hB.free (by simp [cv_length]; omega)
theorem Blk.partSet (hB : Blk w g E (cv k (L ++ M.drop j) ++ post)) (hj : L.length = j) (hM : j < M.length) {v : Value} {d : Nat} (hv : v = .int k (d : Int)) :
    Blk (w.setCell ⟨g, j, none⟩ v) g E (cv k ((L ++ [d]) ++ M.drop (j + 1)) ++ post) := by
  subst hv
  rw [← part_set hj hM]
  exact hB.set j _
end

/-- 'make([]T, n)' for numbers of kind k: a new block of n zeros. -/
theorem wpList_make_blk {P : Program} (w : World) {ops : Array Oper} {rest : List Oper} {o : Oper} {a : Act} {Q : Exit → Act → World → Prop}
    (hg : o.guard = none) (l c : Operand) (t : TypeId) (hop : o.op = Op.makeSlice t l c)
    (E : TypeId) (k : IntKind) (by_ : Nat) (h1 : P.underlying t = some (.slice E)) (hrow : (P.info? E).map (fun i => (i.zero, i.size, i.bytes)) = some (some (.int k 0), 1, by_))
    (kl kc : IntKind) (L C : Int) (n : Nat) (hl : a.eval l = .int kl L) (hc : a.eval c = .int kc C) (hL : L = (n : Int)) (hC : C = (n : Int)) (b2 : by_ * n ≤ 281474976710656) (b3 : n ≤ 9223372036854775807)
    (hK : ∀ w', Blk w' w.heap.size E (cv k (List.replicate n 0)) → Below w.heap.size w w' → w'.heap.size = w.heap.size + 1 → wpList P ops Q rest (a.put o.dst (.slice (some ⟨w.heap.size, 0, none⟩) n n)) w') :
    wpList P ops Q (o :: rest) a w := by
  obtain ⟨i, hi, hz, hs, hb⟩ := info_parts hrow
  refine wpList_plain hg fun K hK' => ?_
  subst hL
  subst hC
  have hrun := run_make (P := P) w t E i (.int k 0) h1 hi hz kl kc n n (by omega) (by omega) (by rw [hb]; omega) (by omega)
  unfold Oper.wp
  simp [execOp, hop, hl, hc, hrun, Result.andThen]
  have hB : Blk (w.alloc (.cells (madeCells (Value.int k 0).cells (n * i.size)) E)) w.heap.size E (cv k (List.replicate n 0)) := by
    have := Blk.new w (madeCells (Value.int k 0).cells (n * i.size)) E
    rw [hs, Nat.mul_one] at this ⊢
    have e : (madeCells (Value.int k 0).cells n).toList = cv k (List.replicate n 0) := by
      rw [cv_replicate]
      exact madeCells_int k n
    rwa [e] at this
  exact hK' _ _ (hK _ hB ((Below.refl _ _).alloc (Nat.le_refl _) _) (by simp))

/-- The walk's words for 's == ""' and 's == t'. -/
theorem isEmpty_can (n : Nat) : (can n).toList.isEmpty = decide (n = 0) := by
  rw [ByteArray.toList_eq]
  by_cases h : n = 0
  · subst h
    rfl
  · rw [decide_eq_false h]
    have h1 : can n ≠ ⟨#[]⟩ := fun e => h (can_nil.1 e)
    cases hl : (can n).data.toList with
    | nil =>
      exfalso
      apply h1
      obtain ⟨d, hd⟩ : ∃ d, can n = ⟨d⟩ := ⟨(can n).data, rfl⟩
      rw [hd] at hl ⊢
      congr 1
      exact Array.toList_eq_nil_iff.1 hl
    | cons x l => rfl
theorem isEmpty_pos {n : Nat} (h : n = 0) : (can n).toList.isEmpty = true := by rw [isEmpty_can, decide_eq_true h]
theorem isEmpty_neg {n : Nat} (h : n ≠ 0) : (can n).toList.isEmpty = false := by rw [isEmpty_can, decide_eq_false h]
/-- What '[]byte(s)' lays. -/
theorem Blk.bytes (w : World) (s : ByteArray) (c : Nat) (E : TypeId) (n : Nat) (hn : n = (bytesRow s c).size) : Blk (w.alloc (.cells (bytesRow s c) E (n, n + 1))) w.heap.size E (cv .u8 (bts s) ++ List.replicate (c - s.size) (.int .u8 0)) := by
  subst hn
  have e : (w.alloc (.cells (bytesRow s c) E ((bytesRow s c).size, (bytesRow s c).size + 1))).heap[w.heap.size]? = some (.cells (bytesRow s c) E ((bytesRow s c).size, (bytesRow s c).size + 1)) := heap_alloc_new w _
  have l : cv .u8 (bts s) ++ List.replicate (c - s.size) (.int .u8 0) = (bytesRow s c).toList := by
    simp [bytesRow, cv, bts, List.map_map, Function.comp_def]
  refine ⟨((bytesRow s c).size, (bytesRow s c).size + 1), by rw [e, l], fun j hj => ?_⟩
  unfold World.frozen?
  rw [e]
  rw [l] at hj
  simp at hj ⊢
  omega

/-- The string of a block of bytes. -/
theorem run_str_blk {P : Program} {w : World} {g : Nat} {T E src dst : TypeId} {l : List Nat} {post : List Value} (hB : Blk w g T (cv .u8 l ++ post)) (n c : Nat) (hn : n = l.length) (hs : P.underlying src = some (.slice E)) (he : P.underlying E = some (.int .u8)) (hd : P.underlying dst = some .string) :
    (convert src dst (.slice (some ⟨g, 0, none⟩) n c)).run P w = .ok (.string (ofBts l)) w := by
  have h := run_convert_bytes_arg (P := P) w src E hs he g 0 n c (l.map fun (x : Nat) => (x : Int)) (by simp [hn]) (fun i hi => by
    have hil : i < l.length := by omega
    rw [Nat.zero_add, hB.cell (v := .int .u8 (l.getD i 0 : Nat)) (by rw [List.getElem?_append_left (by rw [cv_length]; exact hil)]; exact cv_getElem? .u8 l i hil)]
    simp [hil]) dst hd
  rw [h]
  simp [strOfNums, ofBts, List.map_map, Function.comp_def]
end Go.Proofs.YtodcomijjmobdaaGreatDoor

/- Slices of numbers that the call itself makes and appends to. -/
namespace Go.Proofs.YtodcomijjmobdaaGreatDoor
open Go.RowKit

/-- v is a slice of the numbers L, of kind k, in memory from block 'base' on. -/
def Own (w : World) (base : Nat) (E : TypeId) (k : IntKind) (v : Value) (L : List Nat) : Prop := w.ownsRow base E 1 v L.length (cv k L)

section
variable {P : Program} {w w' : World} {base : Nat} {E : TypeId} {k : IntKind} {v : Value} {L : List Nat}
theorem Own.nil (w : World) (base : Nat) (E : TypeId) (k : IntKind) : Own w base E k (.slice none 0 0) [] := World.ownsRow_nil w base E 1
theorem Own.drew (h : Own w base E k v L) : Own w.drew base E k v L := h
theorem Own.drewN (h : Own w base E k v L) (n : Nat) : Own (w.drewN n) base E k v L := h
theorem Own.alloc (h : Own w base E k v L) (o : Obj) : Own (w.alloc o) base E k v L := World.ownsRow.alloc h o
theorem Own.below (h : Own w base E k v L) (hb : Below w.heap.size w w') : Own w' base E k v L :=
  World.ownsRow.kept (row := none) h ⟨hb.os, hb.tape, hb.output, hb.size, fun i hi _ => hb.block i hi⟩ (by cases v.ownBlock <;> simp)
/-- An empty row that was made. -/
theorem Own.made (w : World) (cs : Array Value) (n : Nat) (hn : cs.size = n) (hb : base ≤ w.heap.size) (hm : n ≤ 1000000) : Own (w.alloc (.cells cs E)) base E k (.slice (some ⟨w.heap.size, 0, none⟩) 0 n) [] :=
  World.ownsRow_made (e := E) (size := 1) w cs n hb (by simp [maxLen]; omega) (by omega)

/-- The string of what is owned. -/
theorem run_str_own (h : Own w base E .u8 v L) {src dst : TypeId} (hs : P.underlying src = some (.slice E)) (he : P.underlying E = some (.int .u8)) (hd : P.underlying dst = some .string) :
    (convert src dst v).run P w = .ok (.string (ofBts L)) w := by
  obtain ⟨_, h⟩ := h
  rcases h with ⟨rfl, hn⟩ | ⟨g, cap, cur, rfl, _, hg, hn, _, hsz, ht⟩
  · obtain rfl : L = [] := List.eq_nil_of_length_eq_zero hn
    exact run_convert_bytes_nil w src E hs he 0 0 dst hd
  · have hB : Blk w g E (cv .u8 L ++ cur.toList.drop (L.length * 1)) := by
      rw [← ht, List.take_append_drop]
      refine ⟨(0, 0), by rw [hg], fun j _ => ?_⟩
      unfold World.frozen?
      rw [hg]
      simp
    exact run_str_blk hB _ _ rfl hs he hd

theorem wpList_push {ops : Array Oper} {rest : List Oper} {o : Oper} {a : Act} {Q : Exit → Act → World → Prop} (w : World) (hgd : o.guard = none) (s x : Operand) (t : TypeId)
    (ho : o.op = .call { callee := .builtin .append, args := #[s, x], argTypes := #[t, t] })
    (base : Nat) (E : TypeId) (k : IntKind) (by_ : Nat) (ht : P.underlying t = some (.slice E)) (hrow : (P.info? E).map (fun i => (i.zero, i.size, i.bytes)) = some (some (.int k 0), 1, by_))
    (v : Value) (L : List Nat) (hs : a.eval s = v) (hown : Own w base E k v L) (ad : Addr) (c : Nat) (hx : a.eval x = .slice (some ad) 1 c) (d : Nat) (hc : w.cell? ad = some (.int k (d : Int)))
    (hlen : L.length ≤ 17179869184) (hby : by_ ≤ 8) (hbase : base ≤ w.heap.size)
    (h : ∀ v' w', Own w' base E k v' (L ++ [d]) → w.grownBy w' v.ownBlock → Below base w w' → wpList P ops Q rest (a.put o.dst v') w') : wpList P ops Q (o :: rest) a w := by
  obtain ⟨i, hi, hz, hsz, hb⟩ := info_parts hrow
  refine wpList_append_own w hgd s x t ho base E i (.int k 0) 1 by_ ht hi hz hsz hb rfl (by decide) v L.length (cv k L) hs hown ad 1 c [.int k (d : Int)] hx rfl ?_ ?_ (by simp [maxLen]; omega) ?_ hbase ?_
  · intro j u hj
    match j, hj with
    | 0, hj =>
      simp at hj
      subst hj
      simpa [Addr.add] using hc
  · intro u hu
    simp at hu
    subst hu
    rfl
  · have : (L.length + 1) * by_ ≤ (L.length + 1) * 8 := Nat.mul_le_mul_left _ hby
    omega
  · intro v' w' h1 h2 _
    refine h v' w' ?_ h2 ((Below.refl base w).grown h2 hbase (fun b hb => (hown.lt b hb).1))
    unfold Own
    rw [cv_append]
    simpa [cv] using h1
end
end Go.Proofs.YtodcomijjmobdaaGreatDoor

/- nat.Normalize and voussoirref01.Norm return the canonical string of the number. -/
namespace Go.Proofs.YtodcomijjmobdaaGreatDoor
open Go.RowKit

theorem byte_ne {a : ByteArray} {j : Nat} (h : j < a.size) (h0 : ((a[j].toNat : Int) != 0) = true) : a[j] ≠ 0 := by
  intro e
  rw [e] at h0
  revert h0
  decide
theorem byte_eq {a : ByteArray} {j : Nat} (h : j < a.size) (h0 : ((a[j].toNat : Int) != 0) = false) : a[j] = 0 := by
  apply UInt8.toNat_inj.1
  have h1 : (a[j].toNat : Int) = 0 := by simpa using h0
  have h2 : a[j].toNat = 0 := by omega
  rw [h2]
  rfl
theorem zeros_step {a : ByteArray} {k : Nat} (hk : k < a.size) (hz : ∀ j, (h : j < a.size) → a.size - k ≤ j → a[j] = 0) (h0 : a[a.size - k - 1] = 0) : ∀ j, (h : j < a.size) → a.size - (k + 1) ≤ j → a[j] = 0 := by
  intro j h hj
  by_cases e : j = a.size - k - 1
  · subst e; exact h0
  · exact hz j h (by omega)

theorem zeros_down {a : ByteArray} {k : Nat} (hk : k ≤ a.size) (h1 : 0 < k) (hz : ∀ j, (h : j < a.size) → k ≤ j → a[j] = 0) (h0 : a[k - 1] = 0) : ∀ j, (h : j < a.size) → k - 1 ≤ j → a[j] = 0 := by
  intro j h hj
  by_cases e : j = k - 1
  · subst e; exact h0
  · exact hz j h (by omega)

set_option maxHeartbeats 400000 in
theorem Normalize_any (a : ByteArray) (w : World) (ha : a.size ≤ maxLen) :
    Calls Tryz.prog 140 #[.string a] w fun e w' => e = .returned (.string (can (nat a))) ∧ w = w' := by
  unfold maxLen at ha
  go_enter Tryz.func140, Tryz.ntmps140
  go_wp2
  go_loop [3, 4, 7] (fun _ _ i => ∃ k : Nat, k ≤ a.size ∧ i = .int .i64 k ∧ ∀ j, (h : j < a.size) → a.size - k ≤ j → a[j] = 0) (fun _ _ i => a.size - (intOf i).toNat)
  case atStart => exact ⟨0, Nat.zero_le _, rfl, fun j h hj => by omega⟩
  case round =>
    obtain ⟨k, hk, rfl, hz⟩ := hrel
    by_cases hlt : k < a.size
    · go_wp2
      · go_ret
        have h0 : ((a[a.size - k - 1].toNat : Int) != 0) = true := by assumption
        refine ⟨?_, rfl⟩
        show Ending.returned (Value.string (a.extract 0 (a.size - k))) = _
        rw [extract_can a (a.size - k) (by omega) hz (.inr ⟨by omega, byte_ne (by omega) h0⟩)]
      · go_round
        have h0 : ((a[a.size - k - 1].toNat : Int) != 0) = false := by assumption
        case rel => exact ⟨k + 1, by omega, by go_num, zeros_step hlt hz (byte_eq (by omega) h0)⟩
        case measure => simp [intOf]; omega
    · go_wp2
      go_ret
      refine ⟨?_, rfl⟩
      rw [zero_can a (fun j h => hz j h (by omega))]
      rfl

set_option maxHeartbeats 400000 in
theorem Norm_any (a : ByteArray) (w : World) (ha : a.size ≤ maxLen) :
    Calls Tryz.prog 102 #[.string a] w fun e w' => e = .returned (.string (can (nat a))) ∧ w = w' := by
  unfold maxLen at ha
  go_enter Tryz.func102, Tryz.ntmps102
  go_wp2
  go_loop [3] (fun i => ∃ k : Nat, k ≤ a.size ∧ i = .int .i64 k ∧ ∀ j, (h : j < a.size) → k ≤ j → a[j] = 0) (fun i => (intOf i).toNat)
  case atStart => exact ⟨a.size, Nat.le_refl _, rfl, fun j h hj => by omega⟩
  case round =>
    obtain ⟨k, hk, rfl, hz⟩ := hrel
    by_cases hlt : 0 < k
    · go_wp2
      · go_round
        have h0 : ((a[k - 1].toNat : Int) == 0) = true := by assumption
        case rel => exact ⟨k - 1, by omega, by go_num, zeros_down hk hlt hz (byte_eq (by omega) (by rw [bne, h0]; rfl))⟩
        case measure => simp [intOf]; omega
      · go_ret
        have h0 : ((a[k - 1].toNat : Int) == 0) = false := by assumption
        refine ⟨?_, rfl⟩
        show Ending.returned (Value.string (a.extract 0 k)) = _
        rw [extract_can a k (by omega) hz (.inr ⟨by omega, byte_ne (by omega) (by rw [bne, h0]; rfl)⟩)]
    · go_wp2
      go_ret
      refine ⟨?_, rfl⟩
      show Ending.returned (Value.string (a.extract 0 k)) = _
      rw [extract_can a k (by omega) hz (.inl (by omega))]
end Go.Proofs.YtodcomijjmobdaaGreatDoor

/- nat.Cmp and voussoirref01.Cmp compare the numbers. -/
namespace Go.Proofs.YtodcomijjmobdaaGreatDoor
open Go.RowKit NM

/-- What cmp.Compare says of two numbers. -/
def sgn (a b : Int) : Int := if a < b then -1 else if b < a then 1 else 0
theorem sgn_lt {a b : Int} (h : a < b) : sgn a b = -1 := if_pos h
theorem sgn_gt {a b : Int} (h : b < a) : sgn a b = 1 := by unfold sgn; rw [if_neg (by omega), if_pos h]
theorem sgn_self (a : Int) : sgn a a = 0 := by unfold sgn; rw [if_neg (by omega), if_neg (by omega)]
theorem ret_int {k : IntKind} {a b : Int} (h : a = b) : Ending.returned (.int k a) = .returned (.int k b) := by rw [h]

/-- A contract that leaves the world alone, met behind draws in a quiet region. -/
theorem quietly {P : Program} {f : FuncId} {args : Array Value} {w W : World} {m : Nat} {v : Value} (h : Calls P f args (w.drewN m) fun e w' => e = .returned v ∧ w.drewN m = w') (hW : W = w.drewN m := by rfl) :
    Calls P f args W fun e w'' => e = .returned v ∧ ∃ k, w'' = w.drewN k := by
  subst hW
  exact h.mono fun _ _ ⟨he, hm⟩ => ⟨he, m, hm.symm⟩

set_option maxHeartbeats 400000 in
theorem CompareInt_any (a b : Int) (w : World) :
    Calls Tryz.prog 153 #[.int .i64 a, .int .i64 b] w fun e w' => e = .returned (.int .i64 (sgn a b)) ∧ w = w' := by
  rcases Int.lt_trichotomy a b with h | h | h
  · go_enter Tryz.func153, Tryz.ntmps153
    go_wp2
    go_ret
    exact ⟨ret_int (sgn_lt h).symm, rfl⟩
  · subst h
    go_enter Tryz.func153, Tryz.ntmps153
    go_wp2
    go_ret
    exact ⟨ret_int (sgn_self a).symm, rfl⟩
  · go_enter Tryz.func153, Tryz.ntmps153
    go_wp2
    go_ret
    exact ⟨ret_int (sgn_gt h).symm, rfl⟩

set_option maxHeartbeats 400000 in
theorem CompareByte_any (a b : Int) (w : World) :
    Calls Tryz.prog 154 #[.int .u8 a, .int .u8 b] w fun e w' => e = .returned (.int .i64 (sgn a b)) ∧ w = w' := by
  rcases Int.lt_trichotomy a b with h | h | h
  · go_enter Tryz.func154, Tryz.ntmps154
    go_wp2
    go_ret
    exact ⟨ret_int (sgn_lt h).symm, rfl⟩
  · subst h
    go_enter Tryz.func154, Tryz.ntmps154
    go_wp2
    go_ret
    exact ⟨ret_int (sgn_self a).symm, rfl⟩
  · go_enter Tryz.func154, Tryz.ntmps154
    go_wp2
    go_ret
    exact ⟨ret_int (sgn_gt h).symm, rfl⟩

theorem can_size_le_size (a : ByteArray) : (can (nat a)).size ≤ a.size := can_size_le (nat_lt a)

def CmpPost (m n : Nat) (w : World) (e : Ending) (w' : World) : Prop := e = .returned (.int .i64 (cmpN m n)) ∧ Below w.heap.size w w'

theorem cmp_size {m n : Nat} (h : ¬ (can m).size = (can n).size) : Ending.returned (.int .i64 (sgn ((can m).size : Int) ((can n).size : Int))) = .returned (.int .i64 (cmpN m n)) := by
  apply ret_int
  rcases Nat.lt_or_ge (can m).size (can n).size with h1 | h1
  · rw [sgn_lt (by omega), cmpN_lt (lt_of_size h1)]
  · rw [sgn_gt (by omega), cmpN_gt (lt_of_size (by omega))]
theorem cmp_round {m n : Nat} (he : (can m).size = (can n).size) {k i : Nat} (b2 : i < (can m).size) (b3 : i < (can n).size) (_b4 : k + i + 1 ≤ (can m).size) (b5 : (can m).size ≤ k + i + 1)
    (ht : ∀ j, (can m).size - k ≤ j → (bts (can m)).getD j 0 = (bts (can n)).getD j 0) (h : (can m)[i].toNat = (can n)[i].toNat) : ∀ j, (can m).size - (k + 1) ≤ j → (bts (can m)).getD j 0 = (bts (can n)).getD j 0 := by
  intro j hj
  exact top_step b2 b3 (fun j hj => ht j (by omega)) h j (by omega)
theorem cmp_part {m n : Nat} (he : (can m).size = (can n).size) {k i : Nat} (b2 : i < (can m).size) (b3 : i < (can n).size) (b5 : (can m).size ≤ k + i + 1)
    (ht : ∀ j, (can m).size - k ≤ j → (bts (can m)).getD j 0 = (bts (can n)).getD j 0) (h : ¬ (can m)[i].toNat = (can n)[i].toNat) :
    Ending.returned (.int .i64 (sgn ((can m)[i].toNat : Int) ((can n)[i].toNat : Int))) = .returned (.int .i64 (cmpN m n)) := by
  apply ret_int
  have top : Top (can m) (can n) i := fun j hj => ht j (by omega)
  rcases Nat.lt_or_ge (can m)[i].toNat (can n)[i].toNat with h1 | h1
  · rw [sgn_lt (by omega), cmpN_lt (top_lt he b2 b3 top h1)]
  · rw [sgn_gt (by omega), cmpN_gt (top_lt he.symm b3 b2 (fun j hj => (top j hj).symm) (by omega))]

set_option maxHeartbeats 400000 in
theorem Cmp_any (a b : ByteArray) (w : World) (ha : a.size ≤ maxLen) (hb : b.size ≤ maxLen) :
    Calls Tryz.prog 147 #[.string a, .string b] w (CmpPost (nat a) (nat b) w) := by
  have hsz : (can (nat a)).size ≤ 9223372036854775807 := by have := can_size_le_size a; unfold maxLen at ha; omega
  have htz : (can (nat b)).size ≤ 9223372036854775807 := by have := can_size_le_size b; unfold maxLen at hb; omega
  by_cases hne : (can (nat a)).size = (can (nat b)).size
  · have Hne := Lib.hid hne
    have hle : (can (nat a)).size ≤ (can (nat b)).size := by omega
    have hge : (can (nat b)).size ≤ (can (nat a)).size := by omega
    clear hne
    have hn0 : (((can (nat a)).size : Int) != ((can (nat b)).size : Int)) = false := by rw [Hne.out]; simp
    go_enter Tryz.func147, Tryz.ntmps147
    go_wp2_with (go_at_call 140; refine (Normalize_any _ _ (by assumption)).mono ?_; rintro e w' ⟨rfl, rfl⟩)
    go_loopw [5, 6, 23] (fun _ _ i wr => ∃ k : Nat, k ≤ (can (nat a)).size ∧ i = .int .i64 k ∧ (∀ j, (can (nat a)).size - k ≤ j → (bts (can (nat a))).getD j 0 = (bts (can (nat b))).getD j 0) ∧ Below w.heap.size w wr) (fun _ _ i _ => (can (nat a)).size - (intOf i).toNat)
    case atStart => exact ⟨0, Nat.zero_le _, rfl, fun j hj => by rw [bts_getD_out _ j (by omega), bts_getD_out _ j (by omega)], Below.refl _ _⟩
    case round =>
      obtain ⟨k, hk, rfl, ht, hb⟩ := hrel
      by_cases hlt : k < (can (nat a)).size
      · obtain ⟨i, hi⟩ : ∃ i : Nat, i = (can (nat a)).size - 1 - k := ⟨_, rfl⟩
        have e : (((can (nat a)).size : Int) - 1 - (k : Int)) = (i : Int) := by omega
        have b2 : i < (can (nat a)).size := by omega
        have b3 : i < (can (nat b)).size := by omega
        have b4 : k + i + 1 ≤ (can (nat a)).size := by omega
        have b5 : (can (nat a)).size ≤ k + i + 1 := by omega
        clear hi
        have Ht := Lib.hid ht
        clear ht
        by_cases heq : (can (nat a))[i].toNat = (can (nat b))[i].toNat
        · have hq : (((can (nat a))[i].toNat : Int) != ((can (nat b))[i].toNat : Int)) = false := by rw [heq]; simp
          have Heq := Lib.hid heq
          clear heq
          go_wp2
          go_quiet (fail)
          go_wp2
          go_roundw
          case rel => exact ⟨k + 1, by omega, by go_num, cmp_round Hne.out b2 b3 b4 b5 Ht.out Heq.out, by exact below_drewN hb _⟩
          case measure => simp [intOf]; omega
        · have hq : (((can (nat a))[i].toNat : Int) != ((can (nat b))[i].toNat : Int)) = true := by simp; omega
          have Heq := Lib.hid heq
          clear heq
          go_wp2
          go_quiet (fail)
          have hb1 : Below w.heap.size w (wr.drewN nq) := below_drewN hb _
          generalize wr.drewN nq = W1 at hb1 ⊢
          clear hb
          go_wp2
          go_quiet ((go_at_call 154; exact quietly (CompareByte_any _ _ _)))
          go_wp2
          go_ret
          exact ⟨cmp_part Hne.out b2 b3 b5 Ht.out Heq.out, by exact below_drewN hb1 _⟩
      · go_wp2
        go_ret
        exact ⟨ret_int (cmpN_eq (top_eq Hne.out (fun j => ht j (by omega)))).symm, hb⟩
  · go_enter Tryz.func147, Tryz.ntmps147
    have hn0 : (((can (nat a)).size : Int) != ((can (nat b)).size : Int)) = true := by simp; omega
    go_wp2_with (first | (go_at_call 140; refine (Normalize_any _ _ (by assumption)).mono ?_; rintro e w' ⟨rfl, rfl⟩) | (go_at_call 153; refine (CompareInt_any _ _ _).mono ?_; rintro e w' ⟨rfl, rfl⟩))
    go_ret
    exact ⟨cmp_size hne, Below.refl _ _⟩
end Go.Proofs.YtodcomijjmobdaaGreatDoor

/- nat.Add, nat.Sub and the reference's. -/
namespace Go.Proofs.YtodcomijjmobdaaGreatDoor
open Go.RowKit NM

theorem row_u8 : (Tryz.prog.info? 5).map (fun i => (i.zero, i.size, i.bytes)) = some (some (.int .u8 0), 1, 1) := by kernel_rfl

theorem add_end {a b : ByteArray} {L : List Nat} {x : Nat} (hL : NM.lt 256 L) (hLk : L.length = a.size) (hx : x < 256) (hab : b.size ≤ a.size) (hv : val 256 L + 256 ^ a.size * x = val 256 ((bts a).take a.size) + val 256 ((bts b).take a.size)) :
    Ending.returned (.string (can (nat (ofBts (L ++ [x]))))) = .returned (.string (can (nat a + nat b))) := by
  rw [nat_ofBts (lt_snoc hL hx), val_snoc, hLk, hv, List.take_of_length_le (by rw [bts_length]; omega), List.take_of_length_le (by rw [bts_length]; omega)]
  rfl

set_option maxHeartbeats 400000 in
theorem Add_le (a b : ByteArray) (w : World) (ha : a.size ≤ 4294967296) (hab : b.size ≤ a.size) :
    Calls Tryz.prog 129 #[.string a, .string b] w fun e w' => e = .returned (.string (can (nat a + nat b))) ∧ Below w.heap.size w w' := by
  go_enter Tryz.func129, Tryz.ntmps129
  go_wp2_with (at_make; refine wpList_make_blk _ rfl _ _ 129 rfl 5 .u8 1 Tryz.underlying129 row_u8 _ _ _ _ (a.size + 1) rfl rfl (by omega) (by omega) (by omega) (by omega) ?_; intro w1 hB hb1 hs1)
  go_loopw [6, 7, 21] (fun c _ i wr => ∃ (k : Nat) (L : List Nat) (x : Nat), k ≤ a.size ∧ i = .int .i64 k ∧ c = .int .i64 x ∧ x ≤ 1 ∧ NM.lt 256 L ∧ L.length = k ∧ val 256 L + 256 ^ k * x = val 256 ((bts a).take k) + val 256 ((bts b).take k) ∧ Blk wr w.heap.size 5 (cv .u8 (L ++ List.replicate (a.size + 1 - k) 0)) ∧ Below w.heap.size w wr) (fun _ _ i _ => a.size - (intOf i).toNat)
  case atStart => exact ⟨0, [], 0, Nat.zero_le _, rfl, rfl, by omega, by intro x hx; simp at hx, rfl, by simp [val], by simpa using hB, hb1⟩
  case round =>
    obtain ⟨k, L, x, hk, rfl, rfl, hx, hL, hLk, hv, hBr, hbr⟩ := hrel
    clear hB hb1 hs1
    have Hv := Lib.hid hv
    have HLk := Lib.hid hLk
    by_cases hlt : k < a.size
    · have hcell := hBr.next hLk (by omega)
      have hfree := hBr.nextFree hLk (by omega)
      clear hv hLk
      have b1 := UInt8.toNat_lt a[k]
      by_cases hlb : k < b.size
      · have b2 := UInt8.toNat_lt b[k]
        go_wp2
        go_roundw
        case rel => exact ⟨k + 1, L ++ [(x + a[k].toNat + b[k].toNat) % 256], (x + a[k].toNat + b[k].toNat) / 256, by omega, by go_num, by go_num, by omega, lt_snoc hL (by omega), by rw [List.length_append, HLk.out]; rfl,
          sum_round HLk.out Hv.out (by rw [bts_getD a k hlt, bts_getD b k hlb]; omega), hBr.push HLk.out (by omega) (by go_num) (by omega), hbr.setCell (Nat.le_refl _) _⟩
        case measure => simp [intOf]; omega
      · go_wp2
        go_roundw
        case rel => exact ⟨k + 1, L ++ [(x + a[k].toNat) % 256], (x + a[k].toNat) / 256, by omega, by go_num, by go_num, by omega, lt_snoc hL (by omega), by rw [List.length_append, HLk.out]; rfl,
          sum_round HLk.out Hv.out (by rw [bts_getD a k hlt, bts_getD_out b k (by omega)]; omega), hBr.push HLk.out (by omega) (by go_num) (by omega), hbr.setCell (Nat.le_refl _) _⟩
        case measure => simp [intOf]; omega
    · have hcell := hBr.next hLk (by omega)
      have hfree := hBr.nextFree hLk (by omega)
      obtain rfl : a.size = k := by omega
      have hst := run_str_blk (P := Tryz.prog) (src := 129) (dst := 9) (l := L ++ [x]) (post := []) (by rw [List.append_nil]; have := hBr.push hLk (by omega) (v := .int .u8 x) (d := x) (m' := 0) rfl (by omega); rwa [List.replicate_zero, List.append_nil] at this) (a.size + 1) (a.size + 1) (by rw [List.length_append, hLk]; rfl) Tryz.underlying129 Tryz.underlying5 Tryz.underlying9
      clear hv hLk
      go_wp2_with (go_at_call 140; refine (Normalize_any _ _ (by rw [size_ofBts, List.length_append, HLk.out]; simp [maxLen]; omega)).mono ?_; rintro e w' ⟨rfl, rfl⟩)
      go_ret
      exact ⟨add_end hL HLk.out (by omega) hab Hv.out, hbr.setCell (Nat.le_refl _) _⟩

set_option maxHeartbeats 400000 in
theorem Add_gt (a b : ByteArray) (w : World) (hb : b.size ≤ 4294967296) (hba : a.size < b.size) :
    Calls Tryz.prog 129 #[.string a, .string b] w fun e w' => e = .returned (.string (can (nat a + nat b))) ∧ Below w.heap.size w w' := by
  rw [Nat.add_comm (nat a)]
  go_enter Tryz.func129, Tryz.ntmps129
  go_wp2_with (at_make; refine wpList_make_blk _ rfl _ _ 129 rfl 5 .u8 1 Tryz.underlying129 row_u8 _ _ _ _ (b.size + 1) rfl rfl (by omega) (by omega) (by omega) (by omega) ?_; intro w1 hB hb1 hs1)
  go_loopw [6, 7, 21] (fun c _ i wr => ∃ (k : Nat) (L : List Nat) (x : Nat), k ≤ b.size ∧ i = .int .i64 k ∧ c = .int .i64 x ∧ x ≤ 1 ∧ NM.lt 256 L ∧ L.length = k ∧ val 256 L + 256 ^ k * x = val 256 ((bts b).take k) + val 256 ((bts a).take k) ∧ Blk wr w.heap.size 5 (cv .u8 (L ++ List.replicate (b.size + 1 - k) 0)) ∧ Below w.heap.size w wr) (fun _ _ i _ => b.size - (intOf i).toNat)
  case atStart => exact ⟨0, [], 0, Nat.zero_le _, rfl, rfl, by omega, by intro x hx; simp at hx, rfl, by simp [val], by simpa using hB, hb1⟩
  case round =>
    obtain ⟨k, L, x, hk, rfl, rfl, hx, hL, hLk, hv, hBr, hbr⟩ := hrel
    clear hB hb1 hs1
    have Hv := Lib.hid hv
    have HLk := Lib.hid hLk
    by_cases hlt : k < b.size
    · have hcell := hBr.next hLk (by omega)
      have hfree := hBr.nextFree hLk (by omega)
      clear hv hLk
      have b1 := UInt8.toNat_lt b[k]
      by_cases hlb : k < a.size
      · have b2 := UInt8.toNat_lt a[k]
        go_wp2
        go_roundw
        case rel => exact ⟨k + 1, L ++ [(x + b[k].toNat + a[k].toNat) % 256], (x + b[k].toNat + a[k].toNat) / 256, by omega, by go_num, by go_num, by omega, lt_snoc hL (by omega), by rw [List.length_append, HLk.out]; rfl,
          sum_round HLk.out Hv.out (by rw [bts_getD b k hlt, bts_getD a k hlb]; omega), hBr.push HLk.out (by omega) (by go_num) (by omega), hbr.setCell (Nat.le_refl _) _⟩
        case measure => simp [intOf]; omega
      · go_wp2
        go_roundw
        case rel => exact ⟨k + 1, L ++ [(x + b[k].toNat) % 256], (x + b[k].toNat) / 256, by omega, by go_num, by go_num, by omega, lt_snoc hL (by omega), by rw [List.length_append, HLk.out]; rfl,
          sum_round HLk.out Hv.out (by rw [bts_getD b k hlt, bts_getD_out a k (by omega)]; omega), hBr.push HLk.out (by omega) (by go_num) (by omega), hbr.setCell (Nat.le_refl _) _⟩
        case measure => simp [intOf]; omega
    · have hcell := hBr.next hLk (by omega)
      have hfree := hBr.nextFree hLk (by omega)
      obtain rfl : b.size = k := by omega
      have hst := run_str_blk (P := Tryz.prog) (src := 129) (dst := 9) (l := L ++ [x]) (post := []) (by rw [List.append_nil]; have := hBr.push hLk (by omega) (v := .int .u8 x) (d := x) (m' := 0) rfl (by omega); rwa [List.replicate_zero, List.append_nil] at this) (b.size + 1) (b.size + 1) (by rw [List.length_append, hLk]; rfl) Tryz.underlying129 Tryz.underlying5 Tryz.underlying9
      clear hv hLk
      go_wp2_with (go_at_call 140; refine (Normalize_any _ _ (by rw [size_ofBts, List.length_append, HLk.out]; simp [maxLen]; omega)).mono ?_; rintro e w' ⟨rfl, rfl⟩)
      go_ret
      exact ⟨add_end hL HLk.out (by omega) (by omega) Hv.out, hbr.setCell (Nat.le_refl _) _⟩

theorem Add_any (a b : ByteArray) (w : World) (ha : a.size ≤ 4294967296) (hb : b.size ≤ 4294967296) :
    Calls Tryz.prog 129 #[.string a, .string b] w fun e w' => e = .returned (.string (can (nat a + nat b))) ∧ Below w.heap.size w w' := by
  rcases Nat.lt_or_ge a.size b.size with h | h
  · exact Add_gt a b w hb h
  · exact Add_le a b w ha h
end Go.Proofs.YtodcomijjmobdaaGreatDoor

/- voussoirref01: at, Cmp, Add, Sub. -/
namespace Go.Proofs.YtodcomijjmobdaaGreatDoor
open Go.RowKit NM

/-- The byte at place i, 0 beyond the end. -/
def byteAt (a : ByteArray) (i : Nat) : Nat := (bts a).getD i 0
theorem byteAt_lt (a : ByteArray) (i : Nat) : byteAt a i < 256 := getD_lt (by omega) (bts_lt a) i
theorem byteAt_out (a : ByteArray) (i : Nat) (h : a.size ≤ i) : byteAt a i = 0 := bts_getD_out a i h

set_option maxHeartbeats 400000 in
theorem at_any (a : ByteArray) (i : Nat) (w : World) :
    Calls Tryz.prog 148 #[.string a, .int .i64 (i : Int)] w fun e w' => e = .returned (.int .i64 (byteAt a i : Nat)) ∧ w = w' := by
  by_cases h : i < a.size
  · have hg : byteAt a i = a[i].toNat := bts_getD a i h
    have b1 := UInt8.toNat_lt a[i]
    have Hg := Lib.hid hg
    clear hg
    go_enter Tryz.func148, Tryz.ntmps148
    go_wp2
    go_ret
    exact ⟨ret_int (by rw [Hg.out]), rfl⟩
  · have hg := byteAt_out a i (by omega)
    have Hg := Lib.hid hg
    clear hg
    go_enter Tryz.func148, Tryz.ntmps148
    go_wp2
    go_ret
    exact ⟨ret_int (by rw [Hg.out]; rfl), rfl⟩

set_option maxHeartbeats 400000 in
theorem refCmp_any (a b : ByteArray) (w : World) (ha : a.size ≤ maxLen) (hb : b.size ≤ maxLen) :
    Calls Tryz.prog 134 #[.string a, .string b] w (CmpPost (nat a) (nat b) w) := by
  have hsz : (can (nat a)).size ≤ 9223372036854775807 := by have := can_size_le_size a; unfold maxLen at ha; omega
  have htz : (can (nat b)).size ≤ 9223372036854775807 := by have := can_size_le_size b; unfold maxLen at hb; omega
  rcases Nat.lt_trichotomy (can (nat a)).size (can (nat b)).size with hne | hne | hne
  · go_enter Tryz.func134, Tryz.ntmps134
    go_wp2_with (go_at_call 102; refine (Norm_any _ _ (by assumption)).mono ?_; rintro e w' ⟨rfl, rfl⟩)
    go_ret
    exact ⟨ret_int (cmpN_lt (lt_of_size hne)).symm, Below.refl _ _⟩
  · have Hne := Lib.hid hne
    have hle : (can (nat a)).size ≤ (can (nat b)).size := by omega
    have hge : (can (nat b)).size ≤ (can (nat a)).size := by omega
    clear hne
    go_enter Tryz.func134, Tryz.ntmps134
    go_wp2_with (go_at_call 102; refine (Norm_any _ _ (by assumption)).mono ?_; rintro e w' ⟨rfl, rfl⟩)
    go_loopw [7] (fun i wr => ∃ k : Nat, k ≤ (can (nat a)).size ∧ i = .int .i64 ((k : Int) - 1) ∧ (∀ j, k ≤ j → (bts (can (nat a))).getD j 0 = (bts (can (nat b))).getD j 0) ∧ Below w.heap.size w wr) (fun i _ => (intOf i + 1).toNat)
    case atStart => exact ⟨_, Nat.le_refl _, rfl, fun j hj => by rw [bts_getD_out _ j (by omega), bts_getD_out _ j (by omega)], Below.refl _ _⟩
    case round =>
      obtain ⟨k, hk, rfl, ht, hb⟩ := hrel
      have Ht := Lib.hid ht
      clear ht
      by_cases hlt : 0 < k
      · obtain ⟨i, hi⟩ : ∃ i : Nat, i + 1 = k := ⟨k - 1, by omega⟩
        have e : ((k : Int) - 1) = (i : Int) := by omega
        have b2 : i < (can (nat a)).size := by omega
        have b3 : i < (can (nat b)).size := by omega
        have Hi := Lib.hid hi
        clear hi
        rcases Nat.lt_trichotomy (can (nat a))[i].toNat (can (nat b))[i].toNat with heq | heq | heq
        · rw [e]
          clear e
          go_wp2
          go_quiet (fail)
          go_wp2
          go_ret
          exact ⟨ret_int (cmpN_lt (top_lt Hne.out b2 b3 (fun j hj => Ht.out j (by have := Hi.out; omega)) heq)).symm, by exact below_drewN hb _⟩
        · rw [e]
          clear e
          have h1 : ¬ (can (nat a))[i].toNat < (can (nat b))[i].toNat := by omega
          have h2 : ¬ (can (nat b))[i].toNat < (can (nat a))[i].toNat := by omega
          have Heq := Lib.hid heq
          clear heq
          go_wp2
          go_quiet (fail)
          have hb1 : Below w.heap.size w (wr.drewN nq) := below_drewN hb _
          generalize wr.drewN nq = W1 at hb1 ⊢
          clear hb
          go_wp2
          go_quiet (fail)
          go_wp2
          go_roundw
          case rel => exact ⟨i, by omega, rfl, top_step b2 b3 (fun j hj => Ht.out j (by have := Hi.out; omega)) Heq.out, by exact below_drewN hb1 _⟩
          case measure => have := Hi.out; simp [intOf]
        · rw [e]
          clear e
          have h1 : ¬ (can (nat a))[i].toNat < (can (nat b))[i].toNat := by omega
          go_wp2
          go_quiet (fail)
          have hb1 : Below w.heap.size w (wr.drewN nq) := below_drewN hb _
          generalize wr.drewN nq = W1 at hb1 ⊢
          clear hb
          go_wp2
          go_quiet (fail)
          go_wp2
          go_ret
          exact ⟨ret_int (cmpN_gt (top_lt Hne.out.symm b3 b2 (fun j hj => (Ht.out j (by have := Hi.out; omega)).symm) heq)).symm, by exact below_drewN hb1 _⟩
      · go_wp2
        go_ret
        exact ⟨ret_int (cmpN_eq (top_eq Hne.out (fun j => Ht.out j (by omega)))).symm, hb⟩
  · go_enter Tryz.func134, Tryz.ntmps134
    go_wp2_with (go_at_call 102; refine (Norm_any _ _ (by assumption)).mono ?_; rintro e w' ⟨rfl, rfl⟩)
    go_ret
    exact ⟨ret_int (cmpN_gt (lt_of_size hne)).symm, Below.refl _ _⟩

theorem add_round_lt {a b : ByteArray} {M k x : Nat} (hk : k ≤ M) (hMa : a.size ≤ M) (hMb : b.size ≤ M) (hx : x ≤ 1) : k + 1 ≤ M ∨ k + 1 = M + 1 ∧ (x + (byteAt a k + byteAt b k)) / 256 = 0 := by
  rcases Nat.lt_or_ge k M with h | h
  · exact .inl h
  · right
    rw [byteAt_out a k (by omega), byteAt_out b k (by omega)]
    omega
theorem refAdd_end {a b : ByteArray} {L : List Nat} {k : Nat} (hL : NM.lt 256 L) (ha : a.size ≤ k) (hb : b.size ≤ k) (hv : val 256 L + 256 ^ k * 0 = val 256 ((bts a).take k) + val 256 ((bts b).take k)) :
    Ending.returned (.string (can (nat (ofBts L)))) = .returned (.string (can (nat a + nat b))) := by
  rw [List.take_of_length_le (by rw [bts_length]; omega), List.take_of_length_le (by rw [bts_length]; omega)] at hv
  rw [nat_ofBts hL]
  rw [Nat.mul_zero, Nat.add_zero] at hv
  rw [hv]
  rfl

set_option maxHeartbeats 1000000 in
theorem refAdd_any (a b : ByteArray) (w : World) (ha : a.size ≤ 4294967296) (hb : b.size ≤ 4294967296) :
    Calls Tryz.prog 137 #[.string a, .string b] w fun e w' => e = .returned (.string (can (nat a + nat b))) ∧ Below w.heap.size w w' := by
  obtain ⟨M, hMa, hMb, hM⟩ : ∃ M : Nat, a.size ≤ M ∧ b.size ≤ M ∧ (M ≤ a.size ∨ M ≤ b.size) := ⟨max a.size b.size, by omega, by omega, by omega⟩
  go_enter Tryz.func137, Tryz.ntmps137
  go_wp2
  go_loopw [5, 6, 7] (fun v c i wr => ∃ (k : Nat) (L : List Nat) (x : Nat), (k ≤ M ∨ k = M + 1 ∧ x = 0) ∧ i = .int .i64 k ∧ c = .int .i64 x ∧ x ≤ 1 ∧ NM.lt 256 L ∧ L.length = k ∧ val 256 L + 256 ^ k * x = val 256 ((bts a).take k) + val 256 ((bts b).take k) ∧ Own wr w.heap.size 5 .u8 v L ∧ Below w.heap.size w wr) (fun _ _ i _ => M + 1 - (intOf i).toNat)
  case atStart => exact ⟨0, [], 0, .inl (Nat.zero_le _), rfl, rfl, by omega, lt_nil _, rfl, by simp [val], Own.made w #[] 0 rfl (Nat.le_refl _) (by omega), (Below.refl _ _).alloc (Nat.le_refl _) _⟩
  case round =>
    obtain ⟨k, L, x, hk, rfl, rfl, hx, hL, hLk, hv, hown, hbr⟩ := hrel
    have Hv := Lib.hid hv
    have HLk := Lib.hid hLk
    have hLle : L.length ≤ 17179869184 := by omega
    clear hv hLk
    have g1 := byteAt_lt a k
    have g2 := byteAt_lt b k
    by_cases hgo : k < a.size ∨ k < b.size ∨ 0 < x
    · have hkM : k ≤ M := by omega
      have hs2 : w.heap.size ≤ wr.heap.size := hbr.size
      rcases (show k < a.size ∨ (¬ k < a.size ∧ k < b.size) ∨ (¬ k < a.size ∧ ¬ k < b.size ∧ 0 < x) from by omega) with h1 | ⟨h1, h2⟩ | ⟨h1, h2, h3⟩
      all_goals
        go_wp2_with (first
          | (go_at_call 148; refine (at_any _ k _).mono ?_; rintro e w' ⟨rfl, rfl⟩)
          | (at_builtin; refine wpList_push _ rfl _ _ 129 rfl w.heap.size 5 .u8 1 Tryz.underlying129 row_u8 _ L rfl (hown.alloc _) ⟨wr.heap.size, 0, none⟩ 1 rfl ((x + (byteAt a k + byteAt b k)) % 256) (((Blk.new _ _ _).cell (j := 0) rfl).trans (congrArg some (by go_num))) hLle (by omega) (by simp; omega) ?_; intro v2 w2 hown2 _ hb2))
        go_roundw
        case rel => exact ⟨k + 1, L ++ [(x + (byteAt a k + byteAt b k)) % 256], (x + (byteAt a k + byteAt b k)) / 256, add_round_lt hkM hMa hMb hx, by go_num, by go_num, by omega, lt_snoc hL (by omega), by rw [List.length_append, HLk.out]; rfl, sum_round HLk.out Hv.out (by unfold byteAt; omega), hown2, (hbr.alloc hs2 _).trans hb2⟩
        case measure => simp [intOf]; omega
    · have h1 : ¬ k < a.size := by omega
      have h2 : ¬ k < b.size := by omega
      have h3 : x = 0 := by omega
      subst h3
      have hst := run_str_own (P := Tryz.prog) hown Tryz.underlying129 Tryz.underlying5 Tryz.underlying9
      go_wp2_with (go_at_call 102; refine (Norm_any _ _ (by rw [size_ofBts]; simp [maxLen]; omega)).mono ?_; rintro e w' ⟨rfl, rfl⟩)
      go_ret
      exact ⟨refAdd_end hL (by omega) (by omega) Hv.out, hbr⟩
end Go.Proofs.YtodcomijjmobdaaGreatDoor

/- nat.Sub and voussoirref01.Sub. -/
namespace Go.Proofs.YtodcomijjmobdaaGreatDoor
open Go.RowKit NM

theorem cmpN_neg {m n : Nat} (h : m < n) : cmpN m n < 0 := by rw [cmpN_lt h]; omega
theorem cmpN_nonneg {m n : Nat} (h : ¬ m < n) : ¬ cmpN m n < 0 := by
  rcases Nat.lt_or_ge n m with h1 | h1
  · rw [cmpN_gt h1]; omega
  · rw [cmpN_eq (by omega)]; omega

/-- What Sub returns. -/
def subVal (m n : Nat) : Value := .tuple #[.string (if n ≤ m then can (m - n) else ⟨#[]⟩), .bool (decide (n ≤ m))]
theorem subVal_lt {m n : Nat} (h : m < n) : subVal m n = .tuple #[.string ⟨#[]⟩, .bool false] := by
  unfold subVal
  rw [if_neg (by omega), decide_eq_false (by omega)]
theorem subVal_ge {m n : Nat} (h : n ≤ m) : subVal m n = .tuple #[.string (can (m - n)), .bool true] := by
  unfold subVal
  rw [if_pos h, decide_eq_true h]

theorem take_of_small {b : ByteArray} {n : Nat} (h : nat b < 256 ^ n) : val 256 ((bts b).take n) = nat b := by
  have := val_digs 256 n (nat b)
  rw [Nat.mod_eq_of_lt h] at this
  by_cases hn : n ≤ (bts b).length
  · have e := val_take_drop 256 (bts b) n hn
    have hz : val 256 ((bts b).drop n) = 0 := by
      rcases Nat.eq_zero_or_pos (val 256 ((bts b).drop n)) with h0 | h0
      · exact h0
      · have : 256 ^ n * 1 ≤ 256 ^ n * val 256 ((bts b).drop n) := Nat.mul_le_mul_left _ h0
        unfold nat at h
        omega
    rw [hz, Nat.mul_zero, Nat.add_zero] at e
    exact e.symm
  · rw [List.take_of_length_le (by omega)]
    rfl
theorem sub_val {a b : ByteArray} {L : List Nat} {x : Nat} (hL : NM.lt 256 L) (hLk : L.length = (can (nat a)).size) (hab : nat b ≤ nat a) (hv : val 256 L + val 256 ((bts b).take (can (nat a)).size) = val 256 ((bts (can (nat a))).take (can (nat a)).size) + 256 ^ (can (nat a)).size * x) :
    val 256 L = nat a - nat b := by
  have h1 : nat a < 256 ^ (can (nat a)).size := by rw [can_size]; exact lt_pow_len (by omega) _
  rw [List.take_of_length_le (show (bts (can (nat a))).length ≤ _ by rw [bts_length]; omega), can_val, take_of_small (by omega)] at hv
  have h2 := val_lt hL
  rw [hLk] at h2
  rcases Nat.eq_zero_or_pos x with h | h
  · subst h
    omega
  · have : 256 ^ (can (nat a)).size * 1 ≤ 256 ^ (can (nat a)).size * x := Nat.mul_le_mul_left _ h
    omega
theorem sub_end {a b : ByteArray} {L : List Nat} {x : Nat} (hL : NM.lt 256 L) (hLk : L.length = (can (nat a)).size) (hab : nat b ≤ nat a) (hv : val 256 L + val 256 ((bts b).take (can (nat a)).size) = val 256 ((bts (can (nat a))).take (can (nat a)).size) + 256 ^ (can (nat a)).size * x) :
    Ending.returned (.tuple #[.string (can (nat (ofBts L))), .bool true]) = .returned (.tuple #[.string (can (nat a - nat b)), .bool true]) := by
  rw [nat_ofBts hL, sub_val hL hLk hab hv]

set_option maxHeartbeats 1000000 in
theorem Sub_any (a b : ByteArray) (w : World) (ha : a.size ≤ 4294967296) (hb : b.size ≤ 4294967296) :
    Calls Tryz.prog 130 #[.string a, .string b] w fun e w' => e = .returned (subVal (nat a) (nat b)) ∧ Below w.heap.size w w' := by
  have ha' : a.size ≤ maxLen := by simp [maxLen]; omega
  have hb' : b.size ≤ maxLen := by simp [maxLen]; omega
  by_cases hlt : nat a < nat b
  · have hn := cmpN_neg hlt
    rw [subVal_lt hlt]
    go_enter Tryz.func130, Tryz.ntmps130
    go_wp2_with (go_at_call 147; refine (Cmp_any _ _ _ ha' hb').mono ?_; rintro e w1 ⟨rfl, hb1⟩)
    go_ret2
    exact ⟨rfl, hb1⟩
  · have hn := cmpN_nonneg hlt
    rw [subVal_ge (by omega)]
    have hsz : (can (nat a)).size ≤ 4294967296 := by have := can_size_le_size a; omega
    have hbs := fun W => run_bytes_of_string (P := Tryz.prog) W 9 129 5 (can (nat a)) Tryz.underlying9 Tryz.underlying129 Tryz.underlying5
    go_enter Tryz.func130, Tryz.ntmps130
    go_wp2_with (first | (go_at_call 147; refine (Cmp_any _ _ _ ha' hb').mono ?_; rintro e w1 ⟨rfl, hb1⟩) | (go_at_call 140; refine (Normalize_any _ _ ha').mono ?_; rintro e w' ⟨rfl, rfl⟩))
    go_loopw [7, 8, 9, 19] (fun c _ _ i wr => ∃ (k : Nat) (L : List Nat) (x : Nat), k ≤ (can (nat a)).size ∧ i = .int .i64 k ∧ c = .int .i64 x ∧ x ≤ 1 ∧ NM.lt 256 L ∧ L.length = k ∧ val 256 L + val 256 ((bts b).take k) = val 256 ((bts (can (nat a))).take k) + 256 ^ k * x ∧
      Blk wr w1.heap.size 5 (cv .u8 (L ++ (bts (can (nat a))).drop k) ++ List.replicate (grownCap w1 (can (nat a)).size 0 5 - (can (nat a)).size) (.int .u8 0)) ∧ Below w1.heap.size w1 wr) (fun _ _ _ i _ => (can (nat a)).size - (intOf i).toNat)
    case atStart => exact ⟨0, [], 0, Nat.zero_le _, rfl, rfl, by omega, lt_nil _, rfl, by simp [val], (Blk.bytes w1 _ _ _ _ rfl).drew, ((Below.refl _ _).alloc (Nat.le_refl _) _).drew⟩
    case round =>
      obtain ⟨k, L, x, hk, rfl, rfl, hx, hL, hLk, hv, hBr, hbr⟩ := hrel
      have Hv := Lib.hid hv
      have HLk := Lib.hid hLk
      by_cases hlt : k < (can (nat a)).size
      · have hkl : k < (bts (can (nat a))).length := by rw [bts_length]; exact hlt
        have hcell := hBr.partAt hLk hkl
        rw [bts_getD _ k hlt] at hcell
        have hfree := hBr.partFree hLk hkl
        clear hv hLk
        have b1 := UInt8.toNat_lt (can (nat a))[k]
        by_cases hlb : k < b.size
        · have b2 := UInt8.toNat_lt b[k]
          by_cases hneg : (can (nat a))[k].toNat < x + b[k].toNat
          · go_wp2
            go_roundw
            case rel => exact ⟨k + 1, L ++ [(can (nat a))[k].toNat + 256 - x - b[k].toNat], 1, by omega, by go_num, by go_num, by omega, lt_snoc hL (by omega), by rw [List.length_append, HLk.out]; rfl,
              diff_round HLk.out Hv.out (by rw [bts_getD _ k hlt, bts_getD b k hlb]; omega), hBr.partSet HLk.out hkl (by go_num), hbr.setCell (Nat.le_refl _) _⟩
            case measure => simp [intOf]; omega
          · go_wp2
            go_roundw
            case rel => exact ⟨k + 1, L ++ [(can (nat a))[k].toNat - x - b[k].toNat], 0, by omega, by go_num, by go_num, by omega, lt_snoc hL (by omega), by rw [List.length_append, HLk.out]; rfl,
              diff_round HLk.out Hv.out (by rw [bts_getD _ k hlt, bts_getD b k hlb]; omega), hBr.partSet HLk.out hkl (by go_num), hbr.setCell (Nat.le_refl _) _⟩
            case measure => simp [intOf]; omega
        · have b2 : (bts b).getD k 0 = 0 := bts_getD_out b k (by omega)
          have B2 := Lib.hid b2
          clear b2
          by_cases hneg : (can (nat a))[k].toNat < x
          · go_wp2
            go_roundw
            case rel => exact ⟨k + 1, L ++ [(can (nat a))[k].toNat + 256 - x], 1, by omega, by go_num, by go_num, by omega, lt_snoc hL (by omega), by rw [List.length_append, HLk.out]; rfl,
              diff_round HLk.out Hv.out (by rw [bts_getD _ k hlt, B2.out]; omega), hBr.partSet HLk.out hkl (by go_num), hbr.setCell (Nat.le_refl _) _⟩
            case measure => simp [intOf]; omega
          · go_wp2
            go_roundw
            case rel => exact ⟨k + 1, L ++ [(can (nat a))[k].toNat - x], 0, by omega, by go_num, by go_num, by omega, lt_snoc hL (by omega), by rw [List.length_append, HLk.out]; rfl,
              diff_round HLk.out Hv.out (by rw [bts_getD _ k hlt, B2.out]; omega), hBr.partSet HLk.out hkl (by go_num), hbr.setCell (Nat.le_refl _) _⟩
            case measure => simp [intOf]; omega
      · obtain rfl : (can (nat a)).size = k := by omega
        have hst := run_str_blk (P := Tryz.prog) (src := 129) (dst := 9) (l := L) (by rwa [List.drop_of_length_le (by rw [bts_length]; omega), List.append_nil] at hBr) (can (nat a)).size (grownCap w1 (can (nat a)).size 0 5) hLk.symm Tryz.underlying129 Tryz.underlying5 Tryz.underlying9
        clear hv hLk
        go_wp2_with (go_at_call 140; refine (Normalize_any _ _ (by rw [size_ofBts, HLk.out]; simp [maxLen]; omega)).mono ?_; rintro e w' ⟨rfl, rfl⟩)
        go_ret2
        exact ⟨sub_end hL HLk.out (by omega) Hv.out, hb1.trans (hbr.mono hb1.size)⟩

theorem refSub_end {a b : ByteArray} {L : List Nat} {x : Nat} (hL : NM.lt 256 L) (hLk : L.length = a.size) (hab : nat b ≤ nat a) (hv : val 256 L + val 256 ((bts b).take a.size) = val 256 ((bts a).take a.size) + 256 ^ a.size * x) :
    Ending.returned (.tuple #[.string (can (nat (ofBts L))), .bool true]) = .returned (.tuple #[.string (can (nat a - nat b)), .bool true]) := by
  have h1 := nat_lt a
  rw [List.take_of_length_le (show (bts a).length ≤ _ by rw [bts_length]; omega), take_of_small (by omega)] at hv
  have h2 := val_lt hL
  rw [hLk] at h2
  have h3 : val 256 (bts a) = nat a := rfl
  have h4 : val 256 L = nat a - nat b := by
    rcases Nat.eq_zero_or_pos x with h | h
    · subst h
      omega
    · have : 256 ^ a.size * 1 ≤ 256 ^ a.size * x := Nat.mul_le_mul_left _ h
      omega
  rw [nat_ofBts hL, h4]

set_option maxHeartbeats 1000000 in
theorem refSub_any (a b : ByteArray) (w : World) (ha : a.size ≤ 4294967296) (hb : b.size ≤ 4294967296) :
    Calls Tryz.prog 136 #[.string a, .string b] w fun e w' => e = .returned (subVal (nat a) (nat b)) ∧ Below w.heap.size w w' := by
  have ha' : a.size ≤ maxLen := by simp [maxLen]; omega
  have hb' : b.size ≤ maxLen := by simp [maxLen]; omega
  by_cases hlt : nat a < nat b
  · have hn := cmpN_neg hlt
    rw [subVal_lt hlt]
    go_enter Tryz.func136, Tryz.ntmps136
    go_wp2_with (go_at_call 134; refine (refCmp_any _ _ _ ha' hb').mono ?_; rintro e w1 ⟨rfl, hb1⟩)
    go_ret2
    exact ⟨rfl, hb1⟩
  · have hn := decide_eq_false (cmpN_nonneg hlt)
    rw [subVal_ge (by omega)]
    go_enter Tryz.func136, Tryz.ntmps136
    go_wp2_with (go_at_call 134; refine (refCmp_any _ _ _ ha' hb').mono ?_; rintro e w1 ⟨rfl, hb1⟩)
    go_loopw [6, 7, 8, 9] (fun v c i _ wr => ∃ (k : Nat) (L : List Nat) (x : Nat), k ≤ a.size ∧ i = .int .i64 k ∧ c = .int .i64 x ∧ x ≤ 1 ∧ NM.lt 256 L ∧ L.length = k ∧ val 256 L + val 256 ((bts b).take k) = val 256 ((bts a).take k) + 256 ^ k * x ∧ Own wr w1.heap.size 5 .u8 v L ∧ Below w1.heap.size w1 wr) (fun _ _ i _ _ => a.size - (intOf i).toNat)
    case atStart => exact ⟨0, [], 0, Nat.zero_le _, rfl, rfl, by omega, lt_nil _, rfl, by simp [val], Own.made w1 #[] 0 rfl (Nat.le_refl _) (by omega), (Below.refl _ _).alloc (Nat.le_refl _) _⟩
    case round =>
      obtain ⟨k, L, x, hk, rfl, rfl, hx, hL, hLk, hv, hown, hbr⟩ := hrel
      have Hv := Lib.hid hv
      have HLk := Lib.hid hLk
      have hLle : L.length ≤ 17179869184 := by omega
      by_cases hlt : k < a.size
      · clear hv hLk
        have g1 := byteAt_lt a k
        have g2 := byteAt_lt b k
        have hs2 : w1.heap.size ≤ wr.heap.size := hbr.size
        by_cases hneg : byteAt a k < byteAt b k + x
        · go_wp2_with (first
            | (go_at_call 148; refine (at_any _ k _).mono ?_; rintro e w' ⟨rfl, rfl⟩)
            | (at_builtin; refine wpList_push _ rfl _ _ 129 rfl w1.heap.size 5 .u8 1 Tryz.underlying129 row_u8 _ L rfl (hown.alloc _) ⟨wr.heap.size, 0, none⟩ 1 rfl (byteAt a k + 256 - byteAt b k - x) (((Blk.new _ _ _).cell (j := 0) rfl).trans (congrArg some (by go_num))) hLle (by omega) (by simp; omega) ?_; intro v2 w2 hown2 _ hb2))
          go_roundw
          case rel => exact ⟨k + 1, L ++ [byteAt a k + 256 - byteAt b k - x], 1, by omega, by go_num, by go_num, by omega, lt_snoc hL (by omega), by rw [List.length_append, HLk.out]; rfl, diff_round HLk.out Hv.out (by unfold byteAt at *; omega), hown2, (hbr.alloc hs2 _).trans hb2⟩
          case measure => simp [intOf]; omega
        · go_wp2_with (first
            | (go_at_call 148; refine (at_any _ k _).mono ?_; rintro e w' ⟨rfl, rfl⟩)
            | (at_builtin; refine wpList_push _ rfl _ _ 129 rfl w1.heap.size 5 .u8 1 Tryz.underlying129 row_u8 _ L rfl (hown.alloc _) ⟨wr.heap.size, 0, none⟩ 1 rfl (byteAt a k - byteAt b k - x) (((Blk.new _ _ _).cell (j := 0) rfl).trans (congrArg some (by go_num))) hLle (by omega) (by simp; omega) ?_; intro v2 w2 hown2 _ hb2))
          go_roundw
          case rel => exact ⟨k + 1, L ++ [byteAt a k - byteAt b k - x], 0, by omega, by go_num, by go_num, by omega, lt_snoc hL (by omega), by rw [List.length_append, HLk.out]; rfl, diff_round HLk.out Hv.out (by unfold byteAt at *; omega), hown2, (hbr.alloc hs2 _).trans hb2⟩
          case measure => simp [intOf]; omega
      · obtain rfl : a.size = k := by omega
        have hst := run_str_own (P := Tryz.prog) hown Tryz.underlying129 Tryz.underlying5 Tryz.underlying9
        clear hv hLk
        go_wp2_with (go_at_call 102; refine (Norm_any _ _ (by rw [size_ofBts, HLk.out]; simp [maxLen]; omega)).mono ?_; rintro e w' ⟨rfl, rfl⟩)
        go_ret2
        exact ⟨refSub_end hL HLk.out (by omega) Hv.out, hb1.trans (hbr.mono hb1.size)⟩
end Go.Proofs.YtodcomijjmobdaaGreatDoor

/- nat.FromUint64, nat.Uint64, voussoirref01.Of, Num. -/
namespace Go.Proofs.YtodcomijjmobdaaGreatDoor
open Go.RowKit NM

theorem pow_2_8 (k : Nat) : (2 : Int) ^ (8 * k) = ((256 ^ k : Nat) : Int) := by
  rw [Int.pow_mul]
  norm_cast
theorem byte_of (n k : Nat) : Value.int .u8 ((n : Int) / 2 ^ (8 * k) % 256) = .int .u8 ((n / 256 ^ k % 256 : Nat) : Int) := by
  rw [pow_2_8]
  rfl
theorem from_end {n : Nat} (hn : n < 18446744073709551616) : Ending.returned (.string (can (nat (ofBts (digs 256 8 n))))) = .returned (.string (can n)) := by
  rw [nat_ofBts (digs_lt (by omega) _ _), val_digs, Nat.mod_eq_of_lt (by simpa using hn)]

theorem of_more {n k : Nat} (h : 0 < n / 256 ^ k) : k + 1 ≤ len 256 n := by
  rcases Nat.lt_or_ge k (len 256 n) with h1 | h1
  · exact h1
  · have := (len_le_iff (B := 256) (by omega) k n).1 h1
    rw [Nat.div_eq_of_lt this] at h
    omega
theorem of_end {n k : Nat} (hk : k ≤ len 256 n) (h : n / 256 ^ k = 0) : k = len 256 n := by
  have h1 : n < 256 ^ k := by
    rcases Nat.div_eq_zero_iff.1 h with h2 | h2
    · have := Nat.pow_pos (n := k) (show 0 < 256 by omega)
      omega
    · exact h2
  have := (len_le_iff (B := 256) (by omega) k n).2 h1
  omega

set_option maxHeartbeats 400000 in
theorem FromUint64_any (n : Nat) (w : World) (hn : n < 18446744073709551616) :
    Calls Tryz.prog 131 #[.int .u64 (n : Int)] w fun e w' => e = .returned (.string (can n)) ∧ Below w.heap.size w w' := by
  have Hn := Lib.hid hn
  go_enter Tryz.func131, Tryz.ntmps131
  go_wp2
  go_loopw [4, 5] (fun _ i wr => ∃ k : Nat, k ≤ 8 ∧ i = .int .i64 k ∧ Blk wr w.heap.size 138 (cv .u8 (digs 256 k n ++ List.replicate (8 - k) 0)) ∧ Below w.heap.size w wr) (fun _ i _ => 8 - (intOf i).toNat)
  case atStart => exact ⟨0, Nat.zero_le _, rfl, Blk.new w _ _, (Below.refl _ _).alloc (Nat.le_refl _) _⟩
  case round =>
    obtain ⟨k, hk, rfl, hBr, hbr⟩ := hrel
    by_cases hlt : k < 8
    · have hcell := hBr.next (digs_length _ _ _) (by omega)
      have hfree := hBr.nextFree (digs_length _ _ _) (by omega)
      go_wp2
      go_roundw
      case rel => exact ⟨k + 1, by omega, by go_num, by rw [digs_succ]; exact hBr.push (digs_length _ _ _) (by omega) (byte_of n k) (by omega), hbr.setCell (Nat.le_refl _) _⟩
      case measure => simp [intOf]; omega
    · obtain rfl : k = 8 := by omega
      have hst := run_str_blk (P := Tryz.prog) (src := 129) (dst := 9) (l := digs 256 8 n) (post := []) (by simpa using hBr) 8 8 (digs_length _ _ _).symm Tryz.underlying129 Tryz.underlying5 Tryz.underlying9
      go_wp2_with (go_at_call 140; refine (Normalize_any _ _ (by rw [size_ofBts, digs_length]; simp [maxLen])).mono ?_; rintro e w' ⟨rfl, rfl⟩)
      go_ret
      exact ⟨from_end Hn.out, hbr⟩

/-- What Uint64 returns. -/
def u64Val (n : Nat) : Value := .tuple #[.int .u64 ((if n < 18446744073709551616 then n else 0 : Nat) : Int), .bool (decide (n < 18446744073709551616))]
def u64N (n : Nat) : Nat := if n < 18446744073709551616 then n else 0
def u64B (n : Nat) : Bool := decide (n < 18446744073709551616)
theorem u64Val_eq (n : Nat) : u64Val n = .tuple #[.int .u64 (u64N n : Nat), .bool (u64B n)] := rfl
theorem u64Val_lt {n : Nat} (h : n < 18446744073709551616) : u64Val n = .tuple #[.int .u64 (n : Int), .bool true] := by
  unfold u64Val
  rw [if_pos h, decide_eq_true h]
theorem u64Val_ge {n : Nat} (h : ¬ n < 18446744073709551616) : u64Val n = .tuple #[.int .u64 0, .bool false] := by
  unfold u64Val
  rw [if_neg h, decide_eq_false h]
  rfl
theorem can_size_8 {n : Nat} : (can n).size ≤ 8 ↔ n < 18446744073709551616 := by rw [can_size]; exact len_le_iff (by omega) 8 n

theorem or_shift {v x k : Nat} (hv : v < 256 ^ k) : v ||| (x * 256 ^ k) = v + 256 ^ k * x := by
  have e : 256 ^ k = 2 ^ (8 * k) := by rw [Nat.pow_mul]
  rw [e] at hv ⊢
  rw [Nat.or_comm, Nat.mul_comm, ← Nat.two_pow_add_eq_or_of_lt hv, Nat.add_comm]
theorem or_round {m k : Nat} (h8 : (can m).size ≤ 8) (hlt : k < (can m).size) :
    Value.int .u64 (bits .or .u64 (val 256 ((bts (can m)).take k) : Nat) (IntKind.u64.wrap (((can m)[k].toNat : Int) * 2 ^ (8 * k)))) = .int .u64 (val 256 ((bts (can m)).take (k + 1)) : Nat) := by
  have hv : val 256 ((bts (can m)).take k) < 256 ^ k := by
    have := val_lt (lt_take (bts_lt (can m)) k)
    rwa [List.length_take, Nat.min_eq_left (by rw [bts_length]; omega)] at this
  have b1 := UInt8.toNat_lt (can m)[k]
  have h7 : 256 ^ k ≤ 256 ^ 7 := Nat.pow_le_pow_right (by omega) (by omega)
  have hx : (can m)[k].toNat * 256 ^ k < 18446744073709551616 := by
    have : (can m)[k].toNat * 256 ^ k ≤ 255 * 256 ^ 7 := Nat.mul_le_mul (by omega) h7
    omega
  have hw : IntKind.u64.wrap (((can m)[k].toNat : Int) * 2 ^ (8 * k)) = (((can m)[k].toNat * 256 ^ k : Nat) : Int) := by
    rw [IntKind.wrap_u64, pow_2_8]
    omega
  rw [hw, u64_or_nat _ _ (by omega) hx, or_shift hv, val_take_succ, bts_getD _ k hlt]

set_option maxHeartbeats 400000 in
theorem Uint64_any (a : ByteArray) (w : World) (ha : a.size ≤ maxLen) :
    Calls Tryz.prog 150 #[.string a] w fun e w' => e = .returned (u64Val (nat a)) ∧ w = w' := by
  by_cases h8 : (can (nat a)).size ≤ 8
  · rw [u64Val_lt (can_size_8.1 h8)]
    go_enter Tryz.func150, Tryz.ntmps150
    go_wp2_with (go_at_call 140; refine (Normalize_any _ _ ha).mono ?_; rintro e w' ⟨rfl, rfl⟩)
    go_loop [4, 5, 13] (fun n _ i => ∃ k : Nat, k ≤ (can (nat a)).size ∧ i = .int .i64 k ∧ n = .int .u64 (val 256 ((bts (can (nat a))).take k) : Nat)) (fun _ _ i => (can (nat a)).size - (intOf i).toNat)
    case atStart => exact ⟨0, Nat.zero_le _, rfl, rfl⟩
    case round =>
      obtain ⟨k, hk, rfl, rfl⟩ := hrel
      by_cases hlt : k < (can (nat a)).size
      · have b1 := UInt8.toNat_lt (can (nat a))[k]
        go_wp2
        go_round
        case rel => exact ⟨k + 1, by omega, by go_num, or_round h8 hlt⟩
        case measure => simp [intOf]; omega
      · go_wp2
        go_ret2
        refine ⟨?_, rfl⟩
        show Ending.returned (.tuple #[.int .u64 (val 256 ((bts (can (nat a))).take k) : Nat), .bool true]) = _
        rw [List.take_of_length_le (by rw [bts_length]; omega), can_val]
  · rw [u64Val_ge (fun h => h8 (can_size_8.2 h))]
    go_enter Tryz.func150, Tryz.ntmps150
    go_wp2_with (go_at_call 140; refine (Normalize_any _ _ ha).mono ?_; rintro e w' ⟨rfl, rfl⟩)
    go_ret2
    exact ⟨rfl, rfl⟩

set_option maxHeartbeats 400000 in
theorem Of_any (n : Nat) (w : World) (hn : n < 18446744073709551616) :
    Calls Tryz.prog 103 #[.int .u64 (n : Int)] w fun e w' => e = .returned (.string (can n)) ∧ Below w.heap.size w w' := by
  have h8 : len 256 n ≤ 8 := (len_le_iff (by omega) 8 n).2 hn
  go_enter Tryz.func103, Tryz.ntmps103
  go_wp2
  go_loopw [0, 3] (fun m v wr => ∃ (k : Nat), k ≤ len 256 n ∧ m = .int .u64 (n / 256 ^ k : Nat) ∧ Own wr w.heap.size 5 .u8 v (digs 256 k n) ∧ Below w.heap.size w wr) (fun m _ _ => (intOf m).toNat)
  case atStart => exact ⟨0, Nat.zero_le _, by simp, Own.made w #[] 0 rfl (Nat.le_refl _) (by omega), (Below.refl _ _).alloc (Nat.le_refl _) _⟩
  case round =>
    obtain ⟨k, hk, rfl, hown, hbr⟩ := hrel
    have hs2 : w.heap.size ≤ wr.heap.size := hbr.size
    have hle : n / 256 ^ k ≤ n := Nat.div_le_self _ _
    by_cases hpos : 0 < n / 256 ^ k
    · have hk1 : k + 1 ≤ len 256 n := of_more hpos
      have hd := digs_succ 256 k n
      have hq : n / 256 ^ (k + 1) = n / 256 ^ k / 256 := by rw [Nat.pow_succ, ← Nat.div_div_eq_div_mul]
      have Hd := Lib.hid hd
      have Hq := Lib.hid hq
      clear hd hq
      have hl : (digs 256 k n).length ≤ 17179869184 := by rw [digs_length]; omega
      generalize n / 256 ^ k = m at hpos hle Hd Hq ⊢
      go_wp2_with (at_builtin; refine wpList_push _ rfl _ _ 129 rfl w.heap.size 5 .u8 1 Tryz.underlying129 row_u8 _ (digs 256 k n) rfl (hown.alloc _) ⟨wr.heap.size, 0, none⟩ 1 rfl (m % 256) (((Blk.new _ _ _).cell (j := 0) rfl).trans (congrArg some (by go_num))) hl (by omega) (by simp; omega) ?_; intro v2 w2 hown2 _ hb2)
      go_roundw
      case rel => exact ⟨k + 1, hk1, by rw [Hq.out]; go_num, by rw [Hd.out]; exact hown2, (hbr.alloc hs2 _).trans hb2⟩
      case measure => simp [intOf]; omega
    · have hz : n / 256 ^ k = 0 := Nat.eq_zero_of_not_pos hpos
      have hkl : k = len 256 n := of_end hk hz
      have hst := run_str_own (P := Tryz.prog) hown Tryz.underlying129 Tryz.underlying5 Tryz.underlying9
      rw [hz]
      have Hkl := Lib.hid hkl
      clear hkl hz hpos hle
      go_wp2
      go_ret
      refine ⟨?_, hbr⟩
      show Ending.returned (Value.string (ofBts (digs 256 k n))) = _
      rw [Hkl.out]
      rfl
end Go.Proofs.YtodcomijjmobdaaGreatDoor
