/- append of a slice to a slice that was made. -/
import Derived.Test.YtmfinfnjamgboaaDoorParse
import Derived.Deep.AppendLies
import Derived.Deep.RegionLaw
namespace Go.Proofs.YtmfinfnjamgboaaDoor
open Go.RowKit NM

section
variable {P : Program}
theorem wpList_make_own (w : World) {ops : Array Oper} {rest : List Oper} {o : Oper} {a : Act} {Q : Exit → Act → World → Prop}
    (hg : o.guard = none) (l c : Operand) (t : TypeId) (hop : o.op = Op.makeSlice t l c)
    (E : TypeId) (k : IntKind) (by_ : Nat) (h1 : P.underlying t = some (.slice E)) (hrow : (P.info? E).map (fun i => (i.zero, i.size, i.bytes)) = some (some (.int k 0), 1, by_))
    (kl kc : IntKind) (L C : Int) (n : Nat) (hl : a.eval l = .int kl L) (hc : a.eval c = .int kc C) (hL : L = (n : Int)) (hC : C = (n : Int)) (b2 : by_ * n ≤ 281474976710656) (b3 : n ≤ 9223372036854775807) (base : Nat) (hb : base ≤ w.heap.size)
    (hK : ∀ w', Own w' base E k (.slice (some ⟨w.heap.size, 0, none⟩) n n) (List.replicate n 0) → Below w.heap.size w w' → wpList P ops Q rest (a.put o.dst (.slice (some ⟨w.heap.size, 0, none⟩) n n)) w') :
    wpList P ops Q (o :: rest) a w := by
  obtain ⟨i, hi, hz, hs, hby⟩ := info_parts hrow
  refine wpList_plain hg fun K hK' => ?_
  subst hL
  subst hC
  have hrun := run_make (P := P) w t E i (.int k 0) h1 hi hz kl kc n n (by omega) (by omega) (by rw [hby]; omega) (by omega)
  unfold Oper.wp
  simp [execOp, hop, hl, hc, hrun, Result.andThen]
  have e : (madeCells (Value.int k 0).cells n).toList = cv k (List.replicate n 0) := by
    rw [cv_replicate]
    exact madeCells_int k n
  have hB : Own (w.alloc (.cells (madeCells (Value.int k 0).cells (n * i.size)) E)) base E k (.slice (some ⟨w.heap.size, 0, none⟩) n n) (List.replicate n 0) := by
    rw [hs, Nat.mul_one]
    refine ⟨by rw [cv_length, List.length_replicate, Nat.mul_one], .inr ⟨w.heap.size, n, _, ?_, hb, heap_alloc_new w _, ?_, ?_, ?_, ?_⟩⟩
    · rw [List.length_replicate]
    · rw [List.length_replicate]
      exact Nat.le_refl _
    · simp [maxLen]
      omega
    · rw [← Array.length_toList, e, cv_length, List.length_replicate, Nat.mul_one]
    · rw [e, List.length_replicate, Nat.mul_one]
      exact List.take_of_length_le (by rw [cv_length, List.length_replicate]; exact Nat.le_refl _)
  exact hK' _ _ (hK _ hB ((Below.refl _ _).alloc (Nat.le_refl _) _))

theorem wpList_extend {ops : Array Oper} {rest : List Oper} {o : Oper} {a : Act} {Q : Exit → Act → World → Prop} (w : World) (hgd : o.guard = none) (s x : Operand) (t : TypeId)
    (ho : o.op = .call { callee := .builtin .append, args := #[s, x], argTypes := #[t, t] })
    (base : Nat) (E : TypeId) (k : IntKind) (by_ : Nat) (ht : P.underlying t = some (.slice E)) (hrow : (P.info? E).map (fun i => (i.zero, i.size, i.bytes)) = some (some (.int k 0), 1, by_))
    (v : Value) (L : List Nat) (hs : a.eval s = v) (hown : Own w base E k v L) (g c m : Nat) (M : List Nat) (hx : a.eval x = .slice (some ⟨g, 0, none⟩) m c) (hm : M.length = m) (hB : Blk w g E (cv k M))
    (hlen : L.length ≤ 8589934592) (hlen2 : m ≤ 8589934592) (hby : by_ ≤ 8) (hbase : base ≤ w.heap.size)
    (h : ∀ v' w', Own w' base E k v' (L ++ M) → Below base w w' → wpList P ops Q rest (a.put o.dst v') w') : wpList P ops Q (o :: rest) a w := by
  subst hm
  obtain ⟨i, hi, hz, hsz, hb⟩ := info_parts hrow
  refine wpList_append_own w hgd s x t ho base E i (.int k 0) 1 by_ ht hi hz hsz hb rfl (by decide) v L.length (cv k L) hs hown ⟨g, 0, none⟩ M.length c (cv k M) hx (by rw [cv_length, Nat.mul_one]) ?_ ?_ (by simp [maxLen]; omega) ?_ hbase ?_
  · intro j u hj
    have := hB.cell hj
    by_cases h0 : j = 0
    · subst h0
      simpa [Addr.add] using this
    · simpa [Addr.add, h0] using this
  · intro u hu
    unfold cv at hu
    rw [List.mem_map] at hu
    obtain ⟨y, _, rfl⟩ := hu
    rfl
  · have : (L.length + M.length) * by_ ≤ (L.length + M.length) * 8 := Nat.mul_le_mul_left _ hby
    omega
  · intro v' w' h1 h2 _
    refine h v' w' ?_ ((Below.refl base w).grown h2 hbase (fun b hb => (hown.lt b hb).1))
    unfold Own
    rw [cv_append, List.length_append]
    exact h1

/-- k zero limbs. -/
def zerosObj (k : Nat) : Obj := .cells (madeCells #[Value.int .u32 0] k) 54
theorem zeros_own (w : World) (n base : Nat) (hb : base ≤ w.heap.size) (hn : n ≤ 1000000000) : Own (w.alloc (zerosObj n)) base 54 .u32 (.slice (some ⟨w.heap.size, 0, none⟩) n n) (List.replicate n 0) := by
  have e : (madeCells #[Value.int .u32 0] n).toList = cv .u32 (List.replicate n 0) := by
    rw [cv_replicate]
    exact madeCells_int .u32 n
  refine ⟨by rw [cv_length, List.length_replicate, Nat.mul_one], .inr ⟨w.heap.size, n, _, ?_, hb, heap_alloc_new w _, ?_, ?_, ?_, ?_⟩⟩
  · rw [List.length_replicate]
  · rw [List.length_replicate]
    exact Nat.le_refl _
  · simp [maxLen]
    omega
  · rw [← Array.length_toList, e, cv_length, List.length_replicate, Nat.mul_one]
  · rw [e, List.length_replicate, Nat.mul_one]
    exact List.take_of_length_le (by rw [cv_length, List.length_replicate]; exact Nat.le_refl _)
theorem zeros_run (w : World) (n : Nat) (hn : n ≤ 1000000000) : (Instr.makeSlice 53 (.int .i64 (n : Int)) (.int .i64 (n : Int))).run Tryd.prog w = .ok (.slice (some ⟨w.heap.size, 0, none⟩) n n) (w.alloc (zerosObj n)) := by
  obtain ⟨i, hi, hz, hs, hby⟩ := info_parts row_u32
  have h := run_make (P := Tryd.prog) w 53 54 i (.int .u32 0) Tryd.underlying53 hi hz .i64 .i64 n n (by omega) (by omega) (by rw [hby]; omega) (by omega)
  rw [hs] at h
  have e1 : ((n : Int)).toNat = n := Int.toNat_natCast n
  rw [e1, Nat.mul_one] at h
  exact h

theorem step_extend {ops : Array Oper} {o : Oper} {a : Act} {w : World} {K : Act → World → Prop} {Q : Exit → Act → World → Prop} {Z : Prop} (hgd : o.guard = none) (s x : Operand) (t : TypeId)
    (ho : o.op = .call { callee := .builtin .append, args := #[s, x], argTypes := #[t, t] })
    (base : Nat) (E : TypeId) (k : IntKind) (by_ : Nat) (ht : P.underlying t = some (.slice E)) (hrow : (P.info? E).map (fun i => (i.zero, i.size, i.bytes)) = some (some (.int k 0), 1, by_))
    (v : Value) (L : List Nat) (hs : a.eval s = v) (g c m : Nat) (M : List Nat) (hx : a.eval x = .slice (some ⟨g, 0, none⟩) m c) (hm : M.length = m) (hby : by_ ≤ 8) (hown : Own w base E k v L) (hB : Blk w g E (cv k M))
    (hlen : L.length ≤ 8589934592) (hlen2 : m ≤ 8589934592) (hbase : base ≤ w.heap.size)
    (h : ∀ v' w', Own w' base E k v' (L ++ M) → Below base w w' → K (a.put o.dst v') w') : if Region.wanted o (yielded ops a.tmps) = true then Oper.wp P o a w K Q else Z := by
  have hw : Region.wanted o (yielded ops a.tmps) = true := by simp [Region.wanted, hgd]
  rw [if_pos hw]
  subst hm
  obtain ⟨i, hi, hz, hsz, hb⟩ := info_parts hrow
  refine wp_append_own w s x t ho base E i (.int k 0) 1 by_ ht hi hz hsz hb rfl (by decide) v L.length (cv k L) hs hown ⟨g, 0, none⟩ M.length c (cv k M) hx (by rw [cv_length, Nat.mul_one]) ?_ ?_ (by simp [maxLen]; omega) ?_ hbase ?_
  · intro j u hj
    have := hB.cell hj
    by_cases h0 : j = 0
    · subst h0
      simpa [Addr.add] using this
    · simpa [Addr.add, h0] using this
  · intro u hu
    unfold cv at hu
    rw [List.mem_map] at hu
    obtain ⟨y, _, rfl⟩ := hu
    rfl
  · have : (L.length + M.length) * by_ ≤ (L.length + M.length) * 8 := Nat.mul_le_mul_left _ hby
    omega
  · intro v' w' h1 h2 _
    refine h v' w' ?_ ((Below.refl base w).grown h2 hbase (fun b hb => (hown.lt b hb).1))
    unfold Own
    rw [cv_append, List.length_append]
    exact h1
end
end Go.Proofs.YtmfinfnjamgboaaDoor
