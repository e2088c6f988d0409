/- Slices of numbers that the call itself makes and appends to. -/
import Derived.Test.YtmfinfnjamgboaaDoorMem
namespace Go.Proofs.YtmfinfnjamgboaaDoor
open Go.RowKit

/-- v is a slice of the numbers L, of kind k, in memory from block 'base' on. -/
def Own (w : World) (base : Nat) (E : TypeId) (k : IntKind) (v : Value) (L : List Nat) : Prop := w.ownsRow base E 1 v L.length (cv k L)

section
variable {P : Program} {w w' : World} {base : Nat} {E : TypeId} {k : IntKind} {v : Value} {L : List Nat}
theorem Own.nil (w : World) (base : Nat) (E : TypeId) (k : IntKind) : Own w base E k (.slice none 0 0) [] := World.ownsRow_nil w base E 1
theorem Own.drew (h : Own w base E k v L) : Own w.drew base E k v L := h
theorem Own.drewN (h : Own w base E k v L) (n : Nat) : Own (w.drewN n) base E k v L := h
theorem Own.alloc (h : Own w base E k v L) (o : Obj) : Own (w.alloc o) base E k v L := World.ownsRow.alloc h o
theorem Own.below (h : Own w base E k v L) (hb : Below w.heap.size w w') : Own w' base E k v L :=
  World.ownsRow.kept (row := none) h ⟨hb.os, hb.tape, hb.output, hb.size, fun i hi _ => hb.block i hi⟩ (by cases v.ownBlock <;> simp)
/-- An empty row that was made. -/
theorem Own.made (w : World) (cs : Array Value) (n : Nat) (hn : cs.size = n) (hb : base ≤ w.heap.size) (hm : n ≤ 1000000) : Own (w.alloc (.cells cs E)) base E k (.slice (some ⟨w.heap.size, 0, none⟩) 0 n) [] :=
  World.ownsRow_made (e := E) (size := 1) w cs n hb (by simp [maxLen]; omega) (by omega)

/-- The string of what is owned. -/
theorem run_str_own (h : Own w base E .u8 v L) {src dst : TypeId} (hs : P.underlying src = some (.slice E)) (he : P.underlying E = some (.int .u8)) (hd : P.underlying dst = some .string) :
    (convert src dst v).run P w = .ok (.string (ofBts L)) w := by
  obtain ⟨_, h⟩ := h
  rcases h with ⟨rfl, hn⟩ | ⟨g, cap, cur, rfl, _, hg, hn, _, hsz, ht⟩
  · obtain rfl : L = [] := List.eq_nil_of_length_eq_zero hn
    exact run_convert_bytes_nil w src E hs he 0 0 dst hd
  · have hB : Blk w g E (cv .u8 L ++ cur.toList.drop (L.length * 1)) := by
      rw [← ht, List.take_append_drop]
      refine ⟨(0, 0), by rw [hg], fun j _ => ?_⟩
      unfold World.frozen?
      rw [hg]
      simp
    exact run_str_blk hB _ _ rfl hs he hd

theorem wpList_push {ops : Array Oper} {rest : List Oper} {o : Oper} {a : Act} {Q : Exit → Act → World → Prop} (w : World) (hgd : o.guard = none) (s x : Operand) (t : TypeId)
    (ho : o.op = .call { callee := .builtin .append, args := #[s, x], argTypes := #[t, t] })
    (base : Nat) (E : TypeId) (k : IntKind) (by_ : Nat) (ht : P.underlying t = some (.slice E)) (hrow : (P.info? E).map (fun i => (i.zero, i.size, i.bytes)) = some (some (.int k 0), 1, by_))
    (v : Value) (L : List Nat) (hs : a.eval s = v) (hown : Own w base E k v L) (ad : Addr) (c : Nat) (hx : a.eval x = .slice (some ad) 1 c) (d : Nat) (hc : w.cell? ad = some (.int k (d : Int)))
    (hlen : L.length ≤ 17179869184) (hby : by_ ≤ 8) (hbase : base ≤ w.heap.size)
    (h : ∀ v' w', Own w' base E k v' (L ++ [d]) → w.grownBy w' v.ownBlock → Below base w w' → wpList P ops Q rest (a.put o.dst v') w') : wpList P ops Q (o :: rest) a w := by
  obtain ⟨i, hi, hz, hsz, hb⟩ := info_parts hrow
  refine wpList_append_own w hgd s x t ho base E i (.int k 0) 1 by_ ht hi hz hsz hb rfl (by decide) v L.length (cv k L) hs hown ad 1 c [.int k (d : Int)] hx rfl ?_ ?_ (by simp [maxLen]; omega) ?_ hbase ?_
  · intro j u hj
    match j, hj with
    | 0, hj =>
      simp at hj
      subst hj
      simpa [Addr.add] using hc
  · intro u hu
    simp at hu
    subst hu
    rfl
  · have : (L.length + 1) * by_ ≤ (L.length + 1) * 8 := Nat.mul_le_mul_left _ hby
    omega
  · intro v' w' h1 h2 _
    refine h v' w' ?_ h2 ((Below.refl base w).grown h2 hbase (fun b hb => (hown.lt b hb).1))
    unfold Own
    rw [cv_append]
    simpa [cv] using h1
end
end Go.Proofs.YtmfinfnjamgboaaDoor
