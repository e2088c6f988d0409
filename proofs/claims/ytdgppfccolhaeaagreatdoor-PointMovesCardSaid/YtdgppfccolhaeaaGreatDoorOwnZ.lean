/- A slice of integers in canonical form that the call itself makes and appends to. -/
import Derived.Test.YtdgppfccolhaeaaGreatDoorGcdZ
import Derived.Laws.AppendOwn
set_option linter.unusedVariables false
set_option linter.unusedSimpArgs false
namespace Go.Proofs.YtdgppfccolhaeaaGreatDoor
open Go.RowKit NM

/-- The cells of canonical integers. -/
def cellsOfZ (L : List Int) : List Value := L.flatMap fun z => [.bool (sg z), .string (mg z)]
theorem cellsOfZ_flat (L : List Int) : cellsOfZ L = flatZ (L.map fun z => (sg z, mg z)) := by
  unfold cellsOfZ flatZ
  rw [List.flatMap_map]
theorem cellsOfZ_snoc (L : List Int) (z : Int) : cellsOfZ (L ++ [z]) = cellsOfZ L ++ [.bool (sg z), .string (mg z)] := by
  unfold cellsOfZ
  rw [List.flatMap_append]
  rfl
/-- v is a slice of the integers L, in memory from block 'base' on. -/
def OwnZ (w : World) (base : Nat) (E : TypeId) (v : Value) (L : List Int) : Prop := w.ownsRow base E 2 v L.length (cellsOfZ L)
section
variable {P : Program} {w w' : World} {base : Nat} {E : TypeId} {v : Value} {L : List Int}
theorem OwnZ.nil (w : World) (base : Nat) (E : TypeId) : OwnZ w base E (.slice none 0 0) [] := World.ownsRow_nil w base E 2
theorem OwnZ.below (h : OwnZ w base E v L) (hb : Below w.heap.size w w') : OwnZ w' base E v L :=
  World.ownsRow.kept (row := none) h ⟨hb.os, hb.tape, hb.output, hb.size, fun i hi _ => hb.block i hi⟩ (by cases v.ownBlock <;> simp)
theorem OwnZ.alloc (h : OwnZ w base E v L) (o : Obj) : OwnZ (w.alloc o) base E v L := h.below (below_alloc w o)
theorem OwnZ.read (h : OwnZ w base E v L) : ∃ A c, v = .slice A L.length c ∧ RdZ w A (L.map fun z => (sg z, mg z)) := by
  obtain ⟨hlen, h⟩ := h
  rcases h with ⟨rfl, hn⟩ | ⟨g, cap, cur, rfl, _, hg, hn, _, hsz, ht⟩
  · obtain rfl : L = [] := List.eq_nil_of_length_eq_zero hn
    exact ⟨none, 0, rfl, RdZ.nil w none⟩
  · refine ⟨some ⟨g, 0, none⟩, cap, rfl, ?_⟩
    have hB : Blk w g E (flatZ (L.map fun z => (sg z, mg z)) ++ cur.toList.drop (L.length * 2)) := by
      rw [← cellsOfZ_flat, ← ht, List.take_append_drop]
      refine ⟨(0, 0), by rw [hg], fun j _ => ?_⟩
      unfold World.frozen?
      rw [hg]
      simp
    exact RdZ.blk hB
theorem wpList_pushZ {ops : Array Oper} {rest : List Oper} {o : Oper} {a : Act} {Q : Exit → Act → World → Prop} (w : World) (hgd : o.guard = none) (s x : Operand) (t : TypeId)
    (ho : o.op = .call { callee := .builtin .append, args := #[s, x], argTypes := #[t, t] })
    (base : Nat) (E : TypeId) (by_ : Nat) (ht : P.underlying t = some (.slice E)) (hrow : (P.info? E).map (fun i => (i.zero, i.size, i.bytes)) = some (some (I2 false ⟨#[]⟩), 2, by_))
    (v : Value) (L : List Int) (hs : a.eval s = v) (hown : OwnZ w base E v L) (g c : Nat) (hx : a.eval x = .slice (some ⟨g, 0, none⟩) 1 c) (z : Int) (hB : Blk w g E [.bool (sg z), .string (mg z)])
    (hlen : L.length ≤ 1000000) (hby : by_ ≤ 64) (hbase : base ≤ w.heap.size)
    (h : ∀ v' w', OwnZ w' base E v' (L ++ [z]) → Below base w w' → wpList P ops Q rest (a.put o.dst v') w') : wpList P ops Q (o :: rest) a w := by
  obtain ⟨i, hi, hz, hsz, hb⟩ := info_parts hrow
  refine wpList_append_own w hgd s x t ho base E i (I2 false ⟨#[]⟩) 2 by_ ht hi hz hsz hb rfl (by decide) v L.length (cellsOfZ L) hs hown ⟨g, 0, none⟩ 1 c [.bool (sg z), .string (mg z)] hx rfl ?_ ?_ (by simp [maxLen]; omega) ?_ hbase ?_
  · intro j u hj
    have hadd : (⟨g, 0, none⟩ : Addr).add j = ⟨g, j, none⟩ := by unfold Addr.add; split <;> simp_all
    rw [hadd]
    exact hB.cell hj
  · intro u hu
    simp at hu
    rcases hu with rfl | rfl <;> rfl
  · have : (L.length + 1) * by_ ≤ (L.length + 1) * 64 := Nat.mul_le_mul_left _ hby
    omega
  · intro v' w' h1 h2 _
    refine h v' w' ?_ ((Below.refl base w).grown h2 hbase (fun b hb => (hown.lt b hb).1))
    unfold OwnZ
    rw [cellsOfZ_snoc]
    simpa using h1
end

/-! The greatest common divisor of three numbers. -/
theorem gcd3_div {a b c G : Nat} (hG : Nat.gcd (Nat.gcd (Nat.gcd 0 a) b) c = G) (h0 : G ≠ 0) : Nat.gcd (Nat.gcd (Nat.gcd 0 (a / G)) (b / G)) (c / G) = 1 := by
  rw [Nat.gcd_zero_left] at hG ⊢
  have h1 : G ∣ Nat.gcd a b := hG ▸ Nat.gcd_dvd_left _ _
  have hc : G ∣ c := hG ▸ Nat.gcd_dvd_right _ _
  have ha : G ∣ a := Nat.dvd_trans h1 (Nat.gcd_dvd_left _ _)
  have hb : G ∣ b := Nat.dvd_trans h1 (Nat.gcd_dvd_right _ _)
  rw [Nat.gcd_div ha hb, Nat.gcd_div h1 hc, hG, Nat.div_self (Nat.pos_of_ne_zero h0)]
theorem gcd4_perm (a b c : Nat) : Nat.gcd (Nat.gcd (Nat.gcd (Nat.gcd 0 c) a) b) a = Nat.gcd (Nat.gcd (Nat.gcd 0 a) b) c := by
  rw [Nat.gcd_zero_left, Nat.gcd_zero_left]
  apply Nat.dvd_antisymm
  · refine Nat.dvd_gcd (Nat.dvd_gcd (Nat.gcd_dvd_right _ _) (Nat.dvd_trans (Nat.gcd_dvd_left _ _) (Nat.gcd_dvd_right _ _))) (Nat.dvd_trans (Nat.gcd_dvd_left _ _) (Nat.dvd_trans (Nat.gcd_dvd_left _ _) (Nat.gcd_dvd_left _ _)))
  · have ha : Nat.gcd (Nat.gcd a b) c ∣ a := Nat.dvd_trans (Nat.gcd_dvd_left _ _) (Nat.gcd_dvd_left _ _)
    have hb : Nat.gcd (Nat.gcd a b) c ∣ b := Nat.dvd_trans (Nat.gcd_dvd_left _ _) (Nat.gcd_dvd_right _ _)
    exact Nat.dvd_gcd (Nat.dvd_gcd (Nat.dvd_gcd (Nat.gcd_dvd_right _ _) ha) hb) ha
theorem gcd3_dvd {a b c G : Nat} (hG : Nat.gcd (Nat.gcd (Nat.gcd 0 a) b) c = G) : G ∣ a ∧ G ∣ b ∧ G ∣ c := by
  rw [Nat.gcd_zero_left] at hG
  have h1 : G ∣ Nat.gcd a b := hG ▸ Nat.gcd_dvd_left _ _
  exact ⟨Nat.dvd_trans h1 (Nat.gcd_dvd_left _ _), Nat.dvd_trans h1 (Nat.gcd_dvd_right _ _), hG ▸ Nat.gcd_dvd_right _ _⟩
theorem divZ_dvd {x : Bool × ByteArray} {G : Nat} (h0 : G ≠ 0) (h : G ∣ nat x.2) : divZ (iv x.1 x.2) (G : Int) = .tuple #[Z (iv x.1 x.2 / (G : Int)), Z 0, .bool true] := by
  have hd : (G : Int) ∣ iv x.1 x.2 := by
    rw [Int.ofNat_dvd_left, iv_abs]; exact h
  rw [divZ_pos (by omega), Int.emod_eq_zero_of_dvd hd]
theorem quo_abs {x : Bool × ByteArray} {G : Nat} (h : G ∣ nat x.2) : nat (mg (iv x.1 x.2 / (G : Int))) = nat x.2 / G := by
  have hd : (G : Int) ∣ iv x.1 x.2 := by
    rw [Int.ofNat_dvd_left, iv_abs]; exact h
  rw [nat_mg, Int.natAbs_ediv_of_dvd hd, iv_abs]
  rfl
theorem quo_size {x : Bool × ByteArray} {G k : Nat} (h : G ∣ nat x.2) (hk : x.2.size ≤ k) : (mg (iv x.1 x.2 / (G : Int))).size ≤ k := by
  have h1 := quo_abs h
  rw [nat_mg] at h1
  refine mg_size_le ?_
  rw [h1]
  exact Nat.lt_of_le_of_lt (Nat.div_le_self _ _) (Nat.lt_of_lt_of_le (nat_lt _) (Nat.pow_le_pow_right (by omega) hk))
end Go.Proofs.YtdgppfccolhaeaaGreatDoor
