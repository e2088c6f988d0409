/- Affine maps: what a value stands for, sizes. -/
import Derived.Test.YtodcomijjmobdaaGreatDoorYa
import Derived.Test.YtodcomijjmobdaaGreatDoorUb
set_option linter.unusedVariables false
set_option linter.unusedSimpArgs false
namespace Go.Proofs.YtodcomijjmobdaaGreatDoor
open Go.RowKit NM SX

abbrev MV (m : M3) : Value := .agg #[.bool (sg m.x.a.num), .string (mg m.x.a.num), .string (dm m.x.a.den), .bool (sg m.x.b.num), .string (mg m.x.b.num), .string (dm m.x.b.den), .bool (sg m.x.c.num), .string (mg m.x.c.num), .string (dm m.x.c.den), .bool (sg m.x.d.num), .string (mg m.x.d.num), .string (dm m.x.d.den), .bool (sg m.y.a.num), .string (mg m.y.a.num), .string (dm m.y.a.den), .bool (sg m.y.b.num), .string (mg m.y.b.num), .string (dm m.y.b.den), .bool (sg m.y.c.num), .string (mg m.y.c.num), .string (dm m.y.c.den), .bool (sg m.y.d.num), .string (mg m.y.d.num), .string (dm m.y.d.den), .bool (sg m.z.a.num), .string (mg m.z.a.num), .string (dm m.z.a.den), .bool (sg m.z.b.num), .string (mg m.z.b.num), .string (dm m.z.b.den), .bool (sg m.z.c.num), .string (mg m.z.c.num), .string (dm m.z.c.den), .bool (sg m.z.d.num), .string (mg m.z.d.num), .string (dm m.z.d.den)]
@[reducible] def mc (m : M3) : List Value := [.bool (sg m.x.a.num), .string (mg m.x.a.num), .string (dm m.x.a.den), .bool (sg m.x.b.num), .string (mg m.x.b.num), .string (dm m.x.b.den), .bool (sg m.x.c.num), .string (mg m.x.c.num), .string (dm m.x.c.den), .bool (sg m.x.d.num), .string (mg m.x.d.num), .string (dm m.x.d.den), .bool (sg m.y.a.num), .string (mg m.y.a.num), .string (dm m.y.a.den), .bool (sg m.y.b.num), .string (mg m.y.b.num), .string (dm m.y.b.den), .bool (sg m.y.c.num), .string (mg m.y.c.num), .string (dm m.y.c.den), .bool (sg m.y.d.num), .string (mg m.y.d.num), .string (dm m.y.d.den), .bool (sg m.z.a.num), .string (mg m.z.a.num), .string (dm m.z.a.den), .bool (sg m.z.b.num), .string (mg m.z.b.num), .string (dm m.z.b.den), .bool (sg m.z.c.num), .string (mg m.z.c.num), .string (dm m.z.c.den), .bool (sg m.z.d.num), .string (mg m.z.d.num), .string (dm m.z.d.den)]
abbrev Qk (r : Q4) (k : Nat) : Prop := Rk r.a k ∧ Rk r.b k ∧ Rk r.c k ∧ Rk r.d k
abbrev Mk (m : M3) (k : Nat) : Prop := Qk m.x k ∧ Qk m.y k ∧ Qk m.z k
/-- The value is the map, its coefficients in any form, each of at most k bytes. -/
def IsM (v : Value) (m : M3) (k : Nat) : Prop := ∃ (b : Nat → Bool) (s : Nat → ByteArray), v = .agg #[.bool (b 0), .string (s 0), .string (s 1), .bool (b 1), .string (s 2), .string (s 3), .bool (b 2), .string (s 4), .string (s 5), .bool (b 3), .string (s 6), .string (s 7), .bool (b 4), .string (s 8), .string (s 9), .bool (b 5), .string (s 10), .string (s 11), .bool (b 6), .string (s 12), .string (s 13), .bool (b 7), .string (s 14), .string (s 15), .bool (b 8), .string (s 16), .string (s 17), .bool (b 9), .string (s 18), .string (s 19), .bool (b 10), .string (s 20), .string (s 21), .bool (b 11), .string (s 22), .string (s 23)] ∧
  IsQ (Q3 (b 0) (s 0) (s 1)) m.x.a k ∧ IsQ (Q3 (b 1) (s 2) (s 3)) m.x.b k ∧ IsQ (Q3 (b 2) (s 4) (s 5)) m.x.c k ∧ IsQ (Q3 (b 3) (s 6) (s 7)) m.x.d k ∧ IsQ (Q3 (b 4) (s 8) (s 9)) m.y.a k ∧ IsQ (Q3 (b 5) (s 10) (s 11)) m.y.b k ∧ IsQ (Q3 (b 6) (s 12) (s 13)) m.y.c k ∧ IsQ (Q3 (b 7) (s 14) (s 15)) m.y.d k ∧ IsQ (Q3 (b 8) (s 16) (s 17)) m.z.a k ∧ IsQ (Q3 (b 9) (s 18) (s 19)) m.z.b k ∧ IsQ (Q3 (b 10) (s 20) (s 21)) m.z.c k ∧ IsQ (Q3 (b 11) (s 22) (s 23)) m.z.d k
theorem Qk.up {r : Q4} {j k : Nat} (h : Qk r j) (hk : j ≤ k) : Qk r k := ⟨h.1.up hk, h.2.1.up hk, h.2.2.1.up hk, h.2.2.2.up hk⟩
theorem Mk.up {m : M3} {j k : Nat} (h : Mk m j) (hk : j ≤ k) : Mk m k := ⟨h.1.up hk, h.2.1.up hk, h.2.2.up hk⟩
theorem IsM.mk {a0 a3 a6 a9 a12 a15 a18 a21 a24 a27 a30 a33 : Bool} {a1 a2 a4 a5 a7 a8 a10 a11 a13 a14 a16 a17 a19 a20 a22 a23 a25 a26 a28 a29 a31 a32 a34 a35 : ByteArray} {m : M3} {k : Nat} (h0 : IsQ (Q3 a0 a1 a2) m.x.a k) (h1 : IsQ (Q3 a3 a4 a5) m.x.b k) (h2 : IsQ (Q3 a6 a7 a8) m.x.c k) (h3 : IsQ (Q3 a9 a10 a11) m.x.d k) (h4 : IsQ (Q3 a12 a13 a14) m.y.a k) (h5 : IsQ (Q3 a15 a16 a17) m.y.b k) (h6 : IsQ (Q3 a18 a19 a20) m.y.c k) (h7 : IsQ (Q3 a21 a22 a23) m.y.d k) (h8 : IsQ (Q3 a24 a25 a26) m.z.a k) (h9 : IsQ (Q3 a27 a28 a29) m.z.b k) (h10 : IsQ (Q3 a30 a31 a32) m.z.c k) (h11 : IsQ (Q3 a33 a34 a35) m.z.d k) : IsM (.agg #[.bool a0, .string a1, .string a2, .bool a3, .string a4, .string a5, .bool a6, .string a7, .string a8, .bool a9, .string a10, .string a11, .bool a12, .string a13, .string a14, .bool a15, .string a16, .string a17, .bool a18, .string a19, .string a20, .bool a21, .string a22, .string a23, .bool a24, .string a25, .string a26, .bool a27, .string a28, .string a29, .bool a30, .string a31, .string a32, .bool a33, .string a34, .string a35]) m k :=
  ⟨fun i => [a0, a3, a6, a9, a12, a15, a18, a21, a24, a27, a30, a33].getD i false, fun i => [a1, a2, a4, a5, a7, a8, a10, a11, a13, a14, a16, a17, a19, a20, a22, a23, a25, a26, a28, a29, a31, a32, a34, a35].getD i ⟨#[]⟩, rfl, h0, h1, h2, h3, h4, h5, h6, h7, h8, h9, h10, h11⟩
theorem IsM.can {m : M3} {k : Nat} (h : Mk m k) : IsM (MV m) m k := IsM.mk (IsQ.can h.1.1) (IsQ.can h.1.2.1) (IsQ.can h.1.2.2.1) (IsQ.can h.1.2.2.2) (IsQ.can h.2.1.1) (IsQ.can h.2.1.2.1) (IsQ.can h.2.1.2.2.1) (IsQ.can h.2.1.2.2.2) (IsQ.can h.2.2.1) (IsQ.can h.2.2.2.1) (IsQ.can h.2.2.2.2.1) (IsQ.can h.2.2.2.2.2)
theorem IsM.sz {v : Value} {m : M3} {k : Nat} (h : IsM v m k) (hk : 1 ≤ k) : Mk m k := by
  obtain ⟨_, _, _, h0, h1, h2, h3, h4, h5, h6, h7, h8, h9, h10, h11⟩ := h
  exact ⟨⟨h0.sz hk, h1.sz hk, h2.sz hk, h3.sz hk⟩, ⟨h4.sz hk, h5.sz hk, h6.sz hk, h7.sz hk⟩, ⟨h8.sz hk, h9.sz hk, h10.sz hk, h11.sz hk⟩⟩
theorem IsM.up {v : Value} {m : M3} {j k : Nat} (h : IsM v m j) (hk : j ≤ k) : IsM v m k := by
  obtain ⟨b, s, e, h0, h1, h2, h3, h4, h5, h6, h7, h8, h9, h10, h11⟩ := h
  exact ⟨b, s, e, h0.up hk, h1.up hk, h2.up hk, h3.up hk, h4.up hk, h5.up hk, h6.up hk, h7.up hk, h8.up hk, h9.up hk, h10.up hk, h11.up hk⟩
theorem IsM.in {a0 a3 a6 a9 a12 a15 a18 a21 a24 a27 a30 a33 : Bool} {a1 a2 a4 a5 a7 a8 a10 a11 a13 a14 a16 a17 a19 a20 a22 a23 a25 a26 a28 a29 a31 a32 a34 a35 : ByteArray} {m : M3} {k : Nat} (h : IsM (.agg #[.bool a0, .string a1, .string a2, .bool a3, .string a4, .string a5, .bool a6, .string a7, .string a8, .bool a9, .string a10, .string a11, .bool a12, .string a13, .string a14, .bool a15, .string a16, .string a17, .bool a18, .string a19, .string a20, .bool a21, .string a22, .string a23, .bool a24, .string a25, .string a26, .bool a27, .string a28, .string a29, .bool a30, .string a31, .string a32, .bool a33, .string a34, .string a35]) m k) : IsQ (Q3 a0 a1 a2) m.x.a k ∧ IsQ (Q3 a3 a4 a5) m.x.b k ∧ IsQ (Q3 a6 a7 a8) m.x.c k ∧ IsQ (Q3 a9 a10 a11) m.x.d k ∧ IsQ (Q3 a12 a13 a14) m.y.a k ∧ IsQ (Q3 a15 a16 a17) m.y.b k ∧ IsQ (Q3 a18 a19 a20) m.y.c k ∧ IsQ (Q3 a21 a22 a23) m.y.d k ∧ IsQ (Q3 a24 a25 a26) m.z.a k ∧ IsQ (Q3 a27 a28 a29) m.z.b k ∧ IsQ (Q3 a30 a31 a32) m.z.c k ∧ IsQ (Q3 a33 a34 a35) m.z.d k := by
  obtain ⟨b, s, e, h0, h1, h2, h3, h4, h5, h6, h7, h8, h9, h10, h11⟩ := h
  simp only [Value.agg.injEq, Array.mk.injEq, List.cons.injEq, Value.bool.injEq, Value.string.injEq, and_true] at e
  obtain ⟨rfl, rfl, rfl, rfl, rfl, rfl, rfl, rfl, rfl, rfl, rfl, rfl, rfl, rfl, rfl, rfl, rfl, rfl, rfl, rfl, rfl, rfl, rfl, rfl, rfl, rfl, rfl, rfl, rfl, rfl, rfl, rfl, rfl, rfl, rfl, rfl⟩ := e
  exact ⟨h0, h1, h2, h3, h4, h5, h6, h7, h8, h9, h10, h11⟩
theorem Q4.eq_iff {p q : Q4} : p = q ↔ p.a = q.a ∧ p.b = q.b ∧ p.c = q.c ∧ p.d = q.d := ⟨fun e => by rw [e]; exact ⟨rfl, rfl, rfl, rfl⟩, fun h => Q4.ext' h.1 h.2.1 h.2.2.1 h.2.2.2⟩
theorem M3.eq_iff {m n : M3} : m = n ↔ m.x = n.x ∧ m.y = n.y ∧ m.z = n.z := ⟨fun e => by rw [e]; exact ⟨rfl, rfl, rfl⟩, fun h => M3.ext' h.1 h.2.1 h.2.2⟩
instance : DecidableEq Q4 := fun _ _ => decidable_of_iff _ Q4.eq_iff.symm
instance : DecidableEq M3 := fun _ _ => decidable_of_iff _ M3.eq_iff.symm
theorem eqL_M (m n : M3) : eqL (mc m) (mc n) = decide (m = n) := by
  have h : eqL (mc m) (mc n) = (eqL (qc m.x.a) (qc n.x.a) && (eqL (qc m.x.b) (qc n.x.b) && (eqL (qc m.x.c) (qc n.x.c) && (eqL (qc m.x.d) (qc n.x.d) && (eqL (qc m.y.a) (qc n.y.a) && (eqL (qc m.y.b) (qc n.y.b) && (eqL (qc m.y.c) (qc n.y.c) && (eqL (qc m.y.d) (qc n.y.d) && (eqL (qc m.z.a) (qc n.z.a) && (eqL (qc m.z.b) (qc n.z.b) && (eqL (qc m.z.c) (qc n.z.c) && (eqL (qc m.z.d) (qc n.z.d))))))))))))) := by simp [eqL, Bool.and_assoc]
  rw [h]
  simp only [eqL_Q]
  rw [Bool.eq_iff_iff]
  simp only [Bool.and_eq_true, decide_eq_true_eq, M3.eq_iff, Q4.eq_iff, and_assoc]

theorem IsZ.one : IsZ (I2 false ⟨#[1]⟩) 1 1 := ⟨_, _, rfl, by decide +kernel, by decide⟩
theorem Zk.one : Zk (1 : Int) 1 := by decide +kernel
/-! Sizes. -/
theorem Rk.n0 : Rk (0 : Rat) 1 := ⟨by decide +kernel, by decide +kernel⟩
theorem Rk.n1 : Rk (1 : Rat) 1 := ⟨by decide +kernel, by decide +kernel⟩
theorem Rk.sum3 {s a b c u v w : Rat} {i j k : Nat} (hs : Rk s i) (ha : Rk a j) (hb : Rk b j) (hc : Rk c j) (hu : Rk u k) (hv : Rk v k) (hw : Rk w k) : Rk (s + a * u + b * v + c * w) (i + 3 * (max j 1 + k) + 3) :=
  (Rk.add (Rk.add (Rk.add hs (Is.mul ha hu)) (Is.mul hb hv)) (Is.mul hc hw)).mono (by omega)
theorem Rk.dif3 {s a b c u v w : Rat} {i j k : Nat} (hs : Rk s i) (ha : Rk a j) (hb : Rk b j) (hc : Rk c j) (hu : Rk u k) (hv : Rk v k) (hw : Rk w k) : Rk (s - a * u - b * v - c * w) (i + 3 * (max j 1 + k) + 3) :=
  (Rk.sub (Rk.sub (Rk.sub hs (Is.mul ha hu)) (Is.mul hb hv)) (Is.mul hc hw)).mono (by omega)
theorem Qk.row {r : Q4} {b : M3} {j k : Nat} (hr : Qk r j) (hb : Mk b k) : Qk (rowM r b) (4 * max j 1 + 3 * k + 3) :=
  ⟨(Rk.sum3 Rk.n0 hr.1 hr.2.1 hr.2.2.1 hb.1.1 hb.2.1.1 hb.2.2.1).mono (by omega), (Rk.sum3 Rk.n0 hr.1 hr.2.1 hr.2.2.1 hb.1.2.1 hb.2.1.2.1 hb.2.2.2.1).mono (by omega),
    (Rk.sum3 Rk.n0 hr.1 hr.2.1 hr.2.2.1 hb.1.2.2.1 hb.2.1.2.2.1 hb.2.2.2.2.1).mono (by omega), (Rk.sum3 hr.2.2.2 hr.1 hr.2.1 hr.2.2.1 hb.1.2.2.2 hb.2.1.2.2.2 hb.2.2.2.2.2).mono (by omega)⟩
theorem Mk.comp {a b : M3} {j k : Nat} (ha : Mk a j) (hb : Mk b k) : Mk (compM a b) (4 * max j 1 + 3 * k + 3) := ⟨ha.1.row hb, ha.2.1.row hb, ha.2.2.row hb⟩
theorem Rk.vecR {r : Q4} {p : P3} {j k : Nat} (hr : Qk r j) (hp : Vk p k) : Rk (vecR r p) (4 * max j 1 + 3 * k + 3) := (Rk.sum3 hr.2.2.2 hr.1 hr.2.1 hr.2.2.1 hp.1 hp.2.1 hp.2.2).mono (by omega)
theorem Vk.vecM {m : M3} {p : P3} {j k : Nat} (hm : Mk m j) (hp : Vk p k) : Vk (vecM m p) (4 * max j 1 + 3 * k + 3) := ⟨Rk.vecR hm.1 hp, Rk.vecR hm.2.1 hp, Rk.vecR hm.2.2 hp⟩
theorem Pk.vecM {m : M3} {p : P3} {j k : Nat} (hm : Mk m j) (hp : Pk p k) : Pk (vecM m p) (3 * (4 * max j 1 + 3 * max k 1 + 3)) := (Pk.ofV (Vk.vecM hm (Vk.ofP1 hp))).up (by omega)
theorem Rk.min2 {a b c d : Rat} {k : Nat} (ha : Rk a k) (hb : Rk b k) (hc : Rk c k) (hd : Rk d k) : Rk (a * d - b * c) (4 * max k 1 + 1) := (Rk.sub (Is.mul ha hd) (Is.mul hb hc)).mono (by omega)
theorem Rk.detM {m : M3} {k : Nat} (h : Mk m k) : Rk (detM m) (15 * max k 1 + 7) :=
  (Rk.sum3 Rk.n0 h.1.1 h.1.2.1 h.1.2.2.1 (Rk.min2 h.2.1.2.1 h.2.1.2.2.1 h.2.2.2.1 h.2.2.2.2.1) (Rk.min2 h.2.1.2.2.1 h.2.1.1 h.2.2.2.2.1 h.2.2.1) (Rk.min2 h.2.1.1 h.2.1.2.1 h.2.2.1 h.2.2.2.1)).mono (by omega)
theorem Mk.linI {m : M3} {k : Nat} (h : Mk m k) : Mk (linI m) (19 * max k 1 + 9) := by
  have hd := Rk.detM h
  have q {a b c d : Rat} (ha : Rk a k) (hb : Rk b k) (hc : Rk c k) (hd' : Rk d k) : Rk ((a * d - b * c) / detM m) (19 * max k 1 + 9) := (Is.quo (Rk.min2 ha hb hc hd') hd).mono (by omega)
  obtain ⟨⟨xa, xb, xc, _⟩, ⟨ya, yb, yc, _⟩, ⟨za, zb, zc, _⟩⟩ := h
  have z := Rk.n0.up (show 1 ≤ 19 * max k 1 + 9 by omega)
  exact ⟨⟨q yb yc zb zc, q zb zc xb xc, q xb xc yb yc, z⟩, ⟨q yc ya zc za, q zc za xc xa, q xc xa yc ya, z⟩, ⟨q ya yb za zb, q za zb xa xb, q xa xb ya yb, z⟩⟩
theorem Mk.invM {m : M3} {k : Nat} (h : Mk m k) : Mk (invM m) (60 * max k 1 + 31) := by
  have hl := Mk.linI h
  have ht : Vk (lastM m) k := ⟨h.1.2.2.2, h.2.1.2.2.2, h.2.2.2.2.2⟩
  have e {r : Q4} (hr : Qk r (19 * max k 1 + 9)) (h0 : r.d = 0) : Rk (-(vecR r (lastM m))) (60 * max k 1 + 31) := by
    refine Rk.neg ?_
    unfold Go.Proofs.YtodcomijjmobdaaGreatDoor.vecR
    rw [h0]
    exact (Rk.sum3 Rk.n0 hr.1 hr.2.1 hr.2.2.1 ht.1 ht.2.1 ht.2.2).mono (by omega)
  obtain ⟨hx, hy, hz⟩ := hl
  exact ⟨⟨hx.1.up (by omega), hx.2.1.up (by omega), hx.2.2.1.up (by omega), e hx rfl⟩, ⟨hy.1.up (by omega), hy.2.1.up (by omega), hy.2.2.1.up (by omega), e hy rfl⟩, ⟨hz.1.up (by omega), hz.2.1.up (by omega), hz.2.2.1.up (by omega), e hz rfl⟩⟩
theorem Qk.planeR {b : M3} {v : Q4} {j k : Nat} (hv : Qk v j) (hb : Mk b k) : Qk (planeR b v) (4 * max j 1 + 3 * k + 3) :=
  ⟨(Rk.sum3 Rk.n0 hv.1 hv.2.1 hv.2.2.1 hb.1.1 hb.2.1.1 hb.2.2.1).mono (by omega), (Rk.sum3 Rk.n0 hv.1 hv.2.1 hv.2.2.1 hb.1.2.1 hb.2.1.2.1 hb.2.2.2.1).mono (by omega),
    (Rk.sum3 Rk.n0 hv.1 hv.2.1 hv.2.2.1 hb.1.2.2.1 hb.2.1.2.2.1 hb.2.2.2.2.1).mono (by omega), (Rk.dif3 hv.2.2.2 hv.1 hv.2.1 hv.2.2.1 hb.1.2.2.2 hb.2.1.2.2.2 hb.2.2.2.2.2).mono (by omega)⟩
theorem Qk.toQ {q : Z4} {k : Nat} (h : Fk q k) : Qk (toQ q) (max k 1) := ⟨Rk.int h.1, Rk.int h.2.1, Rk.int h.2.2.1, Rk.int h.2.2.2⟩
theorem Fk.planeM {m : M3} {q : Z4} {j k : Nat} (hi : Mk (Go.Proofs.YtodcomijjmobdaaGreatDoor.invM m) k) (hq : Fk q j) : Fk (planeM m q) (4 * (4 * max j 1 + 3 * k + 3)) := by
  have h := Qk.planeR (Qk.toQ hq) hi
  exact (Fk.canQ h.1 h.2.1 h.2.2.1 h.2.2.2).up (by omega)
theorem Mk.mirM {q : Z4} {k : Nat} (h : Fk q k) : Mk (mirM q) (8 * max k 1 + 8) := by
  obtain ⟨ha, hb, hc, hd⟩ := Qk.toQ h
  have hs : Rk (sqF q) (6 * max k 1 + 4) := (Rk.sum3 Rk.n0 ha hb hc ha hb hc).mono (by omega)
  have b {x : Rat} (hx : Rk x (max k 1)) : Rk (2 * x / sqF q) (7 * max k 1 + 6) := (Is.quo (Is.mul (⟨by decide +kernel, by decide +kernel⟩ : Rk (2 : Rat) 1) hx) hs).mono (by omega)
  have m {x y : Rat} (hx : Rk x (max k 1)) (hy : Rk y (max k 1)) : Rk (2 * x / sqF q * y) (8 * max k 1 + 6) := (Is.mul (b hx) hy).mono (by omega)
  have d {s x y : Rat} (h0 : Rk s 1) (hx : Rk x (max k 1)) (hy : Rk y (max k 1)) : Rk (s - 2 * x / sqF q * y) (8 * max k 1 + 8) := (Rk.sub h0 (m hx hy)).mono (by omega)
  exact ⟨⟨d Rk.n1 ha ha, d Rk.n0 ha hb, d Rk.n0 ha hc, (m ha hd).up (by omega)⟩, ⟨d Rk.n0 hb ha, d Rk.n1 hb hb, d Rk.n0 hb hc, (m hb hd).up (by omega)⟩, ⟨d Rk.n0 hc ha, d Rk.n0 hc hb, d Rk.n1 hc hc, (m hc hd).up (by omega)⟩⟩
theorem Mk.idM : Mk idM 1 := ⟨⟨Rk.n1, Rk.n0, Rk.n0, Rk.n0⟩, ⟨Rk.n0, Rk.n1, Rk.n0, Rk.n0⟩, ⟨Rk.n0, Rk.n0, Rk.n1, Rk.n0⟩⟩
theorem Mk.shiftM {v : P3} {k : Nat} (h : Vk v k) : Mk (shiftM v) (max k 1) :=
  ⟨⟨Rk.n1.up (by omega), Rk.n0.up (by omega), Rk.n0.up (by omega), h.1.up (by omega)⟩, ⟨Rk.n0.up (by omega), Rk.n1.up (by omega), Rk.n0.up (by omega), h.2.1.up (by omega)⟩, ⟨Rk.n0.up (by omega), Rk.n0.up (by omega), Rk.n1.up (by omega), h.2.2.up (by omega)⟩⟩

/-! Rotations by quarter turns. -/
def oneM : Nat → M3
  | 0 => ⟨⟨1, 0, 0, 0⟩, ⟨0, 0, -1, 0⟩, ⟨0, 1, 0, 0⟩⟩
  | 1 => ⟨⟨0, 0, 1, 0⟩, ⟨0, 1, 0, 0⟩, ⟨-1, 0, 0, 0⟩⟩
  | _ => ⟨⟨0, -1, 0, 0⟩, ⟨1, 0, 0, 0⟩, ⟨0, 0, 1, 0⟩⟩
def rotM (a : Nat) : Nat → M3
  | 0 => idM
  | n + 1 => compM (oneM a) (rotM a n)
theorem three {a : Nat} (h : a < 3) : a = 0 ∨ a = 1 ∨ a = 2 := by omega
theorem four {n : Nat} (h : n < 4) : n = 0 ∨ n = 1 ∨ n = 2 ∨ n = 3 := by omega
theorem Mk.one {a : Nat} (ha : a < 3) : Mk (oneM a) 1 := by
  rcases three ha with rfl | rfl | rfl <;> exact ⟨⟨⟨by decide +kernel, by decide +kernel⟩, ⟨by decide +kernel, by decide +kernel⟩, ⟨by decide +kernel, by decide +kernel⟩, ⟨by decide +kernel, by decide +kernel⟩⟩, ⟨⟨by decide +kernel, by decide +kernel⟩, ⟨by decide +kernel, by decide +kernel⟩, ⟨by decide +kernel, by decide +kernel⟩, ⟨by decide +kernel, by decide +kernel⟩⟩, ⟨⟨by decide +kernel, by decide +kernel⟩, ⟨by decide +kernel, by decide +kernel⟩, ⟨by decide +kernel, by decide +kernel⟩, ⟨by decide +kernel, by decide +kernel⟩⟩⟩
theorem Mk.rot {a n : Nat} (ha : a < 3) (hn : n < 4) : Mk (rotM a n) 1 := by
  rcases three ha with rfl | rfl | rfl <;> rcases four hn with rfl | rfl | rfl | rfl <;> exact ⟨⟨⟨by decide +kernel, by decide +kernel⟩, ⟨by decide +kernel, by decide +kernel⟩, ⟨by decide +kernel, by decide +kernel⟩, ⟨by decide +kernel, by decide +kernel⟩⟩, ⟨⟨by decide +kernel, by decide +kernel⟩, ⟨by decide +kernel, by decide +kernel⟩, ⟨by decide +kernel, by decide +kernel⟩, ⟨by decide +kernel, by decide +kernel⟩⟩, ⟨⟨by decide +kernel, by decide +kernel⟩, ⟨by decide +kernel, by decide +kernel⟩, ⟨by decide +kernel, by decide +kernel⟩, ⟨by decide +kernel, by decide +kernel⟩⟩⟩
theorem rot_next {a n : Nat} (ha : a < 3) (hn : n < 4) : compM (rotM a 1) (rotM a n) = rotM a ((n + 1) % 4) := by
  rcases three ha with rfl | rfl | rfl <;> rcases four hn with rfl | rfl | rfl | rfl <;> decide +kernel
theorem rot_four {a : Nat} (ha : a < 3) : compM (compM (rotM a 1) (rotM a 1)) (compM (rotM a 1) (rotM a 1)) = idM := by
  rcases three ha with rfl | rfl | rfl <;> decide +kernel
theorem rem4 (x : Int) : sem2 false .rem (.int .i64 x) (.int .i64 4) = some (.int .i64 (Int.tmod x 4)) := rfl
/-- The quarter turns from 0 to 3. -/
def qt (q : Int) : Nat := (Int.tmod (Int.tmod q 4 + 4) 4).toNat
theorem tmod_bd (q : Int) : -4 < Int.tmod q 4 ∧ Int.tmod q 4 < 4 := ⟨Int.lt_tmod_of_pos q (by decide), Int.tmod_lt_of_pos q (by decide)⟩
theorem qt_eq (q : Int) : Int.tmod (Int.tmod q 4 + 4) 4 = (qt q : Int) := by
  have h := tmod_bd q
  have := Int.tmod_nonneg 4 (show 0 ≤ Int.tmod q 4 + 4 by omega)
  unfold qt
  omega
theorem qt_lt (q : Int) : qt q < 4 := by
  have h := qt_eq q
  have := tmod_bd (Int.tmod q 4 + 4)
  omega
theorem qt_next (q : Int) : qt (Int.tmod q 4 + 1) = (qt q + 1) % 4 := by
  have h := tmod_bd q
  have e1 := qt_eq q
  generalize Int.tmod q 4 = t at *
  have : t = -3 ∨ t = -2 ∨ t = -1 ∨ t = 0 ∨ t = 1 ∨ t = 2 ∨ t = 3 := by omega
  rcases this with rfl | rfl | rfl | rfl | rfl | rfl | rfl <;> (have e3 := congrArg Int.toNat e1; rw [Int.toNat_natCast] at e3; rw [← e3]; decide)
end Go.Proofs.YtodcomijjmobdaaGreatDoor
