/- Intersections: sizes, what the functions return. -/
import Derived.Test.YtfapglafeghggaaGreatDoorUa
set_option linter.unusedVariables false
set_option linter.unusedSimpArgs false
namespace Go.Proofs.YtfapglafeghggaaGreatDoor
open Go.RowKit NM SX

/-- Practice alone: in the place of the table, where a program has none. -/
def TabX (_ : World) : Prop := True
theorem TabX.later {w w' : World} (_ : TabX w) (_ : Below w.heap.size w w') : TabX w' := trivial
theorem sgQ_beq (q : Rat) : (sgQ q == 0) = decide (q = 0) := by
  rw [show (sgQ q == 0) = decide (sgQ q = 0) from rfl, decide_eq_decide]
  exact sgQ_eq_zero
theorem wrap_cc (a b c d : P3) : IntKind.wrap .i64 (cmpP a b * cmpP c d) = cmpP a b * cmpP c d := by
  have h1 := cmpP_bd a b
  have h2 := cmpP_bd c d
  generalize cmpP a b = x at *
  generalize cmpP c d = y at *
  rcases (show x = -1 ∨ x = 0 ∨ x = 1 by omega) with rfl | rfl | rfl <;> rcases (show y = -1 ∨ y = 0 ∨ y = 1 by omega) with rfl | rfl | rfl <;> rfl
theorem Vk.subP {a b : P3} {j k : Nat} (ha : Pk a j) (hb : Pk b k) : Vk (subP a b) (max j 1 + max k 1 + 1) := by
  have va := Vk.ofP1 ha
  have vb := Vk.ofP1 hb
  exact ⟨Rk.sub va.1 vb.1, Rk.sub va.2.1 vb.2.1, Rk.sub va.2.2 vb.2.2⟩
theorem Rk.dot3 {a b : P3} {j k : Nat} (ha : Vk a j) (hb : Vk b k) : Rk (dot3 a b) (3 * (max j 1 + max k 1) + 2) :=
  (Rk.add (Rk.add (Is.mul ha.1 hb.1) (Is.mul ha.2.1 hb.2.1)) (Is.mul ha.2.2 hb.2.2)).mono (by omega)
theorem Vk.nrm {q : Z4} {k : Nat} (h : Fk q k) : Vk (nrmF q) (max k 1) := ⟨Rk.int h.1, Rk.int h.2.1, Rk.int h.2.2.1⟩
theorem Vk.mulP {a : P3} {t : Rat} {j k : Nat} (ha : Vk a j) (ht : Rk t k) : Vk (mulP a t) (max j 1 + max k 1) :=
  ⟨(Is.mul ha.1 ht).mono (by omega), (Is.mul ha.2.1 ht).mono (by omega), (Is.mul ha.2.2 ht).mono (by omega)⟩
theorem Vk.sumP {a b : P3} {j k : Nat} (ha : Vk a j) (hb : Vk b k) : Vk (sumP a b) (j + k + 1) := ⟨Rk.add ha.1 hb.1, Rk.add ha.2.1 hb.2.1, Rk.add ha.2.2 hb.2.2⟩
theorem Vk.mono {v : P3} {j k : Nat} (h : Vk v j) (hk : j ≤ k) : Vk v k := ⟨h.1.mono hk, h.2.1.mono hk, h.2.2.mono hk⟩
theorem Pk.three {l m n : Z4} {k : Nat} (hl : Fk l k) (hm : Fk m k) (hn : Fk n k) : Pk (threeF l m n) (3 * (36 * max k 1 + 20)) := by
  have vl := Vk.nrm hl
  have vm := Vk.nrm hm
  have vn := Vk.nrm hn
  have c1 := Vk.cross vm vn
  have c2 := Vk.cross vn vl
  have c3 := Vk.cross vl vm
  have hd := Rk.dot3 vl c1
  have hs := Vk.sumP (Vk.sumP (Vk.mulP c1 (Rk.int hl.2.2.2)) (Vk.mulP c2 (Rk.int hm.2.2.2))) (Vk.mulP c3 (Rk.int hn.2.2.2))
  exact Pk.ofV3 ⟨(Is.quo hs.1 hd).mono (by omega), (Is.quo hs.2.1 hd).mono (by omega), (Is.quo hs.2.2 hd).mono (by omega)⟩
theorem Pk.line {p : Z4} {a b : P3} {k j : Nat} (hp : Fk p k) (ha : Pk a j) (hb : Pk b j) : Pk (lineF p a b) (3 * (10 * max k 1 + 14 * max j 1 + 14)) := by
  have vp := Vk.nrm hp
  have va := Vk.ofP1 ha
  have vw := Vk.subP hb ha
  have hby := Rk.dot3 vp vw
  have ht := Is.quo (Rk.sub (Rk.int hp.2.2.2) (Rk.dot3 vp va)) hby
  exact Pk.ofV3 ((Vk.sumP va (Vk.mulP vw ht)).mono (by omega))
theorem Fk.thr6 {a b c : P3} {k : Nat} (ha : Pk a k) (hb : Pk b k) (hc : Pk c k) (hk : 1 ≤ k) : Fk (Go.Proofs.YtfapglafeghggaaGreatDoor.canQ (thrQ a b c)) (4 * (27 * k + 19)) := by
  have va := Vk.ofP ha hk
  have vb := Vk.ofP hb hk
  have vc := Vk.ofP hc hk
  have vu : Vk (P3.mk (b.x - a.x) (b.y - a.y) (b.z - a.z)) (k + k + 1) := ⟨Rk.sub vb.1 va.1, Rk.sub vb.2.1 va.2.1, Rk.sub vb.2.2 va.2.2⟩
  have vv : Vk (P3.mk (c.x - a.x) (c.y - a.y) (c.z - a.z)) (k + k + 1) := ⟨Rk.sub vc.1 va.1, Rk.sub vc.2.1 va.2.1, Rk.sub vc.2.2 va.2.2⟩
  have vn := Vk.cross vu vv
  have vd := Rk.dot vn va
  exact Fk.canQ (vn.1.mono (by omega)) (vn.2.1.mono (by omega)) (vn.2.2.mono (by omega)) (vd.mono (by omega))
abbrev P8 : Value := .agg #[.bool false, .string ⟨#[]⟩, .bool false, .string ⟨#[]⟩, .bool false, .string ⟨#[]⟩, .bool false, .string ⟨#[]⟩]
def threeV (l m n : Z4) : Value := if detF l m n = 0 then .tuple #[P8, .bool false] else .tuple #[PV (threeF l m n), .bool true]
def lineV (p : Z4) (a b : P3) : Value := if byF p a b = 0 then .tuple #[P8, .bool false] else .tuple #[PV (lineF p a b), .bool true]
def shareV (a b c d : P3) : Value := if shareP a b c d then .tuple #[PV (loS a b c d), PV (hiS a b c d), .bool true] else .tuple #[P8, P8, .bool false]
theorem Pk.loS {a b c d : P3} {k : Nat} (ha : Pk a k) (hb : Pk b k) (hc : Pk c k) (hd : Pk d k) : Pk (loS a b c d) k := by
  unfold Go.Proofs.YtfapglafeghggaaGreatDoor.loS lowP
  (repeat' split) <;> assumption
theorem Pk.hiS {a b c d : P3} {k : Nat} (ha : Pk a k) (hb : Pk b k) (hc : Pk c k) (hd : Pk d k) : Pk (hiS a b c d) k := by
  unfold Go.Proofs.YtfapglafeghggaaGreatDoor.hiS topP
  (repeat' split) <;> assumption
end Go.Proofs.YtfapglafeghggaaGreatDoor
