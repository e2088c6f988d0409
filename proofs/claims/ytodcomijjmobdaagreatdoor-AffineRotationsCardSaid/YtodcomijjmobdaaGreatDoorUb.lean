/- Intersections: sizes, what the functions return. -/
import Derived.Test.YtodcomijjmobdaaGreatDoorUa
set_option linter.unusedVariables false
set_option linter.unusedSimpArgs false
namespace Go.Proofs.YtodcomijjmobdaaGreatDoor
open Go.RowKit NM SX

/-- Practice alone: in the place of the table, where a program has none. -/
def TabX (_ : World) : Prop := True
theorem TabX.later {w w' : World} (_ : TabX w) (_ : Below w.heap.size w w') : TabX w' := trivial
theorem sgQ_beq (q : Rat) : (sgQ q == 0) = decide (q = 0) := by
  rw [show (sgQ q == 0) = decide (sgQ q = 0) from rfl, decide_eq_decide]
  exact sgQ_eq_zero
theorem Vk.subP {a b : P3} {j k : Nat} (ha : Pk a j) (hb : Pk b k) : Vk (subP a b) (max j 1 + max k 1 + 1) := by
  have va := Vk.ofP1 ha
  have vb := Vk.ofP1 hb
  exact ⟨Rk.sub va.1 vb.1, Rk.sub va.2.1 vb.2.1, Rk.sub va.2.2 vb.2.2⟩
theorem Rk.dot3 {a b : P3} {j k : Nat} (ha : Vk a j) (hb : Vk b k) : Rk (dot3 a b) (3 * (max j 1 + max k 1) + 2) :=
  (Rk.add (Rk.add (Is.mul ha.1 hb.1) (Is.mul ha.2.1 hb.2.1)) (Is.mul ha.2.2 hb.2.2)).mono (by omega)
theorem Vk.nrm {q : Z4} {k : Nat} (h : Fk q k) : Vk (nrmF q) (max k 1) := ⟨Rk.int h.1, Rk.int h.2.1, Rk.int h.2.2.1⟩
theorem Vk.mulP {a : P3} {t : Rat} {j k : Nat} (ha : Vk a j) (ht : Rk t k) : Vk (mulP a t) (max j 1 + max k 1) :=
  ⟨(Is.mul ha.1 ht).mono (by omega), (Is.mul ha.2.1 ht).mono (by omega), (Is.mul ha.2.2 ht).mono (by omega)⟩
theorem Vk.sumP {a b : P3} {j k : Nat} (ha : Vk a j) (hb : Vk b k) : Vk (sumP a b) (j + k + 1) := ⟨Rk.add ha.1 hb.1, Rk.add ha.2.1 hb.2.1, Rk.add ha.2.2 hb.2.2⟩
theorem Vk.mono {v : P3} {j k : Nat} (h : Vk v j) (hk : j ≤ k) : Vk v k := ⟨h.1.mono hk, h.2.1.mono hk, h.2.2.mono hk⟩
theorem Pk.three {l m n : Z4} {k : Nat} (hl : Fk l k) (hm : Fk m k) (hn : Fk n k) : Pk (threeF l m n) (3 * (36 * max k 1 + 20)) := by
  have vl := Vk.nrm hl
  have vm := Vk.nrm hm
  have vn := Vk.nrm hn
  have c1 := Vk.cross vm vn
  have c2 := Vk.cross vn vl
  have c3 := Vk.cross vl vm
  have hd := Rk.dot3 vl c1
  have hs := Vk.sumP (Vk.sumP (Vk.mulP c1 (Rk.int hl.2.2.2)) (Vk.mulP c2 (Rk.int hm.2.2.2))) (Vk.mulP c3 (Rk.int hn.2.2.2))
  exact Pk.ofV3 ⟨(Is.quo hs.1 hd).mono (by omega), (Is.quo hs.2.1 hd).mono (by omega), (Is.quo hs.2.2 hd).mono (by omega)⟩
theorem Pk.loS {a b c d : P3} {k : Nat} (ha : Pk a k) (hb : Pk b k) (hc : Pk c k) (hd : Pk d k) : Pk (loS a b c d) k := by
  unfold Go.Proofs.YtodcomijjmobdaaGreatDoor.loS lowP
  (repeat' split) <;> assumption
theorem Pk.hiS {a b c d : P3} {k : Nat} (ha : Pk a k) (hb : Pk b k) (hc : Pk c k) (hd : Pk d k) : Pk (hiS a b c d) k := by
  unfold Go.Proofs.YtodcomijjmobdaaGreatDoor.hiS topP
  (repeat' split) <;> assumption
end Go.Proofs.YtodcomijjmobdaaGreatDoor
