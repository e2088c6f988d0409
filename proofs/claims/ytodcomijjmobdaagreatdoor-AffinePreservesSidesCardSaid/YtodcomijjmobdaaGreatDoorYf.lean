/- Package affine: its closures. -/
import Derived.Test.YtodcomijjmobdaaGreatDoorYc
import Derived.Test.YtodcomijjmobdaaGreatDoorPd
set_option linter.unusedVariables false
set_option linter.unusedSimpArgs false
namespace Go.Proofs.YtodcomijjmobdaaGreatDoor
open Go.RowKit NM SX
/-! Boxes that were there before; what a call is told of them. -/
theorem held_nil {ρ : Env} {w : World} : Held ρ [] [] w := ⟨rfl, fun b t l h => by simp at h⟩
theorem held_cons {ρ : Env} {g : Nat} {t : TypeId} {l : List SC} {G : List Nat} {X : List (TypeId × List SC)} {w : World} (hl : (Nat.ble (l.length + 2) stride && l.all SC.shut && !l.isEmpty) = true) (h : CellsAt w g 0 (l.map (SC.den (fun _ => 0) ρ))) (k : Held ρ G X w) : Held ρ (g :: G) ((t, l) :: X) w := by
  obtain ⟨k1, k2⟩ := k
  obtain ⟨_, h2⟩ := held1 (t := t) hl h
  refine ⟨by simp [k1], fun b t' l' hb => ?_⟩
  cases b with
  | zero => exact h2 0 t' l' (by simpa using hb)
  | succ b => exact k2 b t' l' (by simpa using hb)
theorem mem_box {γ : Nat → Nat} {ρ : Env} {w : World} {mem : List (Nat × SC)} {b : Nat} {l : List SC} (hm : Mem γ ρ mem w) (hl : Nat.ble (l.length + 2) stride = true) (hk : (List.range l.length).map (fun j => lk (b * stride + 1 + j) mem) = l.map some) : CellsAt w (γ b) 0 (l.map (SC.den γ ρ)) := by
  have hl := Nat.le_of_ble_eq_true hl
  intro j v hv
  rw [List.getElem?_map, Option.map_eq_some_iff] at hv
  obtain ⟨x, hx, rfl⟩ := hv
  have hj := (List.getElem?_eq_some_iff.1 hx).1
  have e := congrArg (fun l => l[j]?) hk
  simp only [List.getElem?_map, List.getElem?_range hj, hx, Option.map_some, Option.some.injEq] at e
  have := hm (b * stride + 1 + j) x e
  have e1 : (b * stride + 1 + j) / stride = b := by simp only [stride] at hl ⊢; omega
  have e2 : (b * stride + 1 + j) % stride - 1 = j := by simp only [stride] at hl ⊢; omega
  rw [e1, e2] at this
  rw [Nat.zero_add]
  exact this
theorem caps_eq (l cl : List Value) : (#[] ++ l.toArray ++ cl.toArray : Array Value) = (l ++ cl).toArray := by simp
/-! Functions that take a function. -/
set_option maxRecDepth 100000 in
theorem afFilled {g : FuncId} {cl : List Value} (hg : callable Tryz.prog g = true) {d : Int} {e : Nat → Nat → Int} (w : World)
    (hE : ∀ r c : Nat, r < 3 → c < 4 → ∀ w', Below w.heap.size w w' → Calls Tryz.prog g (([.int .i64 (r : Int), .int .i64 (c : Int)] : List Value) ++ cl).toArray w' fun x w2 => x = .returned (Z (e r c)) ∧ Below w'.heap.size w' w2) :
    Calls Tryz.prog 68 #[Z d, .func (.func g) #[] cl.toArray] w fun x w' => x = .returned (XV (matE e d)) ∧ Below w.heap.size w w' := by
  have hE' : ∀ r c : Nat, r < 3 → c < 4 → ∀ w', Below w.heap.size w w' → Calls Tryz.prog g (#[] ++ ([.int .i64 (r : Int), .int .i64 (c : Int)] : List Value).toArray ++ cl.toArray) w' fun x w2 => x = .returned (Z (e r c)) ∧ Below w'.heap.size w' w2 := by
    intro r c hr hc w' hb
    rw [caps_eq]
    exact hE r c hr hc w' hb
  have H := SX.run (w := w) (.bool (sg d) :: .string (mg d) :: .func (.func g) #[] cl.toArray :: ([.bool (sg (e 0 0)), .string (mg (e 0 0)), .bool (sg (e 0 1)), .string (mg (e 0 1)), .bool (sg (e 0 2)), .string (mg (e 0 2)), .bool (sg (e 0 3)), .string (mg (e 0 3)), .bool (sg (e 1 0)), .string (mg (e 1 0)), .bool (sg (e 1 1)), .string (mg (e 1 1)), .bool (sg (e 1 2)), .string (mg (e 1 2)), .bool (sg (e 1 3)), .string (mg (e 1 3)), .bool (sg (e 2 0)), .string (mg (e 2 0)), .bool (sg (e 2 1)), .string (mg (e 2 1)), .bool (sg (e 2 2)), .string (mg (e 2 2)), .bool (sg (e 2 3)), .string (mg (e 2 3))] : List Value)) [] [.ga 0 2, .ca 2] 3 (.one (.agg [.pa 3, .pa 4, .pa 5, .pa 6, .pa 7, .pa 8, .pa 9, .pa 10, .pa 11, .pa 12, .pa 13, .pa 14, .pa 15, .pa 16, .pa 17, .pa 18, .pa 19, .pa 20, .pa 21, .pa 22, .pa 23, .pa 24, .pa 25, .pa 26, .p (.lit (.bool false)), .p (.lit (.string ⟨#[]⟩)), .p (.lit (.bool false)), .p (.lit (.string ⟨#[]⟩)), .p (.lit (.bool false)), .p (.lit (.string ⟨#[]⟩)), .pa 0, .pa 1])) [.callv 2 [.c (.p (.lit (.int .i64 0))), .c (.p (.lit (.int .i64 0)))] (.one (.ga 3 2)) [], .callv 2 [.c (.p (.lit (.int .i64 0))), .c (.p (.lit (.int .i64 1)))] (.one (.ga 5 2)) [], .callv 2 [.c (.p (.lit (.int .i64 0))), .c (.p (.lit (.int .i64 2)))] (.one (.ga 7 2)) [], .callv 2 [.c (.p (.lit (.int .i64 0))), .c (.p (.lit (.int .i64 3)))] (.one (.ga 9 2)) [], .callv 2 [.c (.p (.lit (.int .i64 1))), .c (.p (.lit (.int .i64 0)))] (.one (.ga 11 2)) [], .callv 2 [.c (.p (.lit (.int .i64 1))), .c (.p (.lit (.int .i64 1)))] (.one (.ga 13 2)) [], .callv 2 [.c (.p (.lit (.int .i64 1))), .c (.p (.lit (.int .i64 2)))] (.one (.ga 15 2)) [], .callv 2 [.c (.p (.lit (.int .i64 1))), .c (.p (.lit (.int .i64 3)))] (.one (.ga 17 2)) [], .callv 2 [.c (.p (.lit (.int .i64 2))), .c (.p (.lit (.int .i64 0)))] (.one (.ga 19 2)) [], .callv 2 [.c (.p (.lit (.int .i64 2))), .c (.p (.lit (.int .i64 1)))] (.one (.ga 21 2)) [], .callv 2 [.c (.p (.lit (.int .i64 2))), .c (.p (.lit (.int .i64 2)))] (.one (.ga 23 2)) [], .callv 2 [.c (.p (.lit (.int .i64 2))), .c (.p (.lit (.int .i64 3)))] (.one (.ga 25 2)) []] Tryz.func68 (by kernel_rfl) rfl (by kernel_rfl) rfl (by kernel_rfl)
    ⟨⟨g, #[], cl.toArray, rfl, hg, fun γ w' hb _ => hE' 0 0 (by decide) (by decide) w' hb⟩,
     ⟨g, #[], cl.toArray, rfl, hg, fun γ w' hb _ => hE' 0 1 (by decide) (by decide) w' hb⟩,
     ⟨g, #[], cl.toArray, rfl, hg, fun γ w' hb _ => hE' 0 2 (by decide) (by decide) w' hb⟩,
     ⟨g, #[], cl.toArray, rfl, hg, fun γ w' hb _ => hE' 0 3 (by decide) (by decide) w' hb⟩,
     ⟨g, #[], cl.toArray, rfl, hg, fun γ w' hb _ => hE' 1 0 (by decide) (by decide) w' hb⟩,
     ⟨g, #[], cl.toArray, rfl, hg, fun γ w' hb _ => hE' 1 1 (by decide) (by decide) w' hb⟩,
     ⟨g, #[], cl.toArray, rfl, hg, fun γ w' hb _ => hE' 1 2 (by decide) (by decide) w' hb⟩,
     ⟨g, #[], cl.toArray, rfl, hg, fun γ w' hb _ => hE' 1 3 (by decide) (by decide) w' hb⟩,
     ⟨g, #[], cl.toArray, rfl, hg, fun γ w' hb _ => hE' 2 0 (by decide) (by decide) w' hb⟩,
     ⟨g, #[], cl.toArray, rfl, hg, fun γ w' hb _ => hE' 2 1 (by decide) (by decide) w' hb⟩,
     ⟨g, #[], cl.toArray, rfl, hg, fun γ w' hb _ => hE' 2 2 (by decide) (by decide) w' hb⟩,
     ⟨g, #[], cl.toArray, rfl, hg, fun γ w' hb _ => hE' 2 3 (by decide) (by decide) w' hb⟩⟩
  exact H
theorem afSum3 {g : FuncId} {cl : List Value} (hg : callable Tryz.prog g = true) {t : Nat → Int} (w : World)
    (hE : ∀ k : Nat, k < 3 → ∀ w', Below w.heap.size w w' → Calls Tryz.prog g (([.int .i64 (k : Int)] : List Value) ++ cl).toArray w' fun x w2 => x = .returned (Z (t k)) ∧ Below w'.heap.size w' w2) (z : ∀ k, k < 3 → Zk (t k) 100000) :
    Calls Tryz.prog 57 #[.int .i64 3, .func (.func g) #[] cl.toArray] w fun x w' => x = .returned (Z (sum3 t)) ∧ Below w.heap.size w w' := by
  have hE' : ∀ k : Nat, k < 3 → ∀ w', Below w.heap.size w w' → Calls Tryz.prog g (#[] ++ ([.int .i64 (k : Int)] : List Value).toArray ++ cl.toArray) w' fun x w2 => x = .returned (Z (t k)) ∧ Below w'.heap.size w' w2 := by
    intro k hk w' hb
    rw [caps_eq]
    exact hE k hk w' hb
  have z1 : Zk (0 + t 0) 100001 := Zk.up (Is.add (Zk.zero.up (by decide : 0 ≤ 100000)) (z 0 (by decide))) (by decide)
  have z2 : Zk (0 + t 0 + t 1) 100002 := Zk.up (Is.add (z1) (z 1 (by decide))) (by decide)
  have H := SX.runX (w := w) (.func (.func g) #[] cl.toArray :: List.flatten [zc (t 0), zc (0 + t 0), zc (t 1), zc (0 + t 0 + t 1), zc (t 2), zc (0 + t 0 + t 1 + t 2)]) [] [] [.c (.p (.lit (.int .i64 3))), .ca 0] 1 [] (.one (.ga 11 2)) [.callv 0 [.c (.p (.lit (.int .i64 0)))] (.one (.ga 1 2)) [], .call 87 [.agg [.p (.lit (.bool false)), .p (.lit (.string ⟨#[]⟩))], .ga 1 2] (.one (.ga 3 2)) [], .callv 0 [.c (.p (.lit (.int .i64 1)))] (.one (.ga 5 2)) [], .call 87 [.ga 3 2, .ga 5 2] (.one (.ga 7 2)) [], .callv 0 [.c (.p (.lit (.int .i64 2)))] (.one (.ga 9 2)) [], .call 87 [.ga 7 2, .ga 9 2] (.one (.ga 11 2)) []] ⟨rfl, fun b t l h => by simp at h⟩ Tryz.func57 (by kernel_rfl) rfl rfl (by kernel_rfl)
    ⟨⟨g, #[], cl.toArray, rfl, hg, fun γ w' hb _ => hE' 0 (by decide) w' hb⟩,
     fun γ w' _ _ => by have h := iAdd (IsZ.zero.up (by decide : 0 ≤ 100000)) (by decide) (IsZ.can (z 0 (by decide))) (by decide) w'; exact h,
     ⟨g, #[], cl.toArray, rfl, hg, fun γ w' hb _ => hE' 1 (by decide) w' hb⟩,
     fun γ w' _ _ => by have h := iAdd (IsZ.can z1) (by decide) (IsZ.can (z 1 (by decide))) (by decide) w'; exact h,
     ⟨g, #[], cl.toArray, rfl, hg, fun γ w' hb _ => hE' 2 (by decide) w' hb⟩,
     fun γ w' _ _ => by have h := iAdd (IsZ.can z2) (by decide) (IsZ.can (z 2 (by decide))) (by decide) w'; exact h⟩
  exact H
theorem afSum4 {g : FuncId} {cl : List Value} (hg : callable Tryz.prog g = true) {t : Nat → Int} (w : World)
    (hE : ∀ k : Nat, k < 4 → ∀ w', Below w.heap.size w w' → Calls Tryz.prog g (([.int .i64 (k : Int)] : List Value) ++ cl).toArray w' fun x w2 => x = .returned (Z (t k)) ∧ Below w'.heap.size w' w2) (z : ∀ k, k < 4 → Zk (t k) 100000) :
    Calls Tryz.prog 57 #[.int .i64 4, .func (.func g) #[] cl.toArray] w fun x w' => x = .returned (Z (sum4 t)) ∧ Below w.heap.size w w' := by
  have hE' : ∀ k : Nat, k < 4 → ∀ w', Below w.heap.size w w' → Calls Tryz.prog g (#[] ++ ([.int .i64 (k : Int)] : List Value).toArray ++ cl.toArray) w' fun x w2 => x = .returned (Z (t k)) ∧ Below w'.heap.size w' w2 := by
    intro k hk w' hb
    rw [caps_eq]
    exact hE k hk w' hb
  have z1 : Zk (0 + t 0) 100001 := Zk.up (Is.add (Zk.zero.up (by decide : 0 ≤ 100000)) (z 0 (by decide))) (by decide)
  have z2 : Zk (0 + t 0 + t 1) 100002 := Zk.up (Is.add (z1) (z 1 (by decide))) (by decide)
  have z3 : Zk (0 + t 0 + t 1 + t 2) 100003 := Zk.up (Is.add (z2) (z 2 (by decide))) (by decide)
  have H := SX.runX (w := w) (.func (.func g) #[] cl.toArray :: List.flatten [zc (t 0), zc (0 + t 0), zc (t 1), zc (0 + t 0 + t 1), zc (t 2), zc (0 + t 0 + t 1 + t 2), zc (t 3), zc (0 + t 0 + t 1 + t 2 + t 3)]) [] [] [.c (.p (.lit (.int .i64 4))), .ca 0] 1 [] (.one (.ga 15 2)) [.callv 0 [.c (.p (.lit (.int .i64 0)))] (.one (.ga 1 2)) [], .call 87 [.agg [.p (.lit (.bool false)), .p (.lit (.string ⟨#[]⟩))], .ga 1 2] (.one (.ga 3 2)) [], .callv 0 [.c (.p (.lit (.int .i64 1)))] (.one (.ga 5 2)) [], .call 87 [.ga 3 2, .ga 5 2] (.one (.ga 7 2)) [], .callv 0 [.c (.p (.lit (.int .i64 2)))] (.one (.ga 9 2)) [], .call 87 [.ga 7 2, .ga 9 2] (.one (.ga 11 2)) [], .callv 0 [.c (.p (.lit (.int .i64 3)))] (.one (.ga 13 2)) [], .call 87 [.ga 11 2, .ga 13 2] (.one (.ga 15 2)) []] ⟨rfl, fun b t l h => by simp at h⟩ Tryz.func57 (by kernel_rfl) rfl rfl (by kernel_rfl)
    ⟨⟨g, #[], cl.toArray, rfl, hg, fun γ w' hb _ => hE' 0 (by decide) w' hb⟩,
     fun γ w' _ _ => by have h := iAdd (IsZ.zero.up (by decide : 0 ≤ 100000)) (by decide) (IsZ.can (z 0 (by decide))) (by decide) w'; exact h,
     ⟨g, #[], cl.toArray, rfl, hg, fun γ w' hb _ => hE' 1 (by decide) w' hb⟩,
     fun γ w' _ _ => by have h := iAdd (IsZ.can z1) (by decide) (IsZ.can (z 1 (by decide))) (by decide) w'; exact h,
     ⟨g, #[], cl.toArray, rfl, hg, fun γ w' hb _ => hE' 2 (by decide) w' hb⟩,
     fun γ w' _ _ => by have h := iAdd (IsZ.can z2) (by decide) (IsZ.can (z 2 (by decide))) (by decide) w'; exact h,
     ⟨g, #[], cl.toArray, rfl, hg, fun γ w' hb _ => hE' 3 (by decide) w' hb⟩,
     fun γ w' _ _ => by have h := iAdd (IsZ.can z3) (by decide) (IsZ.can (z 3 (by decide))) (by decide) w'; exact h⟩
  exact H
abbrev afDiag_y_L (x : Int) : List Value := zc x
set_option maxRecDepth 100000 in
theorem afDiag_y {x : Int} {r c : Nat} (hr : r < 3) (hc : c < 4) (hcond : r = c) (w : World)  :
    Calls Tryz.prog 86 #[.int .i64 (r : Int), .int .i64 (c : Int), Z x] w fun e w' => e = .returned (Z x) ∧ Below w.heap.size w w' := by
  have hrun : SX.runF Tryz.prog Tryz.f86 [.c (.p (.lit (.int .i64 ((r : Int))))), .c (.p (.lit (.int .i64 ((c : Int))))), .ga 0 2] [] 2 [] = some (.one (.ga 0 2), []) := by
    rcases three hr with rfl | rfl | rfl <;> rcases four hc with rfl | rfl | rfl | rfl <;> first | exact absurd hcond (by decide) | kernel_rfl
  have H := SX.runX (w := w) (afDiag_y_L x) [] [] [.c (.p (.lit (.int .i64 ((r : Int))))), .c (.p (.lit (.int .i64 ((c : Int))))), .ga 0 2] 2 [] (.one (.ga 0 2)) [] ⟨rfl, fun b t l h => by simp at h⟩ Tryz.func86 (by kernel_rfl) rfl rfl hrun
    trivial
  exact H
abbrev afDiag_n_L (x : Int) : List Value := zc x
set_option maxRecDepth 100000 in
theorem afDiag_n {x : Int} {r c : Nat} (hr : r < 3) (hc : c < 4) (hcond : r ≠ c) (w : World)  :
    Calls Tryz.prog 86 #[.int .i64 (r : Int), .int .i64 (c : Int), Z x] w fun e w' => e = .returned (Z 0) ∧ Below w.heap.size w w' := by
  have hrun : SX.runF Tryz.prog Tryz.f86 [.c (.p (.lit (.int .i64 ((r : Int))))), .c (.p (.lit (.int .i64 ((c : Int))))), .ga 0 2] [] 2 [] = some (.one (.agg [.p (.lit (.bool false)), .p (.lit (.string ⟨#[]⟩))]), []) := by
    rcases three hr with rfl | rfl | rfl <;> rcases four hc with rfl | rfl | rfl | rfl <;> first | exact absurd hcond (by decide) | kernel_rfl
  have H := SX.runX (w := w) (afDiag_n_L x) [] [] [.c (.p (.lit (.int .i64 ((r : Int))))), .c (.p (.lit (.int .i64 ((c : Int))))), .ga 0 2] 2 [] (.one (.agg [.p (.lit (.bool false)), .p (.lit (.string ⟨#[]⟩))])) [] ⟨rfl, fun b t l h => by simp at h⟩ Tryz.func86 (by kernel_rfl) rfl rfl hrun
    trivial
  exact H
theorem afDiag {x : Int} {r c : Nat} (hr : r < 3) (hc : c < 4) (w : World) :
    Calls Tryz.prog 86 #[.int .i64 (r : Int), .int .i64 (c : Int), Z x] w fun e w' => e = .returned (Z (if r = c then x else 0)) ∧ Below w.heap.size w w' := by
  by_cases h : r = c
  · rw [if_pos h]; exact afDiag_y hr hc h w
  · rw [if_neg h]; exact afDiag_n hr hc h w
abbrev mraw (b : Nat → Bool) (s : Nat → ByteArray) : List Value := [.bool (b 0), .string (s 0), .string (s 1), .bool (b 1), .string (s 2), .string (s 3), .bool (b 2), .string (s 4), .string (s 5), .bool (b 3), .string (s 6), .string (s 7), .bool (b 4), .string (s 8), .string (s 9), .bool (b 5), .string (s 10), .string (s 11), .bool (b 6), .string (s 12), .string (s 13), .bool (b 7), .string (s 14), .string (s 15), .bool (b 8), .string (s 16), .string (s 17), .bool (b 9), .string (s 18), .string (s 19), .bool (b 10), .string (s 20), .string (s 21), .bool (b 11), .string (s 22), .string (s 23)]
abbrev afFrom_c_L (m : M3) (b : Nat → Bool) (s : Nat → ByteArray) (C : Int) (r c : Nat) : List Value := mraw b s ++ (zc C ++ (zc (entM m (4 * r + c)).num ++ (zc (((entM m (4 * r + c)).den : Nat) : Int) ++ (zc (divq C (((entM m (4 * r + c)).den : Nat) : Int)) ++ (zc (divr C (((entM m (4 * r + c)).den : Nat) : Int)) ++ (.bool (decide ((((entM m (4 * r + c)).den : Nat) : Int) ≠ 0)) :: zc ((entM m (4 * r + c)).num * divq C (((entM m (4 * r + c)).den : Nat) : Int))))))))
set_option maxRecDepth 100000 in
theorem afFrom_c {m : M3} {b : Nat → Bool} {s : Nat → ByteArray} {C : Int} {r c : Nat} (hr : r < 3) (hc : c < 4) (hm : ∀ i, i < 12 → IsQ (Q3 (b i) (s (2 * i)) (s (2 * i + 1))) (entM m i) 1000) (zC : Zk C 12001) (w : World) (hT : TabC w) (g0 : Nat) (g1 : Nat) (b0 : SX.CellsAt w g0 0 (mraw b s)) (b1 : SX.CellsAt w g1 0 (zc C)) :
    Calls Tryz.prog 112 #[.int .i64 (r : Int), .int .i64 (c : Int), .pointer (some ⟨g0, 0, none⟩), .pointer (some ⟨g1, 0, none⟩)] w fun e w' => e = .returned (Z ((entM m (4 * r + c)).num * divq C (((entM m (4 * r + c)).den : Nat) : Int))) ∧ Below w.heap.size w w' := by
  have hrun : SX.runF Tryz.prog Tryz.f112 [.c (.p (.lit (.int .i64 ((r : Int))))), .c (.p (.lit (.int .i64 ((c : Int))))), .c (.p (.ptr 0 0)), .c (.p (.ptr 1 0))] [(25, SX.rg 0 36), (27, [.pa 36, .pa 37])] 38 [] = some (.one (.ga 47 2), [.call 98 [.ga (12 * r + 3 * c) 3] (.tup [.ga 38 2, .ga 40 2]) [], .call 113 [.ga 36 2, .ga 40 2] (.tup [.ga 42 2, .ga 44 2, .ca 46]) [], .call 59 [.ga 38 2, .ga 42 2] (.one (.ga 47 2)) []]) := by
    rcases three hr with rfl | rfl | rfl <;> rcases four hc with rfl | rfl | rfl | rfl <;> kernel_rfl
  have q0 : SX.env (afFrom_c_L m b s C r c) (12 * r + 3 * c) = .bool (b (4 * r + c)) := by
    rcases three hr with rfl | rfl | rfl <;> rcases four hc with rfl | rfl | rfl | rfl <;> rfl
  have q1 : SX.env (afFrom_c_L m b s C r c) (12 * r + 3 * c + 1) = .string (s (2 * (4 * r + c))) := by
    rcases three hr with rfl | rfl | rfl <;> rcases four hc with rfl | rfl | rfl | rfl <;> rfl
  have q2 : SX.env (afFrom_c_L m b s C r c) (12 * r + 3 * c + 1 + 1) = .string (s (2 * (4 * r + c) + 1)) := by
    rcases three hr with rfl | rfl | rfl <;> rcases four hc with rfl | rfl | rfl | rfl <;> rfl
  have hz := (hm (4 * r + c) (by omega)).sz (by decide)
  have hd : Zk (((entM m (4 * r + c)).den : Nat) : Int) 1000 := hz.2
  have H := SX.runX (w := w) (afFrom_c_L m b s C r c) [g0, g1] [(25, SX.rg 0 36), (27, [.pa 36, .pa 37])] [.c (.p (.lit (.int .i64 ((r : Int))))), .c (.p (.lit (.int .i64 ((c : Int))))), .c (.p (.ptr 0 0)), .c (.p (.ptr 1 0))] 38 [] (.one (.ga 47 2)) [.call 98 [.ga (12 * r + 3 * c) 3] (.tup [.ga 38 2, .ga 40 2]) [], .call 113 [.ga 36 2, .ga 40 2] (.tup [.ga 42 2, .ga 44 2, .ca 46]) [], .call 59 [.ga 38 2, .ga 42 2] (.one (.ga 47 2)) []] (held_cons rfl b0 (held_cons rfl b1 held_nil)) Tryz.func112 (by kernel_rfl) rfl rfl hrun
    ⟨fun γ w' hb _ => by
      have h := qParts (hm (4 * r + c) (by omega)) (by decide) w' (hT.later hb)
      show Calls _ _ #[.agg #[SX.env (afFrom_c_L m b s C r c) (12 * r + 3 * c), SX.env (afFrom_c_L m b s C r c) (12 * r + 3 * c + 1), SX.env (afFrom_c_L m b s C r c) (12 * r + 3 * c + 1 + 1)]] w' _
      rw [q0, q1, q2]
      exact h,
     fun γ w' _ _ => by have h := iDiv (IsZ.can zC) (by decide) (IsZ.can hd) (by decide) w'; exact h,
     fun γ w' _ _ => by have h := iMul (IsZ.can hz.1) (by decide) (IsZ.can (Is.divq zC hd)) (by decide) w'; exact h⟩
  exact H
abbrev afShift_n_L (q : Z4) (r c : Nat) : List Value := fc q ++ zc (if r = c then q.d else 0)
set_option maxRecDepth 100000 in
theorem afShift_n {q : Z4} {r c : Nat} (hr : r < 3) (hc : c < 4) (hcond : c ≠ 3) (w : World) (g0 : Nat) (b0 : SX.CellsAt w g0 0 (fc q)) :
    Calls Tryz.prog 92 #[.int .i64 (r : Int), .int .i64 (c : Int), .pointer (some ⟨g0, 0, none⟩)] w fun e w' => e = .returned (Z (if r = c then q.d else 0)) ∧ Below w.heap.size w w' := by
  have hrun : SX.runF Tryz.prog Tryz.f92 [.c (.p (.lit (.int .i64 ((r : Int))))), .c (.p (.lit (.int .i64 ((c : Int))))), .c (.p (.ptr 0 0))] [(73, SX.rg 0 8)] 8 [] = some (.one (.ga 8 2), [.call 86 [.c (.p (.lit (.int .i64 (r)))), .c (.p (.lit (.int .i64 (c)))), .ga 6 2] (.one (.ga 8 2)) []]) := by
    rcases three hr with rfl | rfl | rfl <;> rcases four hc with rfl | rfl | rfl | rfl <;> first | exact absurd hcond (by decide) | kernel_rfl
  have H := SX.runX (w := w) (afShift_n_L q r c) [g0] [(73, SX.rg 0 8)] [.c (.p (.lit (.int .i64 ((r : Int))))), .c (.p (.lit (.int .i64 ((c : Int))))), .c (.p (.ptr 0 0))] 8 [] (.one (.ga 8 2)) [.call 86 [.c (.p (.lit (.int .i64 (r)))), .c (.p (.lit (.int .i64 (c)))), .ga 6 2] (.one (.ga 8 2)) []] (held_cons rfl b0 held_nil) Tryz.func92 (by kernel_rfl) rfl rfl hrun
    (SX.All.one (fun γ w' _ _ => by have h := afDiag (x := q.d) hr hc w'; exact h))
  exact H
abbrev afShift_3_L (q : Z4) : List Value := fc q
set_option maxRecDepth 100000 in
theorem afShift_3 {q : Z4} {r c : Nat} (hr : r < 3) (hc : c < 4) (hcond : c = 3) (w : World) (g0 : Nat) (b0 : SX.CellsAt w g0 0 (fc q)) :
    Calls Tryz.prog 92 #[.int .i64 (r : Int), .int .i64 (c : Int), .pointer (some ⟨g0, 0, none⟩)] w fun e w' => e = .returned (Z (fourF q r)) ∧ Below w.heap.size w w' := by
  have hrun : SX.runF Tryz.prog Tryz.f92 [.c (.p (.lit (.int .i64 ((r : Int))))), .c (.p (.lit (.int .i64 ((c : Int))))), .c (.p (.ptr 0 0))] [(73, SX.rg 0 8)] 8 [] = some (.one (.ga (2 * r) 2), []) := by
    rcases three hr with rfl | rfl | rfl <;> rcases four hc with rfl | rfl | rfl | rfl <;> first | exact absurd hcond (by decide) | kernel_rfl
  have H := SX.runX (w := w) (afShift_3_L q) [g0] [(73, SX.rg 0 8)] [.c (.p (.lit (.int .i64 ((r : Int))))), .c (.p (.lit (.int .i64 ((c : Int))))), .c (.p (.ptr 0 0))] 8 [] (.one (.ga (2 * r) 2)) [] (held_cons rfl b0 held_nil) Tryz.func92 (by kernel_rfl) rfl rfl hrun
    trivial
  rcases three hr with rfl | rfl | rfl <;> exact H
theorem afShift_c {q : Z4} {r c : Nat} (hr : r < 3) (hc : c < 4) (w : World) (g0 : Nat) (b0 : SX.CellsAt w g0 0 (fc q)) :
    Calls Tryz.prog 92 #[.int .i64 (r : Int), .int .i64 (c : Int), .pointer (some ⟨g0, 0, none⟩)] w fun e w' => e = .returned (Z (if c = 3 then fourF q r else if r = c then q.d else 0)) ∧ Below w.heap.size w w' := by
  by_cases h : c = 3
  · rw [if_pos h]; exact afShift_3 hr hc h w g0 b0
  · rw [if_neg h]; exact afShift_n hr hc h w g0 b0
abbrev afMir_1_L (q : Z4) (k : Nat) : List Value := fc (eq4 q) ++ zc (eqF q k * eqF q k)
set_option maxRecDepth 100000 in
theorem afMir_1 {q : Z4} {K : Nat} {k : Nat} (hk : k < 3) (g : Fk q K) (lK : K ≤ 10000) (w : World) (g0 : Nat) (b0 : SX.CellsAt w g0 0 (fc (eq4 q))) :
    Calls Tryz.prog 83 #[.int .i64 (k : Int), .pointer (some ⟨g0, 0, none⟩)] w fun e w' => e = .returned (Z (eqF q k * eqF q k)) ∧ Below w.heap.size w w' := by
  have hrun : SX.runF Tryz.prog Tryz.f83 [.c (.p (.lit (.int .i64 ((k : Int))))), .c (.p (.ptr 0 0))] [(73, SX.rg 0 8)] 8 [] = some (.one (.ga 8 2), [.call 59 [.ga (2 * k) 2, .ga (2 * k) 2] (.one (.ga 8 2)) []]) := by
    rcases three hk with rfl | rfl | rfl <;> kernel_rfl
  have q0 : SX.env (afMir_1_L q k) (2 * k) = .bool (sg (eqF q k)) := by
    rcases three hk with rfl | rfl | rfl <;> rfl
  have q1 : SX.env (afMir_1_L q k) (2 * k + 1) = .string (mg (eqF q k)) := by
    rcases three hk with rfl | rfl | rfl <;> rfl
  have H := SX.runX (w := w) (afMir_1_L q k) [g0] [(73, SX.rg 0 8)] [.c (.p (.lit (.int .i64 ((k : Int))))), .c (.p (.ptr 0 0))] 8 [] (.one (.ga 8 2)) [.call 59 [.ga (2 * k) 2, .ga (2 * k) 2] (.one (.ga 8 2)) []] (held_cons rfl b0 held_nil) Tryz.func83 (by kernel_rfl) rfl rfl hrun
    (SX.All.one (fun γ w' hb _ => by
      have h := iMul (IsZ.can (eqF_size g k (by omega))) (by omega) (IsZ.can (eqF_size g k (by omega))) (by omega) w'
      show Calls _ _ #[.agg #[SX.env (afMir_1_L q k) (2 * k), SX.env (afMir_1_L q k) (2 * k + 1)], .agg #[SX.env (afMir_1_L q k) (2 * k), SX.env (afMir_1_L q k) (2 * k + 1)]] w' _
      rw [q0, q1]
      exact h))
  exact H
abbrev afMir_2_L (q : Z4) (S : Int) (r c : Nat) : List Value := fc (eq4 q) ++ (zc S ++ (zc (eqF q r * eqF q c) ++ (zc (if r = c then S else 0) ++ (zc (eqF q r * eqF q c + eqF q r * eqF q c) ++ zc ((if r = c then S else 0) - (eqF q r * eqF q c + eqF q r * eqF q c))))))
set_option maxRecDepth 100000 in
theorem afMir_2 {q : Z4} {K : Nat} {S : Int} {r c : Nat} (hr : r < 3) (hc : c < 4) (g : Fk q K) (lK : K ≤ 10000) (zS : Zk S 30000) (w : World) (g0 : Nat) (g1 : Nat) (b0 : SX.CellsAt w g0 0 (fc (eq4 q))) (b1 : SX.CellsAt w g1 0 (zc S)) :
    Calls Tryz.prog 84 #[.int .i64 (r : Int), .int .i64 (c : Int), .pointer (some ⟨g0, 0, none⟩), .pointer (some ⟨g1, 0, none⟩)] w fun e w' => e = .returned (Z ((if r = c then S else 0) - (eqF q r * eqF q c + eqF q r * eqF q c))) ∧ Below w.heap.size w w' := by
  have hrun : SX.runF Tryz.prog Tryz.f84 [.c (.p (.lit (.int .i64 ((r : Int))))), .c (.p (.lit (.int .i64 ((c : Int))))), .c (.p (.ptr 0 0)), .c (.p (.ptr 1 0))] [(73, SX.rg 0 8), (27, [.pa 8, .pa 9])] 10 [] = some (.one (.ga 16 2), [.call 59 [.ga (2 * r) 2, .ga (2 * c) 2] (.one (.ga 10 2)) [], .call 86 [.c (.p (.lit (.int .i64 (r)))), .c (.p (.lit (.int .i64 (c)))), .ga 8 2] (.one (.ga 12 2)) [], .call 87 [.ga 10 2, .ga 10 2] (.one (.ga 14 2)) [], .call 85 [.ga 12 2, .ga 14 2] (.one (.ga 16 2)) []]) := by
    rcases three hr with rfl | rfl | rfl <;> rcases four hc with rfl | rfl | rfl | rfl <;> kernel_rfl
  have q0 : SX.env (afMir_2_L q S r c) (2 * r) = .bool (sg (eqF q r)) := by
    rcases three hr with rfl | rfl | rfl <;> rcases four hc with rfl | rfl | rfl | rfl <;> rfl
  have q1 : SX.env (afMir_2_L q S r c) (2 * r + 1) = .string (mg (eqF q r)) := by
    rcases three hr with rfl | rfl | rfl <;> rcases four hc with rfl | rfl | rfl | rfl <;> rfl
  have q2 : SX.env (afMir_2_L q S r c) (2 * c) = .bool (sg (eqF q c)) := by
    rcases three hr with rfl | rfl | rfl <;> rcases four hc with rfl | rfl | rfl | rfl <;> rfl
  have q3 : SX.env (afMir_2_L q S r c) (2 * c + 1) = .string (mg (eqF q c)) := by
    rcases three hr with rfl | rfl | rfl <;> rcases four hc with rfl | rfl | rfl | rfl <;> rfl
  have zP : Zk (eqF q r * eqF q c) (K + K) := mg_mul_size (eqF_size g r (by omega)) (eqF_size g c (by omega))
  have zD : Zk (if r = c then S else 0) 30000 := by
    split
    · exact zS
    · exact Zk.zero.up (Nat.zero_le _)
  have H := SX.runX (w := w) (afMir_2_L q S r c) [g0, g1] [(73, SX.rg 0 8), (27, [.pa 8, .pa 9])] [.c (.p (.lit (.int .i64 ((r : Int))))), .c (.p (.lit (.int .i64 ((c : Int))))), .c (.p (.ptr 0 0)), .c (.p (.ptr 1 0))] 10 [] (.one (.ga 16 2)) [.call 59 [.ga (2 * r) 2, .ga (2 * c) 2] (.one (.ga 10 2)) [], .call 86 [.c (.p (.lit (.int .i64 (r)))), .c (.p (.lit (.int .i64 (c)))), .ga 8 2] (.one (.ga 12 2)) [], .call 87 [.ga 10 2, .ga 10 2] (.one (.ga 14 2)) [], .call 85 [.ga 12 2, .ga 14 2] (.one (.ga 16 2)) []] (held_cons rfl b0 (held_cons rfl b1 held_nil)) Tryz.func84 (by kernel_rfl) rfl rfl hrun
    ⟨fun γ w' hb _ => by
      have h := iMul (IsZ.can (eqF_size g r (by omega))) (by omega) (IsZ.can (eqF_size g c (by omega))) (by omega) w'
      show Calls _ _ #[.agg #[SX.env (afMir_2_L q S r c) (2 * r), SX.env (afMir_2_L q S r c) (2 * r + 1)], .agg #[SX.env (afMir_2_L q S r c) (2 * c), SX.env (afMir_2_L q S r c) (2 * c + 1)]] w' _
      rw [q0, q1, q2, q3]
      exact h,
     fun γ w' _ _ => by have h := afDiag (x := S) hr hc w'; exact h,
     fun γ w' _ _ => by have h := iAdd (IsZ.can zP) (by omega) (IsZ.can zP) (by omega) w'; exact h,
     fun γ w' _ _ => by have h := iSub (IsZ.can zD) (by decide) (IsZ.can (Is.add zP zP)) (by omega) w'; exact h⟩
  exact H
abbrev afRot_n_L (sn cs : Int) (a r c : Nat) : List Value := zc sn ++ (zc 1 ++ (zc cs ++ zc (-sn)))
set_option maxRecDepth 100000 in
theorem afRot_n {sn cs : Int} {a r c : Nat} (ha : a < 3) (hr : r < 3) (hc : c < 4) (zs : Zk sn 8) (hcond : r = (a + 1) % 3 ∧ c = (a + 2) % 3) (w : World) (g0 : Nat) (g1 : Nat) (g2 : Nat) (g3 : Nat) (g4 : Nat) (g5 : Nat) (b0 : SX.CellsAt w g0 0 ([.int .i64 (((a + 1) % 3 : Nat) : Int)])) (b1 : SX.CellsAt w g1 0 ([.int .i64 (((a + 2) % 3 : Nat) : Int)])) (b2 : SX.CellsAt w g2 0 (zc sn)) (b3 : SX.CellsAt w g3 0 ([.int .i64 (a : Int)])) (b4 : SX.CellsAt w g4 0 (zc 1)) (b5 : SX.CellsAt w g5 0 (zc cs)) :
    Calls Tryz.prog 90 #[.int .i64 (r : Int), .int .i64 (c : Int), .pointer (some ⟨g0, 0, none⟩), .pointer (some ⟨g1, 0, none⟩), .pointer (some ⟨g2, 0, none⟩), .pointer (some ⟨g3, 0, none⟩), .pointer (some ⟨g4, 0, none⟩), .pointer (some ⟨g5, 0, none⟩)] w fun e w' => e = .returned (Z (-sn)) ∧ Below w.heap.size w w' := by
  have hrun : SX.runF Tryz.prog Tryz.f90 [.c (.p (.lit (.int .i64 ((r : Int))))), .c (.p (.lit (.int .i64 ((c : Int))))), .c (.p (.ptr 0 0)), .c (.p (.ptr 1 0)), .c (.p (.ptr 2 0)), .c (.p (.ptr 3 0)), .c (.p (.ptr 4 0)), .c (.p (.ptr 5 0))] [(3, [.p (.lit (.int .i64 (((a + 1) % 3 : Nat) : Int)))]), (3, [.p (.lit (.int .i64 (((a + 2) % 3 : Nat) : Int)))]), (27, [.pa 0, .pa 1]), (3, [.p (.lit (.int .i64 ((a : Int))))]), (27, [.pa 2, .pa 3]), (27, [.pa 4, .pa 5])] 6 [] = some (.one (.ga 6 2), [.call 77 [.ga 0 2] (.one (.ga 6 2)) []]) := by
    rcases three ha with rfl | rfl | rfl <;> rcases three hr with rfl | rfl | rfl <;> rcases four hc with rfl | rfl | rfl | rfl <;> first | exact absurd hcond (by decide) | kernel_rfl
  have H := SX.runX (w := w) (afRot_n_L sn cs a r c) [g0, g1, g2, g3, g4, g5] [(3, [.p (.lit (.int .i64 (((a + 1) % 3 : Nat) : Int)))]), (3, [.p (.lit (.int .i64 (((a + 2) % 3 : Nat) : Int)))]), (27, [.pa 0, .pa 1]), (3, [.p (.lit (.int .i64 ((a : Int))))]), (27, [.pa 2, .pa 3]), (27, [.pa 4, .pa 5])] [.c (.p (.lit (.int .i64 ((r : Int))))), .c (.p (.lit (.int .i64 ((c : Int))))), .c (.p (.ptr 0 0)), .c (.p (.ptr 1 0)), .c (.p (.ptr 2 0)), .c (.p (.ptr 3 0)), .c (.p (.ptr 4 0)), .c (.p (.ptr 5 0))] 6 [] (.one (.ga 6 2)) [.call 77 [.ga 0 2] (.one (.ga 6 2)) []] (held_cons rfl b0 (held_cons rfl b1 (held_cons rfl b2 (held_cons rfl b3 (held_cons rfl b4 (held_cons rfl b5 held_nil)))))) Tryz.func90 (by kernel_rfl) rfl rfl hrun
    (SX.All.one (fun γ w' _ _ => by have h := iNeg (IsZ.can zs) (by decide) w'; exact h))
  exact H
abbrev afRot_s_L (sn cs : Int) (a r c : Nat) : List Value := zc sn ++ (zc 1 ++ zc cs)
set_option maxRecDepth 100000 in
theorem afRot_s {sn cs : Int} {a r c : Nat} (ha : a < 3) (hr : r < 3) (hc : c < 4) (zs : Zk sn 8) (hcond : r = (a + 2) % 3 ∧ c = (a + 1) % 3) (w : World) (g0 : Nat) (g1 : Nat) (g2 : Nat) (g3 : Nat) (g4 : Nat) (g5 : Nat) (b0 : SX.CellsAt w g0 0 ([.int .i64 (((a + 1) % 3 : Nat) : Int)])) (b1 : SX.CellsAt w g1 0 ([.int .i64 (((a + 2) % 3 : Nat) : Int)])) (b2 : SX.CellsAt w g2 0 (zc sn)) (b3 : SX.CellsAt w g3 0 ([.int .i64 (a : Int)])) (b4 : SX.CellsAt w g4 0 (zc 1)) (b5 : SX.CellsAt w g5 0 (zc cs)) :
    Calls Tryz.prog 90 #[.int .i64 (r : Int), .int .i64 (c : Int), .pointer (some ⟨g0, 0, none⟩), .pointer (some ⟨g1, 0, none⟩), .pointer (some ⟨g2, 0, none⟩), .pointer (some ⟨g3, 0, none⟩), .pointer (some ⟨g4, 0, none⟩), .pointer (some ⟨g5, 0, none⟩)] w fun e w' => e = .returned (Z sn) ∧ Below w.heap.size w w' := by
  have hrun : SX.runF Tryz.prog Tryz.f90 [.c (.p (.lit (.int .i64 ((r : Int))))), .c (.p (.lit (.int .i64 ((c : Int))))), .c (.p (.ptr 0 0)), .c (.p (.ptr 1 0)), .c (.p (.ptr 2 0)), .c (.p (.ptr 3 0)), .c (.p (.ptr 4 0)), .c (.p (.ptr 5 0))] [(3, [.p (.lit (.int .i64 (((a + 1) % 3 : Nat) : Int)))]), (3, [.p (.lit (.int .i64 (((a + 2) % 3 : Nat) : Int)))]), (27, [.pa 0, .pa 1]), (3, [.p (.lit (.int .i64 ((a : Int))))]), (27, [.pa 2, .pa 3]), (27, [.pa 4, .pa 5])] 6 [] = some (.one (.ga 0 2), []) := by
    rcases three ha with rfl | rfl | rfl <;> rcases three hr with rfl | rfl | rfl <;> rcases four hc with rfl | rfl | rfl | rfl <;> first | exact absurd hcond (by decide) | kernel_rfl
  have H := SX.runX (w := w) (afRot_s_L sn cs a r c) [g0, g1, g2, g3, g4, g5] [(3, [.p (.lit (.int .i64 (((a + 1) % 3 : Nat) : Int)))]), (3, [.p (.lit (.int .i64 (((a + 2) % 3 : Nat) : Int)))]), (27, [.pa 0, .pa 1]), (3, [.p (.lit (.int .i64 ((a : Int))))]), (27, [.pa 2, .pa 3]), (27, [.pa 4, .pa 5])] [.c (.p (.lit (.int .i64 ((r : Int))))), .c (.p (.lit (.int .i64 ((c : Int))))), .c (.p (.ptr 0 0)), .c (.p (.ptr 1 0)), .c (.p (.ptr 2 0)), .c (.p (.ptr 3 0)), .c (.p (.ptr 4 0)), .c (.p (.ptr 5 0))] 6 [] (.one (.ga 0 2)) [] (held_cons rfl b0 (held_cons rfl b1 (held_cons rfl b2 (held_cons rfl b3 (held_cons rfl b4 (held_cons rfl b5 held_nil)))))) Tryz.func90 (by kernel_rfl) rfl rfl hrun
    trivial
  exact H
abbrev afRot_a_L (sn cs : Int) (a r c : Nat) : List Value := zc sn ++ (zc 1 ++ (zc cs ++ zc (if r = c then 1 else 0)))
set_option maxRecDepth 100000 in
theorem afRot_a {sn cs : Int} {a r c : Nat} (ha : a < 3) (hr : r < 3) (hc : c < 4) (zs : Zk sn 8) (hcond : r = a) (w : World) (g0 : Nat) (g1 : Nat) (g2 : Nat) (g3 : Nat) (g4 : Nat) (g5 : Nat) (b0 : SX.CellsAt w g0 0 ([.int .i64 (((a + 1) % 3 : Nat) : Int)])) (b1 : SX.CellsAt w g1 0 ([.int .i64 (((a + 2) % 3 : Nat) : Int)])) (b2 : SX.CellsAt w g2 0 (zc sn)) (b3 : SX.CellsAt w g3 0 ([.int .i64 (a : Int)])) (b4 : SX.CellsAt w g4 0 (zc 1)) (b5 : SX.CellsAt w g5 0 (zc cs)) :
    Calls Tryz.prog 90 #[.int .i64 (r : Int), .int .i64 (c : Int), .pointer (some ⟨g0, 0, none⟩), .pointer (some ⟨g1, 0, none⟩), .pointer (some ⟨g2, 0, none⟩), .pointer (some ⟨g3, 0, none⟩), .pointer (some ⟨g4, 0, none⟩), .pointer (some ⟨g5, 0, none⟩)] w fun e w' => e = .returned (Z (if r = c then 1 else 0)) ∧ Below w.heap.size w w' := by
  have hrun : SX.runF Tryz.prog Tryz.f90 [.c (.p (.lit (.int .i64 ((r : Int))))), .c (.p (.lit (.int .i64 ((c : Int))))), .c (.p (.ptr 0 0)), .c (.p (.ptr 1 0)), .c (.p (.ptr 2 0)), .c (.p (.ptr 3 0)), .c (.p (.ptr 4 0)), .c (.p (.ptr 5 0))] [(3, [.p (.lit (.int .i64 (((a + 1) % 3 : Nat) : Int)))]), (3, [.p (.lit (.int .i64 (((a + 2) % 3 : Nat) : Int)))]), (27, [.pa 0, .pa 1]), (3, [.p (.lit (.int .i64 ((a : Int))))]), (27, [.pa 2, .pa 3]), (27, [.pa 4, .pa 5])] 6 [] = some (.one (.ga 6 2), [.call 86 [.c (.p (.lit (.int .i64 (r)))), .c (.p (.lit (.int .i64 (c)))), .ga 2 2] (.one (.ga 6 2)) []]) := by
    rcases three ha with rfl | rfl | rfl <;> rcases three hr with rfl | rfl | rfl <;> rcases four hc with rfl | rfl | rfl | rfl <;> first | exact absurd hcond (by decide) | kernel_rfl
  have H := SX.runX (w := w) (afRot_a_L sn cs a r c) [g0, g1, g2, g3, g4, g5] [(3, [.p (.lit (.int .i64 (((a + 1) % 3 : Nat) : Int)))]), (3, [.p (.lit (.int .i64 (((a + 2) % 3 : Nat) : Int)))]), (27, [.pa 0, .pa 1]), (3, [.p (.lit (.int .i64 ((a : Int))))]), (27, [.pa 2, .pa 3]), (27, [.pa 4, .pa 5])] [.c (.p (.lit (.int .i64 ((r : Int))))), .c (.p (.lit (.int .i64 ((c : Int))))), .c (.p (.ptr 0 0)), .c (.p (.ptr 1 0)), .c (.p (.ptr 2 0)), .c (.p (.ptr 3 0)), .c (.p (.ptr 4 0)), .c (.p (.ptr 5 0))] 6 [] (.one (.ga 6 2)) [.call 86 [.c (.p (.lit (.int .i64 (r)))), .c (.p (.lit (.int .i64 (c)))), .ga 2 2] (.one (.ga 6 2)) []] (held_cons rfl b0 (held_cons rfl b1 (held_cons rfl b2 (held_cons rfl b3 (held_cons rfl b4 (held_cons rfl b5 held_nil)))))) Tryz.func90 (by kernel_rfl) rfl rfl hrun
    (SX.All.one (fun γ w' _ _ => by have h := afDiag (x := 1) hr hc w'; exact h))
  exact H
abbrev afRot_d_L (sn cs : Int) (a r c : Nat) : List Value := zc sn ++ (zc 1 ++ (zc cs ++ zc (if r = c then cs else 0)))
set_option maxRecDepth 100000 in
theorem afRot_d {sn cs : Int} {a r c : Nat} (ha : a < 3) (hr : r < 3) (hc : c < 4) (zs : Zk sn 8) (hcond : r ≠ a ∧ ¬ (r = (a + 1) % 3 ∧ c = (a + 2) % 3) ∧ ¬ (r = (a + 2) % 3 ∧ c = (a + 1) % 3)) (w : World) (g0 : Nat) (g1 : Nat) (g2 : Nat) (g3 : Nat) (g4 : Nat) (g5 : Nat) (b0 : SX.CellsAt w g0 0 ([.int .i64 (((a + 1) % 3 : Nat) : Int)])) (b1 : SX.CellsAt w g1 0 ([.int .i64 (((a + 2) % 3 : Nat) : Int)])) (b2 : SX.CellsAt w g2 0 (zc sn)) (b3 : SX.CellsAt w g3 0 ([.int .i64 (a : Int)])) (b4 : SX.CellsAt w g4 0 (zc 1)) (b5 : SX.CellsAt w g5 0 (zc cs)) :
    Calls Tryz.prog 90 #[.int .i64 (r : Int), .int .i64 (c : Int), .pointer (some ⟨g0, 0, none⟩), .pointer (some ⟨g1, 0, none⟩), .pointer (some ⟨g2, 0, none⟩), .pointer (some ⟨g3, 0, none⟩), .pointer (some ⟨g4, 0, none⟩), .pointer (some ⟨g5, 0, none⟩)] w fun e w' => e = .returned (Z (if r = c then cs else 0)) ∧ Below w.heap.size w w' := by
  have hrun : SX.runF Tryz.prog Tryz.f90 [.c (.p (.lit (.int .i64 ((r : Int))))), .c (.p (.lit (.int .i64 ((c : Int))))), .c (.p (.ptr 0 0)), .c (.p (.ptr 1 0)), .c (.p (.ptr 2 0)), .c (.p (.ptr 3 0)), .c (.p (.ptr 4 0)), .c (.p (.ptr 5 0))] [(3, [.p (.lit (.int .i64 (((a + 1) % 3 : Nat) : Int)))]), (3, [.p (.lit (.int .i64 (((a + 2) % 3 : Nat) : Int)))]), (27, [.pa 0, .pa 1]), (3, [.p (.lit (.int .i64 ((a : Int))))]), (27, [.pa 2, .pa 3]), (27, [.pa 4, .pa 5])] 6 [] = some (.one (.ga 6 2), [.call 86 [.c (.p (.lit (.int .i64 (r)))), .c (.p (.lit (.int .i64 (c)))), .ga 4 2] (.one (.ga 6 2)) []]) := by
    rcases three ha with rfl | rfl | rfl <;> rcases three hr with rfl | rfl | rfl <;> rcases four hc with rfl | rfl | rfl | rfl <;> first | exact absurd hcond (by decide) | kernel_rfl
  have H := SX.runX (w := w) (afRot_d_L sn cs a r c) [g0, g1, g2, g3, g4, g5] [(3, [.p (.lit (.int .i64 (((a + 1) % 3 : Nat) : Int)))]), (3, [.p (.lit (.int .i64 (((a + 2) % 3 : Nat) : Int)))]), (27, [.pa 0, .pa 1]), (3, [.p (.lit (.int .i64 ((a : Int))))]), (27, [.pa 2, .pa 3]), (27, [.pa 4, .pa 5])] [.c (.p (.lit (.int .i64 ((r : Int))))), .c (.p (.lit (.int .i64 ((c : Int))))), .c (.p (.ptr 0 0)), .c (.p (.ptr 1 0)), .c (.p (.ptr 2 0)), .c (.p (.ptr 3 0)), .c (.p (.ptr 4 0)), .c (.p (.ptr 5 0))] 6 [] (.one (.ga 6 2)) [.call 86 [.c (.p (.lit (.int .i64 (r)))), .c (.p (.lit (.int .i64 (c)))), .ga 4 2] (.one (.ga 6 2)) []] (held_cons rfl b0 (held_cons rfl b1 (held_cons rfl b2 (held_cons rfl b3 (held_cons rfl b4 (held_cons rfl b5 held_nil)))))) Tryz.func90 (by kernel_rfl) rfl rfl hrun
    (SX.All.one (fun γ w' _ _ => by have h := afDiag (x := cs) hr hc w'; exact h))
  exact H
theorem afRot_c {sn cs : Int} {a r c : Nat} (ha : a < 3) (hr : r < 3) (hc : c < 4) (zs : Zk sn 8) (w : World) (g0 g1 g2 g3 g4 g5 : Nat) (b0 : SX.CellsAt w g0 0 ([.int .i64 (((a + 1) % 3 : Nat) : Int)])) (b1 : SX.CellsAt w g1 0 ([.int .i64 (((a + 2) % 3 : Nat) : Int)])) (b2 : SX.CellsAt w g2 0 (zc sn)) (b3 : SX.CellsAt w g3 0 ([.int .i64 (a : Int)])) (b4 : SX.CellsAt w g4 0 (zc 1)) (b5 : SX.CellsAt w g5 0 (zc cs)) :
    Calls Tryz.prog 90 #[.int .i64 (r : Int), .int .i64 (c : Int), .pointer (some ⟨g0, 0, none⟩), .pointer (some ⟨g1, 0, none⟩), .pointer (some ⟨g2, 0, none⟩), .pointer (some ⟨g3, 0, none⟩), .pointer (some ⟨g4, 0, none⟩), .pointer (some ⟨g5, 0, none⟩)] w fun e w' => e = .returned (Z (rotF a sn cs r c)) ∧ Below w.heap.size w w' := by
  unfold rotF
  by_cases h1 : r = (a + 1) % 3 ∧ c = (a + 2) % 3
  · rw [if_pos h1]; exact afRot_n ha hr hc zs h1 w g0 g1 g2 g3 g4 g5 b0 b1 b2 b3 b4 b5
  rw [if_neg h1]
  by_cases h2 : r = (a + 2) % 3 ∧ c = (a + 1) % 3
  · rw [if_pos h2]; exact afRot_s ha hr hc zs h2 w g0 g1 g2 g3 g4 g5 b0 b1 b2 b3 b4 b5
  rw [if_neg h2]
  by_cases h3 : r = a
  · rw [if_pos h3]; exact afRot_a ha hr hc zs h3 w g0 g1 g2 g3 g4 g5 b0 b1 b2 b3 b4 b5
  · rw [if_neg h3]; exact afRot_d ha hr hc zs ⟨h3, h1, h2⟩ w g0 g1 g2 g3 g4 g5 b0 b1 b2 b3 b4 b5
abbrev afComp_1_L (X Y : Nat → Int) (r c k : Nat) : List Value := xc X ++ (xc Y ++ zc (X (4 * r + k) * Y (4 * k + c)))
set_option maxRecDepth 100000 in
theorem afComp_1 {X Y : Nat → Int} {J K : Nat} {r c k : Nat} (hr : r < 3) (hc : c < 4) (hk : k < 4) (h : Xk X J) (lJ : J ≤ 40000) (g : Xk Y K) (lK : K ≤ 40000) (w : World) (g0 : Nat) (g1 : Nat) (g2 : Nat) (g3 : Nat) (b0 : SX.CellsAt w g0 0 (xc X)) (b1 : SX.CellsAt w g1 0 ([.int .i64 (r : Int)])) (b2 : SX.CellsAt w g2 0 (xc Y)) (b3 : SX.CellsAt w g3 0 ([.int .i64 (c : Int)])) :
    Calls Tryz.prog 70 #[.int .i64 (k : Int), .pointer (some ⟨g0, 0, none⟩), .pointer (some ⟨g1, 0, none⟩), .pointer (some ⟨g2, 0, none⟩), .pointer (some ⟨g3, 0, none⟩)] w fun e w' => e = .returned (Z (X (4 * r + k) * Y (4 * k + c))) ∧ Below w.heap.size w w' := by
  have hrun : SX.runF Tryz.prog Tryz.f70 [.c (.p (.lit (.int .i64 ((k : Int))))), .c (.p (.ptr 0 0)), .c (.p (.ptr 1 0)), .c (.p (.ptr 2 0)), .c (.p (.ptr 3 0))] [(75, SX.rg 0 32), (3, [.p (.lit (.int .i64 ((r : Int))))]), (75, SX.rg 32 32), (3, [.p (.lit (.int .i64 ((c : Int))))])] 64 [] = some (.one (.ga 64 2), [.call 59 [.ga (8 * r + 2 * k) 2, .ga (2 * c + 8 * k + 32) 2] (.one (.ga 64 2)) []]) := by
    rcases three hr with rfl | rfl | rfl <;> rcases four hc with rfl | rfl | rfl | rfl <;> rcases four hk with rfl | rfl | rfl | rfl <;> kernel_rfl
  have q0 : SX.env (afComp_1_L X Y r c k) (8 * r + 2 * k) = .bool (sg (X (4 * r + k))) := by
    rcases three hr with rfl | rfl | rfl <;> rcases four hc with rfl | rfl | rfl | rfl <;> rcases four hk with rfl | rfl | rfl | rfl <;> rfl
  have q1 : SX.env (afComp_1_L X Y r c k) (8 * r + 2 * k + 1) = .string (mg (X (4 * r + k))) := by
    rcases three hr with rfl | rfl | rfl <;> rcases four hc with rfl | rfl | rfl | rfl <;> rcases four hk with rfl | rfl | rfl | rfl <;> rfl
  have q2 : SX.env (afComp_1_L X Y r c k) (2 * c + 8 * k + 32) = .bool (sg (Y (4 * k + c))) := by
    rcases three hr with rfl | rfl | rfl <;> rcases four hc with rfl | rfl | rfl | rfl <;> rcases four hk with rfl | rfl | rfl | rfl <;> rfl
  have q3 : SX.env (afComp_1_L X Y r c k) (2 * c + 8 * k + 32 + 1) = .string (mg (Y (4 * k + c))) := by
    rcases three hr with rfl | rfl | rfl <;> rcases four hc with rfl | rfl | rfl | rfl <;> rcases four hk with rfl | rfl | rfl | rfl <;> rfl
  have H := SX.runX (w := w) (afComp_1_L X Y r c k) [g0, g1, g2, g3] [(75, SX.rg 0 32), (3, [.p (.lit (.int .i64 ((r : Int))))]), (75, SX.rg 32 32), (3, [.p (.lit (.int .i64 ((c : Int))))])] [.c (.p (.lit (.int .i64 ((k : Int))))), .c (.p (.ptr 0 0)), .c (.p (.ptr 1 0)), .c (.p (.ptr 2 0)), .c (.p (.ptr 3 0))] 64 [] (.one (.ga 64 2)) [.call 59 [.ga (8 * r + 2 * k) 2, .ga (2 * c + 8 * k + 32) 2] (.one (.ga 64 2)) []] (held_cons rfl b0 (held_cons rfl b1 (held_cons rfl b2 (held_cons rfl b3 held_nil)))) Tryz.func70 (by kernel_rfl) rfl rfl hrun
    (SX.All.one (fun γ w' hb _ => by
      have h := iMul (IsZ.can (h (4 * r + k) (by omega))) (by omega) (IsZ.can (g (4 * k + c) (by omega))) (by omega) w'
      show Calls _ _ #[.agg #[SX.env (afComp_1_L X Y r c k) (8 * r + 2 * k), SX.env (afComp_1_L X Y r c k) (8 * r + 2 * k + 1)], .agg #[SX.env (afComp_1_L X Y r c k) (2 * c + 8 * k + 32), SX.env (afComp_1_L X Y r c k) (2 * c + 8 * k + 32 + 1)]] w' _
      rw [q0, q1, q2, q3]
      exact h))
  exact H
abbrev afComp_c_L (X Y : Nat → Int) (r c : Nat) : List Value := xc X ++ (xc Y ++ zc (sum4 fun k => X (4 * r + k) * Y (4 * k + c)))
set_option maxRecDepth 100000 in
theorem afComp_c {X Y : Nat → Int} {J K : Nat} {r c : Nat} (hr : r < 3) (hc : c < 4) (h : Xk X J) (lJ : J ≤ 40000) (g : Xk Y K) (lK : K ≤ 40000) (w : World) (g0 : Nat) (g1 : Nat) (b0 : SX.CellsAt w g0 0 (xc X)) (b1 : SX.CellsAt w g1 0 (xc Y)) :
    Calls Tryz.prog 69 #[.int .i64 (r : Int), .int .i64 (c : Int), .pointer (some ⟨g0, 0, none⟩), .pointer (some ⟨g1, 0, none⟩)] w fun e w' => e = .returned (Z (sum4 fun k => X (4 * r + k) * Y (4 * k + c))) ∧ Below w.heap.size w w' := by
  have hrun : SX.runF Tryz.prog Tryz.f69 [.c (.p (.lit (.int .i64 ((r : Int))))), .c (.p (.lit (.int .i64 ((c : Int))))), .c (.p (.ptr 0 0)), .c (.p (.ptr 1 0))] [(75, SX.rg 0 32), (75, SX.rg 32 32)] 64 [] = some (.one (.ga 64 2), [.call 57 [.c (.p (.lit (.int .i64 4))), .c (.fn 70 [.ptr 0 0, .ptr 2 0, .ptr 1 0, .ptr 3 0])] (.one (.ga 64 2)) (SX.number 1 (SX.rg 0 32) ++ [(2049, .p (.lit (.int .i64 (r))))] ++ SX.number 1025 (SX.rg 32 32) ++ [(3073, .p (.lit (.int .i64 (c))))])]) := by
    rcases three hr with rfl | rfl | rfl <;> rcases four hc with rfl | rfl | rfl | rfl <;> kernel_rfl
  have H := SX.runX (w := w) (afComp_c_L X Y r c) [g0, g1] [(75, SX.rg 0 32), (75, SX.rg 32 32)] [.c (.p (.lit (.int .i64 ((r : Int))))), .c (.p (.lit (.int .i64 ((c : Int))))), .c (.p (.ptr 0 0)), .c (.p (.ptr 1 0))] 64 [] (.one (.ga 64 2)) [.call 57 [.c (.p (.lit (.int .i64 4))), .c (.fn 70 [.ptr 0 0, .ptr 2 0, .ptr 1 0, .ptr 3 0])] (.one (.ga 64 2)) (SX.number 1 (SX.rg 0 32) ++ [(2049, .p (.lit (.int .i64 (r))))] ++ SX.number 1025 (SX.rg 32 32) ++ [(3073, .p (.lit (.int .i64 (c))))])] (held_cons rfl b0 (held_cons rfl b1 held_nil)) Tryz.func69 (by kernel_rfl) rfl rfl hrun
    (SX.All.one (fun γ w' hb hm => by
      have h := afSum4 (g := 70) (cl := [.pointer (some ⟨γ 0, 0, none⟩), .pointer (some ⟨γ 2, 0, none⟩), .pointer (some ⟨γ 1, 0, none⟩), .pointer (some ⟨γ 3, 0, none⟩)]) (t := fun k => X (4 * r + k) * Y (4 * k + c)) (by kernel_rfl) w' (fun k hk w2 hb2 => by have h2 := afComp_1 hr hc hk h lJ g lK w2 (γ 0) (γ 2) (γ 1) (γ 3) (SX.CellsAt.keep (mem_box (b := 0) (l := SX.rg 0 32) hm rfl (by kernel_rfl)) hb2) (SX.CellsAt.keep (mem_box (b := 2) (l := [.p (.lit (.int .i64 (r : Int)))]) hm rfl (by kernel_rfl)) hb2) (SX.CellsAt.keep (mem_box (b := 1) (l := SX.rg 32 32) hm rfl (by kernel_rfl)) hb2) (SX.CellsAt.keep (mem_box (b := 3) (l := [.p (.lit (.int .i64 (c : Int)))]) hm rfl (by kernel_rfl)) hb2); exact h2) (fun k hk => Zk.up (mg_mul_size (h (4 * r + k) (by omega)) (g (4 * k + c) (by omega))) (by omega))
      exact h))
  exact H
abbrev afCof_L (X : Nat → Int) (r c : Nat) : List Value := xc X ++ (zc (X (4 * ((r + 1) % 3) + (c + 1) % 3) * X (4 * ((r + 2) % 3) + (c + 2) % 3)) ++ (zc (X (4 * ((r + 1) % 3) + (c + 2) % 3) * X (4 * ((r + 2) % 3) + (c + 1) % 3)) ++ zc (X (4 * ((r + 1) % 3) + (c + 1) % 3) * X (4 * ((r + 2) % 3) + (c + 2) % 3) - X (4 * ((r + 1) % 3) + (c + 2) % 3) * X (4 * ((r + 2) % 3) + (c + 1) % 3))))
set_option maxRecDepth 100000 in
theorem afCof {X : Nat → Int} {J : Nat} {r c : Nat} (hr : r < 3) (hc : c < 3) (h : Xk X J) (lJ : J ≤ 30000) (w : World)  :
    Calls Tryz.prog 110 #[XV X, .int .i64 (r : Int), .int .i64 (c : Int)] w fun e w' => e = .returned (Z (cofE X r c)) ∧ Below w.heap.size w w' := by
  have hrun : SX.runF Tryz.prog Tryz.f110 [.ga 0 32, .c (.p (.lit (.int .i64 ((r : Int))))), .c (.p (.lit (.int .i64 ((c : Int)))))] [] 32 [] = some (.one (.ga 36 2), [.call 59 [.ga (8 * ((r + 1) % 3) + 2 * ((c + 1) % 3)) 2, .ga (8 * ((r + 2) % 3) + 2 * ((c + 2) % 3)) 2] (.one (.ga 32 2)) [], .call 59 [.ga (8 * ((r + 1) % 3) + 2 * ((c + 2) % 3)) 2, .ga (8 * ((r + 2) % 3) + 2 * ((c + 1) % 3)) 2] (.one (.ga 34 2)) [], .call 85 [.ga 32 2, .ga 34 2] (.one (.ga 36 2)) []]) := by
    rcases three hr with rfl | rfl | rfl <;> rcases three hc with rfl | rfl | rfl <;> kernel_rfl
  have q0 : SX.env (afCof_L X r c) (8 * ((r + 1) % 3) + 2 * ((c + 1) % 3)) = .bool (sg (X (4 * ((r + 1) % 3) + (c + 1) % 3))) := by
    rcases three hr with rfl | rfl | rfl <;> rcases three hc with rfl | rfl | rfl <;> rfl
  have q1 : SX.env (afCof_L X r c) (8 * ((r + 1) % 3) + 2 * ((c + 1) % 3) + 1) = .string (mg (X (4 * ((r + 1) % 3) + (c + 1) % 3))) := by
    rcases three hr with rfl | rfl | rfl <;> rcases three hc with rfl | rfl | rfl <;> rfl
  have q2 : SX.env (afCof_L X r c) (8 * ((r + 2) % 3) + 2 * ((c + 2) % 3)) = .bool (sg (X (4 * ((r + 2) % 3) + (c + 2) % 3))) := by
    rcases three hr with rfl | rfl | rfl <;> rcases three hc with rfl | rfl | rfl <;> rfl
  have q3 : SX.env (afCof_L X r c) (8 * ((r + 2) % 3) + 2 * ((c + 2) % 3) + 1) = .string (mg (X (4 * ((r + 2) % 3) + (c + 2) % 3))) := by
    rcases three hr with rfl | rfl | rfl <;> rcases three hc with rfl | rfl | rfl <;> rfl
  have q4 : SX.env (afCof_L X r c) (8 * ((r + 1) % 3) + 2 * ((c + 2) % 3)) = .bool (sg (X (4 * ((r + 1) % 3) + (c + 2) % 3))) := by
    rcases three hr with rfl | rfl | rfl <;> rcases three hc with rfl | rfl | rfl <;> rfl
  have q5 : SX.env (afCof_L X r c) (8 * ((r + 1) % 3) + 2 * ((c + 2) % 3) + 1) = .string (mg (X (4 * ((r + 1) % 3) + (c + 2) % 3))) := by
    rcases three hr with rfl | rfl | rfl <;> rcases three hc with rfl | rfl | rfl <;> rfl
  have q6 : SX.env (afCof_L X r c) (8 * ((r + 2) % 3) + 2 * ((c + 1) % 3)) = .bool (sg (X (4 * ((r + 2) % 3) + (c + 1) % 3))) := by
    rcases three hr with rfl | rfl | rfl <;> rcases three hc with rfl | rfl | rfl <;> rfl
  have q7 : SX.env (afCof_L X r c) (8 * ((r + 2) % 3) + 2 * ((c + 1) % 3) + 1) = .string (mg (X (4 * ((r + 2) % 3) + (c + 1) % 3))) := by
    rcases three hr with rfl | rfl | rfl <;> rcases three hc with rfl | rfl | rfl <;> rfl
  have a1 := Nat.mod_lt (r + 1) (show 0 < 3 by decide)
  have a2 := Nat.mod_lt (r + 2) (show 0 < 3 by decide)
  have a3 := Nat.mod_lt (c + 1) (show 0 < 3 by decide)
  have a4 := Nat.mod_lt (c + 2) (show 0 < 3 by decide)
  have z1 : Zk (X (4 * ((r + 1) % 3) + (c + 1) % 3) * X (4 * ((r + 2) % 3) + (c + 2) % 3)) (J + J) := mg_mul_size (h _ (by omega)) (h _ (by omega))
  have z2 : Zk (X (4 * ((r + 1) % 3) + (c + 2) % 3) * X (4 * ((r + 2) % 3) + (c + 1) % 3)) (J + J) := mg_mul_size (h _ (by omega)) (h _ (by omega))
  have H := SX.runX (w := w) (afCof_L X r c) [] [] [.ga 0 32, .c (.p (.lit (.int .i64 ((r : Int))))), .c (.p (.lit (.int .i64 ((c : Int)))))] 32 [] (.one (.ga 36 2)) [.call 59 [.ga (8 * ((r + 1) % 3) + 2 * ((c + 1) % 3)) 2, .ga (8 * ((r + 2) % 3) + 2 * ((c + 2) % 3)) 2] (.one (.ga 32 2)) [], .call 59 [.ga (8 * ((r + 1) % 3) + 2 * ((c + 2) % 3)) 2, .ga (8 * ((r + 2) % 3) + 2 * ((c + 1) % 3)) 2] (.one (.ga 34 2)) [], .call 85 [.ga 32 2, .ga 34 2] (.one (.ga 36 2)) []] ⟨rfl, fun b t l h => by simp at h⟩ Tryz.func110 (by kernel_rfl) rfl rfl hrun
    ⟨fun γ w' hb _ => by
      have h := iMul (IsZ.can (h (4 * ((r + 1) % 3) + (c + 1) % 3) (by omega))) (by omega) (IsZ.can (h (4 * ((r + 2) % 3) + (c + 2) % 3) (by omega))) (by omega) w'
      show Calls _ _ #[.agg #[SX.env (afCof_L X r c) (8 * ((r + 1) % 3) + 2 * ((c + 1) % 3)), SX.env (afCof_L X r c) (8 * ((r + 1) % 3) + 2 * ((c + 1) % 3) + 1)], .agg #[SX.env (afCof_L X r c) (8 * ((r + 2) % 3) + 2 * ((c + 2) % 3)), SX.env (afCof_L X r c) (8 * ((r + 2) % 3) + 2 * ((c + 2) % 3) + 1)]] w' _
      rw [q0, q1, q2, q3]
      exact h,
     fun γ w' hb _ => by
      have h := iMul (IsZ.can (h (4 * ((r + 1) % 3) + (c + 2) % 3) (by omega))) (by omega) (IsZ.can (h (4 * ((r + 2) % 3) + (c + 1) % 3) (by omega))) (by omega) w'
      show Calls _ _ #[.agg #[SX.env (afCof_L X r c) (8 * ((r + 1) % 3) + 2 * ((c + 2) % 3)), SX.env (afCof_L X r c) (8 * ((r + 1) % 3) + 2 * ((c + 2) % 3) + 1)], .agg #[SX.env (afCof_L X r c) (8 * ((r + 2) % 3) + 2 * ((c + 1) % 3)), SX.env (afCof_L X r c) (8 * ((r + 2) % 3) + 2 * ((c + 1) % 3) + 1)]] w' _
      rw [q4, q5, q6, q7]
      exact h,
     fun γ w' _ _ => by have h := iSub (IsZ.can z1) (by omega) (IsZ.can z2) (by omega) w'; exact h⟩
  exact H
abbrev afDet_1_L (X : Nat → Int) (k : Nat) : List Value := xc X ++ (zc (cofE X 0 k) ++ zc (X k * cofE X 0 k))
set_option maxRecDepth 100000 in
theorem afDet_1 {X : Nat → Int} {J : Nat} {k : Nat} (hk : k < 3) (h : Xk X J) (lJ : J ≤ 30000) (w : World) (g0 : Nat) (b0 : SX.CellsAt w g0 0 (xc X)) :
    Calls Tryz.prog 123 #[.int .i64 (k : Int), .pointer (some ⟨g0, 0, none⟩)] w fun e w' => e = .returned (Z (X k * cofE X 0 k)) ∧ Below w.heap.size w w' := by
  have hrun : SX.runF Tryz.prog Tryz.f123 [.c (.p (.lit (.int .i64 ((k : Int))))), .c (.p (.ptr 0 0))] [(75, SX.rg 0 32)] 32 [] = some (.one (.ga 34 2), [.call 110 [.ga 0 32, .c (.p (.lit (.int .i64 0))), .c (.p (.lit (.int .i64 (k))))] (.one (.ga 32 2)) [], .call 59 [.ga (2 * k) 2, .ga 32 2] (.one (.ga 34 2)) []]) := by
    rcases three hk with rfl | rfl | rfl <;> kernel_rfl
  have q0 : SX.env (afDet_1_L X k) (2 * k) = .bool (sg (X k)) := by
    rcases three hk with rfl | rfl | rfl <;> rfl
  have q1 : SX.env (afDet_1_L X k) (2 * k + 1) = .string (mg (X k)) := by
    rcases three hk with rfl | rfl | rfl <;> rfl
  have H := SX.runX (w := w) (afDet_1_L X k) [g0] [(75, SX.rg 0 32)] [.c (.p (.lit (.int .i64 ((k : Int))))), .c (.p (.ptr 0 0))] 32 [] (.one (.ga 34 2)) [.call 110 [.ga 0 32, .c (.p (.lit (.int .i64 0))), .c (.p (.lit (.int .i64 (k))))] (.one (.ga 32 2)) [], .call 59 [.ga (2 * k) 2, .ga 32 2] (.one (.ga 34 2)) []] (held_cons rfl b0 held_nil) Tryz.func123 (by kernel_rfl) rfl rfl hrun
    ⟨fun γ w' _ _ => by have h := afCof (r := 0) (by decide) hk h lJ w'; exact h,
     fun γ w' hb _ => by
      have h := iMul (IsZ.can (h k (by omega))) (by omega) (IsZ.can (Zk.cofE h 0 k)) (by omega) w'
      show Calls _ _ #[.agg #[SX.env (afDet_1_L X k) (2 * k), SX.env (afDet_1_L X k) (2 * k + 1)], .agg #[SX.env (afDet_1_L X k) (32), SX.env (afDet_1_L X k) (32 + 1)]] w' _
      rw [q0, q1]
      exact h⟩
  exact H
abbrev afInv_1_L (X : Nat → Int) (r k : Nat) : List Value := xc X ++ (zc (cofE X k r) ++ zc (cofE X k r * X (4 * k + 3)))
set_option maxRecDepth 100000 in
theorem afInv_1 {X : Nat → Int} {J : Nat} {r k : Nat} (hr : r < 3) (hk : k < 3) (h : Xk X J) (lJ : J ≤ 30000) (w : World) (g0 : Nat) (g1 : Nat) (b0 : SX.CellsAt w g0 0 (xc X)) (b1 : SX.CellsAt w g1 0 ([.int .i64 (r : Int)])) :
    Calls Tryz.prog 109 #[.int .i64 (k : Int), .pointer (some ⟨g0, 0, none⟩), .pointer (some ⟨g1, 0, none⟩)] w fun e w' => e = .returned (Z (cofE X k r * X (4 * k + 3))) ∧ Below w.heap.size w w' := by
  have hrun : SX.runF Tryz.prog Tryz.f109 [.c (.p (.lit (.int .i64 ((k : Int))))), .c (.p (.ptr 0 0)), .c (.p (.ptr 1 0))] [(75, SX.rg 0 32), (3, [.p (.lit (.int .i64 ((r : Int))))])] 32 [] = some (.one (.ga 34 2), [.call 110 [.ga 0 32, .c (.p (.lit (.int .i64 (k)))), .c (.p (.lit (.int .i64 (r))))] (.one (.ga 32 2)) [], .call 59 [.ga 32 2, .ga (8 * k + 6) 2] (.one (.ga 34 2)) []]) := by
    rcases three hr with rfl | rfl | rfl <;> rcases three hk with rfl | rfl | rfl <;> kernel_rfl
  have q0 : SX.env (afInv_1_L X r k) (8 * k + 6) = .bool (sg (X (4 * k + 3))) := by
    rcases three hr with rfl | rfl | rfl <;> rcases three hk with rfl | rfl | rfl <;> rfl
  have q1 : SX.env (afInv_1_L X r k) (8 * k + 6 + 1) = .string (mg (X (4 * k + 3))) := by
    rcases three hr with rfl | rfl | rfl <;> rcases three hk with rfl | rfl | rfl <;> rfl
  have H := SX.runX (w := w) (afInv_1_L X r k) [g0, g1] [(75, SX.rg 0 32), (3, [.p (.lit (.int .i64 ((r : Int))))])] [.c (.p (.lit (.int .i64 ((k : Int))))), .c (.p (.ptr 0 0)), .c (.p (.ptr 1 0))] 32 [] (.one (.ga 34 2)) [.call 110 [.ga 0 32, .c (.p (.lit (.int .i64 (k)))), .c (.p (.lit (.int .i64 (r))))] (.one (.ga 32 2)) [], .call 59 [.ga 32 2, .ga (8 * k + 6) 2] (.one (.ga 34 2)) []] (held_cons rfl b0 (held_cons rfl b1 held_nil)) Tryz.func109 (by kernel_rfl) rfl rfl hrun
    ⟨fun γ w' _ _ => by have h := afCof hk hr h lJ w'; exact h,
     fun γ w' hb _ => by
      have h := iMul (IsZ.can (Zk.cofE h k r)) (by omega) (IsZ.can (h (4 * k + 3) (by omega))) (by omega) w'
      show Calls _ _ #[.agg #[SX.env (afInv_1_L X r k) (32), SX.env (afInv_1_L X r k) (32 + 1)], .agg #[SX.env (afInv_1_L X r k) (8 * k + 6), SX.env (afInv_1_L X r k) (8 * k + 6 + 1)]] w' _
      rw [q0, q1]
      exact h⟩
  exact H
abbrev afInv_n_L (X : Nat → Int) (r c : Nat) : List Value := xc X ++ (zc (cofE X c r) ++ zc (cofE X c r * X 15))
set_option maxRecDepth 100000 in
theorem afInv_n {X : Nat → Int} {J : Nat} {r c : Nat} (hr : r < 3) (hc : c < 4) (h : Xk X J) (lJ : J ≤ 30000) (hcond : c ≠ 3) (w : World) (g0 : Nat) (b0 : SX.CellsAt w g0 0 (xc X)) :
    Calls Tryz.prog 108 #[.int .i64 (r : Int), .int .i64 (c : Int), .pointer (some ⟨g0, 0, none⟩)] w fun e w' => e = .returned (Z (cofE X c r * X 15)) ∧ Below w.heap.size w w' := by
  have hrun : SX.runF Tryz.prog Tryz.f108 [.c (.p (.lit (.int .i64 ((r : Int))))), .c (.p (.lit (.int .i64 ((c : Int))))), .c (.p (.ptr 0 0))] [(75, SX.rg 0 32)] 32 [] = some (.one (.ga 34 2), [.call 110 [.ga 0 32, .c (.p (.lit (.int .i64 (c)))), .c (.p (.lit (.int .i64 (r))))] (.one (.ga 32 2)) [], .call 59 [.ga 32 2, .ga 30 2] (.one (.ga 34 2)) []]) := by
    rcases three hr with rfl | rfl | rfl <;> rcases four hc with rfl | rfl | rfl | rfl <;> first | exact absurd hcond (by decide) | kernel_rfl
  have H := SX.runX (w := w) (afInv_n_L X r c) [g0] [(75, SX.rg 0 32)] [.c (.p (.lit (.int .i64 ((r : Int))))), .c (.p (.lit (.int .i64 ((c : Int))))), .c (.p (.ptr 0 0))] 32 [] (.one (.ga 34 2)) [.call 110 [.ga 0 32, .c (.p (.lit (.int .i64 (c)))), .c (.p (.lit (.int .i64 (r))))] (.one (.ga 32 2)) [], .call 59 [.ga 32 2, .ga 30 2] (.one (.ga 34 2)) []] (held_cons rfl b0 held_nil) Tryz.func108 (by kernel_rfl) rfl rfl hrun
    ⟨fun γ w' _ _ => by have h := afCof (r := c) (c := r) (by omega) hr h lJ w'; exact h,
     fun γ w' _ _ => by have h := iMul (IsZ.can (Zk.cofE h c r)) (by omega) (IsZ.can (h 15 (by omega))) (by omega) w'; exact h⟩
  exact H
abbrev afInv_3_L (X : Nat → Int) (r : Nat) : List Value := xc X ++ (zc (sum3 fun k => cofE X k r * X (4 * k + 3)) ++ zc (-(sum3 fun k => cofE X k r * X (4 * k + 3))))
set_option maxRecDepth 100000 in
theorem afInv_3 {X : Nat → Int} {J : Nat} {r c : Nat} (hr : r < 3) (hc : c < 4) (h : Xk X J) (lJ : J ≤ 30000) (hcond : c = 3) (w : World) (g0 : Nat) (b0 : SX.CellsAt w g0 0 (xc X)) :
    Calls Tryz.prog 108 #[.int .i64 (r : Int), .int .i64 (c : Int), .pointer (some ⟨g0, 0, none⟩)] w fun e w' => e = .returned (Z (-(sum3 fun k => cofE X k r * X (4 * k + 3)))) ∧ Below w.heap.size w w' := by
  have hrun : SX.runF Tryz.prog Tryz.f108 [.c (.p (.lit (.int .i64 ((r : Int))))), .c (.p (.lit (.int .i64 ((c : Int))))), .c (.p (.ptr 0 0))] [(75, SX.rg 0 32)] 32 [] = some (.one (.ga 34 2), [.call 57 [.c (.p (.lit (.int .i64 3))), .c (.fn 109 [.ptr 0 0, .ptr 1 0])] (.one (.ga 32 2)) (SX.number 1 (SX.rg 0 32) ++ [(1025, .p (.lit (.int .i64 (r))))]), .call 77 [.ga 32 2] (.one (.ga 34 2)) []]) := by
    rcases three hr with rfl | rfl | rfl <;> rcases four hc with rfl | rfl | rfl | rfl <;> first | exact absurd hcond (by decide) | kernel_rfl
  have zt : ∀ k, k < 3 → Zk (cofE X k r * X (4 * k + 3)) 100000 := fun k hk => Zk.up (mg_mul_size (Zk.cofE h k r) (h (4 * k + 3) (by omega))) (by omega)
  have H := SX.runX (w := w) (afInv_3_L X r) [g0] [(75, SX.rg 0 32)] [.c (.p (.lit (.int .i64 ((r : Int))))), .c (.p (.lit (.int .i64 ((c : Int))))), .c (.p (.ptr 0 0))] 32 [] (.one (.ga 34 2)) [.call 57 [.c (.p (.lit (.int .i64 3))), .c (.fn 109 [.ptr 0 0, .ptr 1 0])] (.one (.ga 32 2)) (SX.number 1 (SX.rg 0 32) ++ [(1025, .p (.lit (.int .i64 (r))))]), .call 77 [.ga 32 2] (.one (.ga 34 2)) []] (held_cons rfl b0 held_nil) Tryz.func108 (by kernel_rfl) rfl rfl hrun
    ⟨fun γ w' hb hm => by
      have h := afSum3 (g := 109) (cl := [.pointer (some ⟨γ 0, 0, none⟩), .pointer (some ⟨γ 1, 0, none⟩)]) (t := fun k => cofE X k r * X (4 * k + 3)) (by kernel_rfl) w' (fun k hk w2 hb2 => by have h2 := afInv_1 hr hk h lJ w2 (γ 0) (γ 1) (SX.CellsAt.keep (mem_box (b := 0) (l := SX.rg 0 32) hm rfl (by kernel_rfl)) hb2) (SX.CellsAt.keep (mem_box (b := 1) (l := [.p (.lit (.int .i64 (r : Int)))]) hm rfl (by kernel_rfl)) hb2); exact h2) zt
      exact h,
     fun γ w' _ _ => by have h := iNeg (IsZ.can (Zk.sum3 zt)) (by decide) w'; exact h⟩
  exact H
theorem afInv_c {X : Nat → Int} {J : Nat} {r c : Nat} (hr : r < 3) (hc : c < 4) (h : Xk X J) (lJ : J ≤ 30000) (w : World) (g0 : Nat) (b0 : SX.CellsAt w g0 0 (xc X)) :
    Calls Tryz.prog 108 #[.int .i64 (r : Int), .int .i64 (c : Int), .pointer (some ⟨g0, 0, none⟩)] w fun e w' => e = .returned (Z (if c = 3 then -(sum3 fun k => cofE X k r * X (4 * k + 3)) else cofE X c r * X 15)) ∧ Below w.heap.size w w' := by
  by_cases h3 : c = 3
  · rw [if_pos h3]; exact afInv_3 hr hc h lJ h3 w g0 b0
  · rw [if_neg h3]; exact afInv_n hr hc h lJ h3 w g0 b0
abbrev afPt_1_L (X : Nat → Int) (q : Z4) (r k : Nat) : List Value := xc X ++ (fc q ++ zc (X (4 * r + k) * fourF q k))
set_option maxRecDepth 100000 in
theorem afPt_1 {X : Nat → Int} {q : Z4} {J K : Nat} {r k : Nat} (hr : r < 4) (hk : k < 4) (h : Xk X J) (lJ : J ≤ 40000) (g : Fk q K) (lK : K ≤ 40000) (w : World) (g0 : Nat) (g1 : Nat) (g2 : Nat) (b0 : SX.CellsAt w g0 0 (xc X)) (b1 : SX.CellsAt w g1 0 ([.int .i64 (r : Int)])) (b2 : SX.CellsAt w g2 0 (fc q)) :
    Calls Tryz.prog 58 #[.int .i64 (k : Int), .pointer (some ⟨g0, 0, none⟩), .pointer (some ⟨g1, 0, none⟩), .pointer (some ⟨g2, 0, none⟩)] w fun e w' => e = .returned (Z (X (4 * r + k) * fourF q k)) ∧ Below w.heap.size w w' := by
  have hrun : SX.runF Tryz.prog Tryz.f58 [.c (.p (.lit (.int .i64 ((k : Int))))), .c (.p (.ptr 0 0)), .c (.p (.ptr 1 0)), .c (.p (.ptr 2 0))] [(75, SX.rg 0 32), (3, [.p (.lit (.int .i64 ((r : Int))))]), (73, SX.rg 32 8)] 40 [] = some (.one (.ga 40 2), [.call 59 [.ga (8 * r + 2 * k) 2, .ga (2 * k + 32) 2] (.one (.ga 40 2)) []]) := by
    rcases four hr with rfl | rfl | rfl | rfl <;> rcases four hk with rfl | rfl | rfl | rfl <;> kernel_rfl
  have q0 : SX.env (afPt_1_L X q r k) (8 * r + 2 * k) = .bool (sg (X (4 * r + k))) := by
    rcases four hr with rfl | rfl | rfl | rfl <;> rcases four hk with rfl | rfl | rfl | rfl <;> rfl
  have q1 : SX.env (afPt_1_L X q r k) (8 * r + 2 * k + 1) = .string (mg (X (4 * r + k))) := by
    rcases four hr with rfl | rfl | rfl | rfl <;> rcases four hk with rfl | rfl | rfl | rfl <;> rfl
  have q2 : SX.env (afPt_1_L X q r k) (2 * k + 32) = .bool (sg (fourF q k)) := by
    rcases four hr with rfl | rfl | rfl | rfl <;> rcases four hk with rfl | rfl | rfl | rfl <;> rfl
  have q3 : SX.env (afPt_1_L X q r k) (2 * k + 32 + 1) = .string (mg (fourF q k)) := by
    rcases four hr with rfl | rfl | rfl | rfl <;> rcases four hk with rfl | rfl | rfl | rfl <;> rfl
  have H := SX.runX (w := w) (afPt_1_L X q r k) [g0, g1, g2] [(75, SX.rg 0 32), (3, [.p (.lit (.int .i64 ((r : Int))))]), (73, SX.rg 32 8)] [.c (.p (.lit (.int .i64 ((k : Int))))), .c (.p (.ptr 0 0)), .c (.p (.ptr 1 0)), .c (.p (.ptr 2 0))] 40 [] (.one (.ga 40 2)) [.call 59 [.ga (8 * r + 2 * k) 2, .ga (2 * k + 32) 2] (.one (.ga 40 2)) []] (held_cons rfl b0 (held_cons rfl b1 (held_cons rfl b2 held_nil))) Tryz.func58 (by kernel_rfl) rfl rfl hrun
    (SX.All.one (fun γ w' hb _ => by
      have h := iMul (IsZ.can (h (4 * r + k) (by omega))) (by omega) (IsZ.can (fourF_size g k (by omega))) (by omega) w'
      show Calls _ _ #[.agg #[SX.env (afPt_1_L X q r k) (8 * r + 2 * k), SX.env (afPt_1_L X q r k) (8 * r + 2 * k + 1)], .agg #[SX.env (afPt_1_L X q r k) (2 * k + 32), SX.env (afPt_1_L X q r k) (2 * k + 32 + 1)]] w' _
      rw [q0, q1, q2, q3]
      exact h))
  exact H
abbrev afPt_c_L (X : Nat → Int) (q : Z4) (r : Nat) : List Value := xc X ++ (fc q ++ zc (sum4 fun k => X (4 * r + k) * fourF q k))
set_option maxRecDepth 100000 in
theorem afPt_c {X : Nat → Int} {q : Z4} {J K : Nat} {r : Nat} (hr : r < 4) (h : Xk X J) (lJ : J ≤ 40000) (g : Fk q K) (lK : K ≤ 40000) (w : World) (g0 : Nat) (g1 : Nat) (b0 : SX.CellsAt w g0 0 (xc X)) (b1 : SX.CellsAt w g1 0 (fc q)) :
    Calls Tryz.prog 56 #[.int .i64 (r : Int), .pointer (some ⟨g0, 0, none⟩), .pointer (some ⟨g1, 0, none⟩)] w fun e w' => e = .returned (Z (sum4 fun k => X (4 * r + k) * fourF q k)) ∧ Below w.heap.size w w' := by
  have hrun : SX.runF Tryz.prog Tryz.f56 [.c (.p (.lit (.int .i64 ((r : Int))))), .c (.p (.ptr 0 0)), .c (.p (.ptr 1 0))] [(75, SX.rg 0 32), (73, SX.rg 32 8)] 40 [] = some (.one (.ga 40 2), [.call 57 [.c (.p (.lit (.int .i64 4))), .c (.fn 58 [.ptr 0 0, .ptr 2 0, .ptr 1 0])] (.one (.ga 40 2)) (SX.number 1 (SX.rg 0 32) ++ [(2049, .p (.lit (.int .i64 (r))))] ++ SX.number 1025 (SX.rg 32 8))]) := by
    rcases four hr with rfl | rfl | rfl | rfl <;> kernel_rfl
  have H := SX.runX (w := w) (afPt_c_L X q r) [g0, g1] [(75, SX.rg 0 32), (73, SX.rg 32 8)] [.c (.p (.lit (.int .i64 ((r : Int))))), .c (.p (.ptr 0 0)), .c (.p (.ptr 1 0))] 40 [] (.one (.ga 40 2)) [.call 57 [.c (.p (.lit (.int .i64 4))), .c (.fn 58 [.ptr 0 0, .ptr 2 0, .ptr 1 0])] (.one (.ga 40 2)) (SX.number 1 (SX.rg 0 32) ++ [(2049, .p (.lit (.int .i64 (r))))] ++ SX.number 1025 (SX.rg 32 8))] (held_cons rfl b0 (held_cons rfl b1 held_nil)) Tryz.func56 (by kernel_rfl) rfl rfl hrun
    (SX.All.one (fun γ w' hb hm => by
      have h := afSum4 (g := 58) (cl := [.pointer (some ⟨γ 0, 0, none⟩), .pointer (some ⟨γ 2, 0, none⟩), .pointer (some ⟨γ 1, 0, none⟩)]) (t := fun k => X (4 * r + k) * fourF q k) (by kernel_rfl) w' (fun k hk w2 hb2 => by have h2 := afPt_1 hr hk h lJ g lK w2 (γ 0) (γ 2) (γ 1) (SX.CellsAt.keep (mem_box (b := 0) (l := SX.rg 0 32) hm rfl (by kernel_rfl)) hb2) (SX.CellsAt.keep (mem_box (b := 2) (l := [.p (.lit (.int .i64 (r : Int)))]) hm rfl (by kernel_rfl)) hb2) (SX.CellsAt.keep (mem_box (b := 1) (l := SX.rg 32 8) hm rfl (by kernel_rfl)) hb2); exact h2) (fun k hk => Zk.up (mg_mul_size (h (4 * r + k) (by omega)) (fourF_size g k (by omega))) (by omega))
      exact h))
  exact H
abbrev afPl_1_L (X : Nat → Int) (q : Z4) (c k : Nat) : List Value := fc (eq4 q) ++ (xc X ++ zc (eqF q k * X (4 * k + c)))
set_option maxRecDepth 100000 in
theorem afPl_1 {X : Nat → Int} {q : Z4} {J K : Nat} {c k : Nat} (hc : c < 4) (hk : k < 4) (h : Xk X J) (lJ : J ≤ 40000) (g : Fk q K) (lK : K ≤ 40000) (w : World) (g0 : Nat) (g1 : Nat) (g2 : Nat) (b0 : SX.CellsAt w g0 0 (fc (eq4 q))) (b1 : SX.CellsAt w g1 0 (xc X)) (b2 : SX.CellsAt w g2 0 ([.int .i64 (c : Int)])) :
    Calls Tryz.prog 75 #[.int .i64 (k : Int), .pointer (some ⟨g0, 0, none⟩), .pointer (some ⟨g1, 0, none⟩), .pointer (some ⟨g2, 0, none⟩)] w fun e w' => e = .returned (Z (eqF q k * X (4 * k + c))) ∧ Below w.heap.size w w' := by
  have hrun : SX.runF Tryz.prog Tryz.f75 [.c (.p (.lit (.int .i64 ((k : Int))))), .c (.p (.ptr 0 0)), .c (.p (.ptr 1 0)), .c (.p (.ptr 2 0))] [(73, SX.rg 0 8), (75, SX.rg 8 32), (3, [.p (.lit (.int .i64 ((c : Int))))])] 40 [] = some (.one (.ga 40 2), [.call 59 [.ga (2 * k) 2, .ga (2 * c + 8 * k + 8) 2] (.one (.ga 40 2)) []]) := by
    rcases four hc with rfl | rfl | rfl | rfl <;> rcases four hk with rfl | rfl | rfl | rfl <;> kernel_rfl
  have q0 : SX.env (afPl_1_L X q c k) (2 * k) = .bool (sg (eqF q k)) := by
    rcases four hc with rfl | rfl | rfl | rfl <;> rcases four hk with rfl | rfl | rfl | rfl <;> rfl
  have q1 : SX.env (afPl_1_L X q c k) (2 * k + 1) = .string (mg (eqF q k)) := by
    rcases four hc with rfl | rfl | rfl | rfl <;> rcases four hk with rfl | rfl | rfl | rfl <;> rfl
  have q2 : SX.env (afPl_1_L X q c k) (2 * c + 8 * k + 8) = .bool (sg (X (4 * k + c))) := by
    rcases four hc with rfl | rfl | rfl | rfl <;> rcases four hk with rfl | rfl | rfl | rfl <;> rfl
  have q3 : SX.env (afPl_1_L X q c k) (2 * c + 8 * k + 8 + 1) = .string (mg (X (4 * k + c))) := by
    rcases four hc with rfl | rfl | rfl | rfl <;> rcases four hk with rfl | rfl | rfl | rfl <;> rfl
  have H := SX.runX (w := w) (afPl_1_L X q c k) [g0, g1, g2] [(73, SX.rg 0 8), (75, SX.rg 8 32), (3, [.p (.lit (.int .i64 ((c : Int))))])] [.c (.p (.lit (.int .i64 ((k : Int))))), .c (.p (.ptr 0 0)), .c (.p (.ptr 1 0)), .c (.p (.ptr 2 0))] 40 [] (.one (.ga 40 2)) [.call 59 [.ga (2 * k) 2, .ga (2 * c + 8 * k + 8) 2] (.one (.ga 40 2)) []] (held_cons rfl b0 (held_cons rfl b1 (held_cons rfl b2 held_nil))) Tryz.func75 (by kernel_rfl) rfl rfl hrun
    (SX.All.one (fun γ w' hb _ => by
      have h := iMul (IsZ.can (eqF_size g k (by omega))) (by omega) (IsZ.can (h (4 * k + c) (by omega))) (by omega) w'
      show Calls _ _ #[.agg #[SX.env (afPl_1_L X q c k) (2 * k), SX.env (afPl_1_L X q c k) (2 * k + 1)], .agg #[SX.env (afPl_1_L X q c k) (2 * c + 8 * k + 8), SX.env (afPl_1_L X q c k) (2 * c + 8 * k + 8 + 1)]] w' _
      rw [q0, q1, q2, q3]
      exact h))
  exact H
abbrev afPl_c_L (X : Nat → Int) (q : Z4) (c : Nat) : List Value := fc (eq4 q) ++ (xc X ++ zc (colE X q c))
set_option maxRecDepth 100000 in
theorem afPl_c {X : Nat → Int} {q : Z4} {J K : Nat} {c : Nat} (hc : c < 4) (h : Xk X J) (lJ : J ≤ 40000) (g : Fk q K) (lK : K ≤ 40000) (w : World) (g0 : Nat) (g1 : Nat) (b0 : SX.CellsAt w g0 0 (fc (eq4 q))) (b1 : SX.CellsAt w g1 0 (xc X)) :
    Calls Tryz.prog 74 #[.int .i64 (c : Int), .pointer (some ⟨g0, 0, none⟩), .pointer (some ⟨g1, 0, none⟩)] w fun e w' => e = .returned (Z (colE X q c)) ∧ Below w.heap.size w w' := by
  have hrun : SX.runF Tryz.prog Tryz.f74 [.c (.p (.lit (.int .i64 ((c : Int))))), .c (.p (.ptr 0 0)), .c (.p (.ptr 1 0))] [(73, SX.rg 0 8), (75, SX.rg 8 32)] 40 [] = some (.one (.ga 40 2), [.call 57 [.c (.p (.lit (.int .i64 4))), .c (.fn 75 [.ptr 0 0, .ptr 1 0, .ptr 2 0])] (.one (.ga 40 2)) (SX.number 1 (SX.rg 0 8) ++ SX.number 1025 (SX.rg 8 32) ++ [(2049, .p (.lit (.int .i64 (c))))])]) := by
    rcases four hc with rfl | rfl | rfl | rfl <;> kernel_rfl
  have H := SX.runX (w := w) (afPl_c_L X q c) [g0, g1] [(73, SX.rg 0 8), (75, SX.rg 8 32)] [.c (.p (.lit (.int .i64 ((c : Int))))), .c (.p (.ptr 0 0)), .c (.p (.ptr 1 0))] 40 [] (.one (.ga 40 2)) [.call 57 [.c (.p (.lit (.int .i64 4))), .c (.fn 75 [.ptr 0 0, .ptr 1 0, .ptr 2 0])] (.one (.ga 40 2)) (SX.number 1 (SX.rg 0 8) ++ SX.number 1025 (SX.rg 8 32) ++ [(2049, .p (.lit (.int .i64 (c))))])] (held_cons rfl b0 (held_cons rfl b1 held_nil)) Tryz.func74 (by kernel_rfl) rfl rfl hrun
    (SX.All.one (fun γ w' hb hm => by
      have h := afSum4 (g := 75) (cl := [.pointer (some ⟨γ 0, 0, none⟩), .pointer (some ⟨γ 1, 0, none⟩), .pointer (some ⟨γ 2, 0, none⟩)]) (t := fun k => eqF q k * X (4 * k + c)) (by kernel_rfl) w' (fun k hk w2 hb2 => by have h2 := afPl_1 hc hk h lJ g lK w2 (γ 0) (γ 1) (γ 2) (SX.CellsAt.keep (mem_box (b := 0) (l := SX.rg 0 8) hm rfl (by kernel_rfl)) hb2) (SX.CellsAt.keep (mem_box (b := 1) (l := SX.rg 8 32) hm rfl (by kernel_rfl)) hb2) (SX.CellsAt.keep (mem_box (b := 2) (l := [.p (.lit (.int .i64 (c : Int)))]) hm rfl (by kernel_rfl)) hb2); exact h2) (fun k hk => Zk.up (mg_mul_size (eqF_size g k (by omega)) (h (4 * k + c) (by omega))) (by omega))
      exact h))
  exact H
end Go.Proofs.YtodcomijjmobdaaGreatDoor
