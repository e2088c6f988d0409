/- voussoirref04 without its Parse. -/
import Derived.Test.YtodcomijjmobdaaGreatDoorPd
set_option linter.unusedVariables false
set_option linter.unusedSimpArgs false
namespace Go.Proofs.YtodcomijjmobdaaGreatDoor
open Go.RowKit NM SX
theorem p4Norm_zero {ux0 : Value} {x0 : Z4} {kx0 : Nat} (hx0 : IsF ux0 x0 kx0) (lx0 : kx0 ≤ 200000) (w : World) (hd : x0.d = 0) :
    Calls Tryz.prog 13 #[ux0] w fun e w' => e = .returned (FV ⟨divq (x0.a) ((g4 x0.a x0.b x0.c (1 : Int) : Nat) : Int), divq (x0.b) ((g4 x0.a x0.b x0.c (1 : Int) : Nat) : Int), divq (x0.c) ((g4 x0.a x0.b x0.c (1 : Int) : Nat) : Int), divq ((1 : Int)) ((g4 x0.a x0.b x0.c (1 : Int) : Nat) : Int)⟩) ∧ Below w.heap.size w w' := by
  replace hx0 := hx0.up lx0
  have zx0 := hx0.sz
  obtain ⟨x00, x01, x02, x03, x04, x05, x06, x07, rfl, ex00, sx01, ex01, sx03, ex02, sx05, ex03, sx07⟩ := id hx0
  have wx00 : IsZ (.agg #[.bool x00, .string x01]) x0.a 200000 := ⟨x00, x01, rfl, ex00, sx01⟩
  have zx00 := wx00.sz
  have wx01 : IsZ (.agg #[.bool x02, .string x03]) x0.b 200000 := ⟨x02, x03, rfl, ex01, sx03⟩
  have zx01 := wx01.sz
  have wx02 : IsZ (.agg #[.bool x04, .string x05]) x0.c 200000 := ⟨x04, x05, rfl, ex02, sx05⟩
  have zx02 := wx02.sz
  have wx03 : IsZ (.agg #[.bool x06, .string x07]) x0.d 200000 := ⟨x06, x07, rfl, ex03, sx07⟩
  have zx03 := wx03.sz
  obtain ⟨G, hGe⟩ : ∃ G : Int, G = ((g4 x0.a x0.b x0.c (1 : Int) : Nat) : Int) := ⟨_, rfl⟩
  have zl : Zk (1 : Int) 200000 := (show (mg 1).size ≤ 200000 by decide)
  have hG : Zk G 200000 := by rw [hGe]; exact g4_size (q := ⟨x0.a, x0.b, x0.c, (1 : Int)⟩) ⟨zx0.1, zx0.2.1, zx0.2.2.1, zl⟩
  have hsz : ∀ x ∈ [(sg x0.a, mg x0.a), (sg x0.b, mg x0.b), (sg x0.c, mg x0.c), (sg (1 : Int), mg (1 : Int))], x.2.size ≤ 134217728 := by
    intro x hx
    have y0 := zx0.1
    have y1 := zx0.2.1
    have y2 := zx0.2.2.1
    simp only [List.mem_cons, List.not_mem_nil, or_false] at hx
    rcases hx with rfl | rfl | rfl | rfl <;> simp <;> unfold Zk at * <;> omega
  have hg : ((gcdL [(sg x0.a, mg x0.a), (sg x0.b, mg x0.b), (sg x0.c, mg x0.c), (sg (1 : Int), mg (1 : Int))] : Nat) : Int) = G := by
    rw [hGe]
    show ((Nat.gcd (Nat.gcd (Nat.gcd (Nat.gcd 0 (nat (mg x0.a))) (nat (mg x0.b))) (nat (mg x0.c))) (nat (mg (1 : Int))) : Nat) : Int) = _
    rw [nat_mg, nat_mg, nat_mg, nat_mg, gcd_last]
  have f1 : Zk x0.a 200000 := Zk.up (zx00) (by decide)
  have f2 : Zk x0.b 200000 := Zk.up (zx01) (by decide)
  have f3 : Zk x0.c 200000 := Zk.up (zx02) (by decide)
  have f4 : Zk x0.d 200000 := Zk.up (zx03) (by decide)
  have f5 : Zk (1 : Int) 8 := mg_size_le (k := 8) (by first | decide | omega)
  have f6 : Zk G 200000 := Zk.up (hG) (by decide)
  have f7 : Zk (divq x0.a G) 200001 := Zk.up (Is.divq f1 f6) (by decide)
  have f8 : Zk (divr x0.a G) 200001 := Zk.up (Is.divr f1 f6) (by decide)
  have f9 : Zk (divq x0.b G) 200001 := Zk.up (Is.divq f2 f6) (by decide)
  have f10 : Zk (divr x0.b G) 200001 := Zk.up (Is.divr f2 f6) (by decide)
  have f11 : Zk (divq x0.c G) 200001 := Zk.up (Is.divq f3 f6) (by decide)
  have f12 : Zk (divr x0.c G) 200001 := Zk.up (Is.divr f3 f6) (by decide)
  have f13 : Zk (divq (1 : Int) G) 200001 := Zk.up (Is.divq f5 f6) (by decide)
  have f14 : Zk (divr (1 : Int) G) 200001 := Zk.up (Is.divr f5 f6) (by decide)
  have H := SX.run (w := w) (List.flatten [[.bool x00, .string x01, .bool x02, .string x03, .bool x04, .string x05, .bool x06, .string x07], zc x0.a, zc x0.b, zc x0.c, zc x0.d, [.int .i64 (cmpZ x0.d 0), .bool true], zc (1 : Int), [.int .i64 (cmpZ (1 : Int) 0), .bool false], zc G, zc (divq x0.a G), zc (divr x0.a G), [.bool (decide (G ≠ 0))], zc (divq x0.b G), zc (divr x0.b G), [.bool (decide (G ≠ 0))], zc (divq x0.c G), zc (divr x0.c G), [.bool (decide (G ≠ 0))], zc (divq (1 : Int) G), zc (divr (1 : Int) G), [.bool (decide (G ≠ 0))]]) [.b true, .b false] [.ga 0 8] 8 (.one (.agg [.pa 24, .pa 25, .pa 29, .pa 30, .pa 34, .pa 35, .pa 39, .pa 40])) [.call 41 [.ga 0 2] (.one (.ga 8 2)) [], .call 41 [.ga 2 2] (.one (.ga 10 2)) [], .call 41 [.ga 4 2] (.one (.ga 12 2)) [], .call 41 [.ga 6 2] (.one (.ga 14 2)) [], .call 42 [.ga 14 2] (.one (.ca 16)) [], .op2 false .eql (.pa 16) (.p (.lit (.int .i64 0))) 17, .isB 17 true, .call 43 [.c (.p (.lit (.int .i64 1)))] (.one (.ga 18 2)) [], .call 42 [.ga 18 2] (.one (.ca 20)) [], .op2 false .lss (.pa 20) (.p (.lit (.int .i64 0))) 21, .call 44 [.c (.p (.slc 2 0 4 4))] (.one (.ga 22 2)) [(2049, .pa 8), (2050, .pa 9), (2051, .pa 10), (2052, .pa 11), (2053, .pa 12), (2054, .pa 13), (2055, .pa 18), (2056, .pa 19)], .isB 21 false, .call 46 [.ga 8 2, .ga 22 2] (.tup [.ga 24 2, .ga 26 2, .ca 28]) [], .call 46 [.ga 10 2, .ga 22 2] (.tup [.ga 29 2, .ga 31 2, .ca 33]) [], .call 46 [.ga 12 2, .ga 22 2] (.tup [.ga 34 2, .ga 36 2, .ca 38]) [], .call 46 [.ga 18 2, .ga 22 2] (.tup [.ga 39 2, .ga 41 2, .ca 43]) []] Tryz.func13 (by kernel_rfl) rfl (by kernel_rfl) rfl (by kernel_rfl)
    ⟨fun γ w' _ _ => jNorm wx00 (by decide) w',
     fun γ w' _ _ => jNorm wx01 (by decide) w',
     fun γ w' _ _ => jNorm wx02 (by decide) w',
     fun γ w' _ _ => jNorm wx03 (by decide) w',
     fun γ w' _ _ => jSign (IsZ.can f4) (by decide) w',
     congrArg (fun z => some (Value.bool z)) (by rw [cmpZ_eq0]; exact decide_eq_true hd : ((cmpZ x0.d 0) == (0 : Int)) = true),
     rfl,
     fun γ w' _ _ => From_any 1 w' (by first | decide | omega) (by first | decide | omega),
     fun γ w' _ _ => jSign (IsZ.can f5) (by decide) w',
     congrArg (fun z => some (Value.bool z)) (by decide : decide ((cmpZ (1 : Int) 0) < (0 : Int)) = false),
     fun γ w' _ hm => by have h := refGcdZ_any (some ⟨γ 2, 0, none⟩) [(sg x0.a, mg x0.a), (sg x0.b, mg x0.b), (sg x0.c, mg x0.c), (sg (1 : Int), mg (1 : Int))] 4 4 w' rfl (by simp) hsz (rdz4 (hm 2049 _ rfl) (hm 2050 _ rfl) (hm 2051 _ rfl) (hm 2052 _ rfl) (hm 2053 _ rfl) (hm 2054 _ rfl) (hm 2055 _ rfl) (hm 2056 _ rfl)); rw [hg] at h; exact h,
     rfl,
     fun γ w' _ _ => jDiv (IsZ.can f1) (by decide) (IsZ.can f6) (by decide) w',
     fun γ w' _ _ => jDiv (IsZ.can f2) (by decide) (IsZ.can f6) (by decide) w',
     fun γ w' _ _ => jDiv (IsZ.can f3) (by decide) (IsZ.can f6) (by decide) w',
     fun γ w' _ _ => jDiv (IsZ.can f5) (by decide) (IsZ.can f6) (by decide) w'⟩
  subst hGe; exact H
theorem p4Norm_minus {ux0 : Value} {x0 : Z4} {kx0 : Nat} (hx0 : IsF ux0 x0 kx0) (lx0 : kx0 ≤ 200000) (w : World) (hd : x0.d < 0) :
    Calls Tryz.prog 13 #[ux0] w fun e w' => e = .returned (FV ⟨divq (-x0.a) ((g4 x0.a x0.b x0.c x0.d : Nat) : Int), divq (-x0.b) ((g4 x0.a x0.b x0.c x0.d : Nat) : Int), divq (-x0.c) ((g4 x0.a x0.b x0.c x0.d : Nat) : Int), divq (-x0.d) ((g4 x0.a x0.b x0.c x0.d : Nat) : Int)⟩) ∧ Below w.heap.size w w' := by
  replace hx0 := hx0.up lx0
  have zx0 := hx0.sz
  obtain ⟨x00, x01, x02, x03, x04, x05, x06, x07, rfl, ex00, sx01, ex01, sx03, ex02, sx05, ex03, sx07⟩ := id hx0
  have wx00 : IsZ (.agg #[.bool x00, .string x01]) x0.a 200000 := ⟨x00, x01, rfl, ex00, sx01⟩
  have zx00 := wx00.sz
  have wx01 : IsZ (.agg #[.bool x02, .string x03]) x0.b 200000 := ⟨x02, x03, rfl, ex01, sx03⟩
  have zx01 := wx01.sz
  have wx02 : IsZ (.agg #[.bool x04, .string x05]) x0.c 200000 := ⟨x04, x05, rfl, ex02, sx05⟩
  have zx02 := wx02.sz
  have wx03 : IsZ (.agg #[.bool x06, .string x07]) x0.d 200000 := ⟨x06, x07, rfl, ex03, sx07⟩
  have zx03 := wx03.sz
  obtain ⟨G, hGe⟩ : ∃ G : Int, G = ((g4 x0.a x0.b x0.c x0.d : Nat) : Int) := ⟨_, rfl⟩
  have zl : Zk x0.d 200000 := zx0.2.2.2
  have hG : Zk G 200000 := by rw [hGe]; exact g4_size (q := ⟨x0.a, x0.b, x0.c, x0.d⟩) ⟨zx0.1, zx0.2.1, zx0.2.2.1, zl⟩
  have hsz : ∀ x ∈ [(sg x0.a, mg x0.a), (sg x0.b, mg x0.b), (sg x0.c, mg x0.c), (sg x0.d, mg x0.d)], x.2.size ≤ 134217728 := by
    intro x hx
    have y0 := zx0.1
    have y1 := zx0.2.1
    have y2 := zx0.2.2.1
    simp only [List.mem_cons, List.not_mem_nil, or_false] at hx
    rcases hx with rfl | rfl | rfl | rfl <;> simp <;> unfold Zk at * <;> omega
  have hg : ((gcdL [(sg x0.a, mg x0.a), (sg x0.b, mg x0.b), (sg x0.c, mg x0.c), (sg x0.d, mg x0.d)] : Nat) : Int) = G := by
    rw [hGe]
    show ((Nat.gcd (Nat.gcd (Nat.gcd (Nat.gcd 0 (nat (mg x0.a))) (nat (mg x0.b))) (nat (mg x0.c))) (nat (mg x0.d)) : Nat) : Int) = _
    rw [nat_mg, nat_mg, nat_mg, nat_mg, gcd_last]
  have f1 : Zk x0.a 200000 := Zk.up (zx00) (by decide)
  have f2 : Zk x0.b 200000 := Zk.up (zx01) (by decide)
  have f3 : Zk x0.c 200000 := Zk.up (zx02) (by decide)
  have f4 : Zk x0.d 200000 := Zk.up (zx03) (by decide)
  have f5 : Zk G 200000 := Zk.up (hG) (by decide)
  have f6 : Zk (-x0.a) 200000 := Zk.up (mg_neg_size f1) (by decide)
  have f7 : Zk (divq (-x0.a) G) 200001 := Zk.up (Is.divq f6 f5) (by decide)
  have f8 : Zk (divr (-x0.a) G) 200001 := Zk.up (Is.divr f6 f5) (by decide)
  have f9 : Zk (-x0.b) 200000 := Zk.up (mg_neg_size f2) (by decide)
  have f10 : Zk (divq (-x0.b) G) 200001 := Zk.up (Is.divq f9 f5) (by decide)
  have f11 : Zk (divr (-x0.b) G) 200001 := Zk.up (Is.divr f9 f5) (by decide)
  have f12 : Zk (-x0.c) 200000 := Zk.up (mg_neg_size f3) (by decide)
  have f13 : Zk (divq (-x0.c) G) 200001 := Zk.up (Is.divq f12 f5) (by decide)
  have f14 : Zk (divr (-x0.c) G) 200001 := Zk.up (Is.divr f12 f5) (by decide)
  have f15 : Zk (-x0.d) 200000 := Zk.up (mg_neg_size f4) (by decide)
  have f16 : Zk (divq (-x0.d) G) 200001 := Zk.up (Is.divq f15 f5) (by decide)
  have f17 : Zk (divr (-x0.d) G) 200001 := Zk.up (Is.divr f15 f5) (by decide)
  have H := SX.run (w := w) (List.flatten [[.bool x00, .string x01, .bool x02, .string x03, .bool x04, .string x05, .bool x06, .string x07], zc x0.a, zc x0.b, zc x0.c, zc x0.d, [.int .i64 (cmpZ x0.d 0), .bool false, .int .i64 (cmpZ x0.d 0), .bool true], zc G, zc (-x0.a), zc (divq (-x0.a) G), zc (divr (-x0.a) G), [.bool (decide (G ≠ 0))], zc (-x0.b), zc (divq (-x0.b) G), zc (divr (-x0.b) G), [.bool (decide (G ≠ 0))], zc (-x0.c), zc (divq (-x0.c) G), zc (divr (-x0.c) G), [.bool (decide (G ≠ 0))], zc (-x0.d), zc (divq (-x0.d) G), zc (divr (-x0.d) G), [.bool (decide (G ≠ 0))]]) [.b false, .b true] [.ga 0 8] 8 (.one (.agg [.pa 24, .pa 25, .pa 31, .pa 32, .pa 38, .pa 39, .pa 45, .pa 46])) [.call 41 [.ga 0 2] (.one (.ga 8 2)) [], .call 41 [.ga 2 2] (.one (.ga 10 2)) [], .call 41 [.ga 4 2] (.one (.ga 12 2)) [], .call 41 [.ga 6 2] (.one (.ga 14 2)) [], .call 42 [.ga 14 2] (.one (.ca 16)) [], .op2 false .eql (.pa 16) (.p (.lit (.int .i64 0))) 17, .isB 17 false, .call 42 [.ga 14 2] (.one (.ca 18)) [], .op2 false .lss (.pa 18) (.p (.lit (.int .i64 0))) 19, .call 44 [.c (.p (.slc 2 0 4 4))] (.one (.ga 20 2)) [(2049, .pa 8), (2050, .pa 9), (2051, .pa 10), (2052, .pa 11), (2053, .pa 12), (2054, .pa 13), (2055, .pa 14), (2056, .pa 15)], .isB 19 true, .call 45 [.ga 8 2] (.one (.ga 22 2)) [], .call 46 [.ga 22 2, .ga 20 2] (.tup [.ga 24 2, .ga 26 2, .ca 28]) [], .call 45 [.ga 10 2] (.one (.ga 29 2)) [], .call 46 [.ga 29 2, .ga 20 2] (.tup [.ga 31 2, .ga 33 2, .ca 35]) [], .call 45 [.ga 12 2] (.one (.ga 36 2)) [], .call 46 [.ga 36 2, .ga 20 2] (.tup [.ga 38 2, .ga 40 2, .ca 42]) [], .call 45 [.ga 14 2] (.one (.ga 43 2)) [], .call 46 [.ga 43 2, .ga 20 2] (.tup [.ga 45 2, .ga 47 2, .ca 49]) []] Tryz.func13 (by kernel_rfl) rfl (by kernel_rfl) rfl (by kernel_rfl)
    ⟨fun γ w' _ _ => jNorm wx00 (by decide) w',
     fun γ w' _ _ => jNorm wx01 (by decide) w',
     fun γ w' _ _ => jNorm wx02 (by decide) w',
     fun γ w' _ _ => jNorm wx03 (by decide) w',
     fun γ w' _ _ => jSign (IsZ.can f4) (by decide) w',
     congrArg (fun z => some (Value.bool z)) (by rw [cmpZ_eq0]; exact decide_eq_false (by omega) : ((cmpZ x0.d 0) == (0 : Int)) = false),
     rfl,
     fun γ w' _ _ => jSign (IsZ.can f4) (by decide) w',
     congrArg (fun z => some (Value.bool z)) (by rw [cmpZ_lt0]; exact decide_eq_true hd : decide ((cmpZ x0.d 0) < (0 : Int)) = true),
     fun γ w' _ hm => by have h := refGcdZ_any (some ⟨γ 2, 0, none⟩) [(sg x0.a, mg x0.a), (sg x0.b, mg x0.b), (sg x0.c, mg x0.c), (sg x0.d, mg x0.d)] 4 4 w' rfl (by simp) hsz (rdz4 (hm 2049 _ rfl) (hm 2050 _ rfl) (hm 2051 _ rfl) (hm 2052 _ rfl) (hm 2053 _ rfl) (hm 2054 _ rfl) (hm 2055 _ rfl) (hm 2056 _ rfl)); rw [hg] at h; exact h,
     rfl,
     fun γ w' _ _ => jNeg (IsZ.can f1) (by decide) w',
     fun γ w' _ _ => jDiv (IsZ.can f6) (by decide) (IsZ.can f5) (by decide) w',
     fun γ w' _ _ => jNeg (IsZ.can f2) (by decide) w',
     fun γ w' _ _ => jDiv (IsZ.can f9) (by decide) (IsZ.can f5) (by decide) w',
     fun γ w' _ _ => jNeg (IsZ.can f3) (by decide) w',
     fun γ w' _ _ => jDiv (IsZ.can f12) (by decide) (IsZ.can f5) (by decide) w',
     fun γ w' _ _ => jNeg (IsZ.can f4) (by decide) w',
     fun γ w' _ _ => jDiv (IsZ.can f15) (by decide) (IsZ.can f5) (by decide) w'⟩
  subst hGe; exact H
theorem p4Norm_plus {ux0 : Value} {x0 : Z4} {kx0 : Nat} (hx0 : IsF ux0 x0 kx0) (lx0 : kx0 ≤ 200000) (w : World) (hd : 0 < x0.d) :
    Calls Tryz.prog 13 #[ux0] w fun e w' => e = .returned (FV ⟨divq (x0.a) ((g4 x0.a x0.b x0.c x0.d : Nat) : Int), divq (x0.b) ((g4 x0.a x0.b x0.c x0.d : Nat) : Int), divq (x0.c) ((g4 x0.a x0.b x0.c x0.d : Nat) : Int), divq (x0.d) ((g4 x0.a x0.b x0.c x0.d : Nat) : Int)⟩) ∧ Below w.heap.size w w' := by
  replace hx0 := hx0.up lx0
  have zx0 := hx0.sz
  obtain ⟨x00, x01, x02, x03, x04, x05, x06, x07, rfl, ex00, sx01, ex01, sx03, ex02, sx05, ex03, sx07⟩ := id hx0
  have wx00 : IsZ (.agg #[.bool x00, .string x01]) x0.a 200000 := ⟨x00, x01, rfl, ex00, sx01⟩
  have zx00 := wx00.sz
  have wx01 : IsZ (.agg #[.bool x02, .string x03]) x0.b 200000 := ⟨x02, x03, rfl, ex01, sx03⟩
  have zx01 := wx01.sz
  have wx02 : IsZ (.agg #[.bool x04, .string x05]) x0.c 200000 := ⟨x04, x05, rfl, ex02, sx05⟩
  have zx02 := wx02.sz
  have wx03 : IsZ (.agg #[.bool x06, .string x07]) x0.d 200000 := ⟨x06, x07, rfl, ex03, sx07⟩
  have zx03 := wx03.sz
  obtain ⟨G, hGe⟩ : ∃ G : Int, G = ((g4 x0.a x0.b x0.c x0.d : Nat) : Int) := ⟨_, rfl⟩
  have zl : Zk x0.d 200000 := zx0.2.2.2
  have hG : Zk G 200000 := by rw [hGe]; exact g4_size (q := ⟨x0.a, x0.b, x0.c, x0.d⟩) ⟨zx0.1, zx0.2.1, zx0.2.2.1, zl⟩
  have hsz : ∀ x ∈ [(sg x0.a, mg x0.a), (sg x0.b, mg x0.b), (sg x0.c, mg x0.c), (sg x0.d, mg x0.d)], x.2.size ≤ 134217728 := by
    intro x hx
    have y0 := zx0.1
    have y1 := zx0.2.1
    have y2 := zx0.2.2.1
    simp only [List.mem_cons, List.not_mem_nil, or_false] at hx
    rcases hx with rfl | rfl | rfl | rfl <;> simp <;> unfold Zk at * <;> omega
  have hg : ((gcdL [(sg x0.a, mg x0.a), (sg x0.b, mg x0.b), (sg x0.c, mg x0.c), (sg x0.d, mg x0.d)] : Nat) : Int) = G := by
    rw [hGe]
    show ((Nat.gcd (Nat.gcd (Nat.gcd (Nat.gcd 0 (nat (mg x0.a))) (nat (mg x0.b))) (nat (mg x0.c))) (nat (mg x0.d)) : Nat) : Int) = _
    rw [nat_mg, nat_mg, nat_mg, nat_mg, gcd_last]
  have f1 : Zk x0.a 200000 := Zk.up (zx00) (by decide)
  have f2 : Zk x0.b 200000 := Zk.up (zx01) (by decide)
  have f3 : Zk x0.c 200000 := Zk.up (zx02) (by decide)
  have f4 : Zk x0.d 200000 := Zk.up (zx03) (by decide)
  have f5 : Zk G 200000 := Zk.up (hG) (by decide)
  have f6 : Zk (divq x0.a G) 200001 := Zk.up (Is.divq f1 f5) (by decide)
  have f7 : Zk (divr x0.a G) 200001 := Zk.up (Is.divr f1 f5) (by decide)
  have f8 : Zk (divq x0.b G) 200001 := Zk.up (Is.divq f2 f5) (by decide)
  have f9 : Zk (divr x0.b G) 200001 := Zk.up (Is.divr f2 f5) (by decide)
  have f10 : Zk (divq x0.c G) 200001 := Zk.up (Is.divq f3 f5) (by decide)
  have f11 : Zk (divr x0.c G) 200001 := Zk.up (Is.divr f3 f5) (by decide)
  have f12 : Zk (divq x0.d G) 200001 := Zk.up (Is.divq f4 f5) (by decide)
  have f13 : Zk (divr x0.d G) 200001 := Zk.up (Is.divr f4 f5) (by decide)
  have H := SX.run (w := w) (List.flatten [[.bool x00, .string x01, .bool x02, .string x03, .bool x04, .string x05, .bool x06, .string x07], zc x0.a, zc x0.b, zc x0.c, zc x0.d, [.int .i64 (cmpZ x0.d 0), .bool false, .int .i64 (cmpZ x0.d 0), .bool false], zc G, zc (divq x0.a G), zc (divr x0.a G), [.bool (decide (G ≠ 0))], zc (divq x0.b G), zc (divr x0.b G), [.bool (decide (G ≠ 0))], zc (divq x0.c G), zc (divr x0.c G), [.bool (decide (G ≠ 0))], zc (divq x0.d G), zc (divr x0.d G), [.bool (decide (G ≠ 0))]]) [.b false, .b false] [.ga 0 8] 8 (.one (.agg [.pa 22, .pa 23, .pa 27, .pa 28, .pa 32, .pa 33, .pa 37, .pa 38])) [.call 41 [.ga 0 2] (.one (.ga 8 2)) [], .call 41 [.ga 2 2] (.one (.ga 10 2)) [], .call 41 [.ga 4 2] (.one (.ga 12 2)) [], .call 41 [.ga 6 2] (.one (.ga 14 2)) [], .call 42 [.ga 14 2] (.one (.ca 16)) [], .op2 false .eql (.pa 16) (.p (.lit (.int .i64 0))) 17, .isB 17 false, .call 42 [.ga 14 2] (.one (.ca 18)) [], .op2 false .lss (.pa 18) (.p (.lit (.int .i64 0))) 19, .call 44 [.c (.p (.slc 2 0 4 4))] (.one (.ga 20 2)) [(2049, .pa 8), (2050, .pa 9), (2051, .pa 10), (2052, .pa 11), (2053, .pa 12), (2054, .pa 13), (2055, .pa 14), (2056, .pa 15)], .isB 19 false, .call 46 [.ga 8 2, .ga 20 2] (.tup [.ga 22 2, .ga 24 2, .ca 26]) [], .call 46 [.ga 10 2, .ga 20 2] (.tup [.ga 27 2, .ga 29 2, .ca 31]) [], .call 46 [.ga 12 2, .ga 20 2] (.tup [.ga 32 2, .ga 34 2, .ca 36]) [], .call 46 [.ga 14 2, .ga 20 2] (.tup [.ga 37 2, .ga 39 2, .ca 41]) []] Tryz.func13 (by kernel_rfl) rfl (by kernel_rfl) rfl (by kernel_rfl)
    ⟨fun γ w' _ _ => jNorm wx00 (by decide) w',
     fun γ w' _ _ => jNorm wx01 (by decide) w',
     fun γ w' _ _ => jNorm wx02 (by decide) w',
     fun γ w' _ _ => jNorm wx03 (by decide) w',
     fun γ w' _ _ => jSign (IsZ.can f4) (by decide) w',
     congrArg (fun z => some (Value.bool z)) (by rw [cmpZ_eq0]; exact decide_eq_false (by omega) : ((cmpZ x0.d 0) == (0 : Int)) = false),
     rfl,
     fun γ w' _ _ => jSign (IsZ.can f4) (by decide) w',
     congrArg (fun z => some (Value.bool z)) (by rw [cmpZ_lt0]; exact decide_eq_false (by omega) : decide ((cmpZ x0.d 0) < (0 : Int)) = false),
     fun γ w' _ hm => by have h := refGcdZ_any (some ⟨γ 2, 0, none⟩) [(sg x0.a, mg x0.a), (sg x0.b, mg x0.b), (sg x0.c, mg x0.c), (sg x0.d, mg x0.d)] 4 4 w' rfl (by simp) hsz (rdz4 (hm 2049 _ rfl) (hm 2050 _ rfl) (hm 2051 _ rfl) (hm 2052 _ rfl) (hm 2053 _ rfl) (hm 2054 _ rfl) (hm 2055 _ rfl) (hm 2056 _ rfl)); rw [hg] at h; exact h,
     rfl,
     fun γ w' _ _ => jDiv (IsZ.can f1) (by decide) (IsZ.can f5) (by decide) w',
     fun γ w' _ _ => jDiv (IsZ.can f2) (by decide) (IsZ.can f5) (by decide) w',
     fun γ w' _ _ => jDiv (IsZ.can f3) (by decide) (IsZ.can f5) (by decide) w',
     fun γ w' _ _ => jDiv (IsZ.can f4) (by decide) (IsZ.can f5) (by decide) w'⟩
  subst hGe; exact H
theorem p4Norm_F {u0 : Value} {x0 : Z4} {kx0 : Nat} (hx0 : IsF u0 x0 kx0) (lx0 : kx0 ≤ 200000) (w : World) :
    Calls Tryz.prog 13 #[u0] w fun e w' => e = .returned (PV (pt x0)) ∧ Below w.heap.size w w' := by
  have hp := turn_pos x0
  have hg := g4_last hp
  rw [← pt_turn x0, PV_pos hp, prim_divq hg]
  rcases Int.lt_trichotomy x0.d 0 with hd | hd | hd
  · have h := p4Norm_minus hx0 lx0 w hd
    rw [turn_minus hd, g4_neg]
    exact h
  · have h := p4Norm_zero hx0 lx0 w hd
    rw [turn_zero hd]
    exact h
  · have h := p4Norm_plus hx0 lx0 w hd
    rw [turn_plus hd]
    exact h
end Go.Proofs.YtodcomijjmobdaaGreatDoor
