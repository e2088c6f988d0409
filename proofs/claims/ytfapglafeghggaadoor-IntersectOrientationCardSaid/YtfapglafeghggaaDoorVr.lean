/- voussoirref05: arithmetic. -/
import Derived.Test.YtfapglafeghggaaDoorVa
import Derived.Test.YtfapglafeghggaaDoorPs
set_option linter.unusedVariables false
set_option linter.unusedSimpArgs false
namespace Go.Proofs.YtfapglafeghggaaDoor
open Go.RowKit NM SX
theorem v5part {ux0 : Value} {x0 : Int} {kx0 : Nat} (hx0 : IsZ ux0 x0 kx0) (lx0 : kx0 ≤ 268435455) {ux1 : Value} {x1 : Int} {kx1 : Nat} (hx1 : IsZ ux1 x1 kx1) (lx1 : kx1 ≤ 268435455) (w : World) :
    Calls Tryd.prog 40 #[ux0, ux1] w fun e w' => e = .returned (Z (divq x0 x1)) ∧ Below w.heap.size w w' := by
  replace hx0 := hx0.up lx0
  have zx0 := hx0.sz
  obtain ⟨x00, x01, rfl, ex00, sx01⟩ := id hx0
  replace hx1 := hx1.up lx1
  have zx1 := hx1.sz
  obtain ⟨x10, x11, rfl, ex10, sx11⟩ := id hx1
  have f1 : Zk (divq x0 x1) 268435456 := Zk.up (Is.divq zx0 zx1) (by decide)
  have f2 : Zk (divr x0 x1) 268435456 := Zk.up (Is.divr zx0 zx1) (by decide)
  exact SX.run (w := w) (List.flatten [[.bool x00, .string x01, .bool x10, .string x11], zc (divq x0 x1), zc (divr x0 x1), [.bool (decide (x1 ≠ 0))]]) [] [.ga 0 2, .ga 2 2] 4 (.one (.ga 4 2)) [.call 25 [.ga 0 2, .ga 2 2] (.tup [.ga 4 2, .ga 6 2, .ca 8]) []] Tryd.func40 (by kernel_rfl) rfl (by kernel_rfl) rfl (by kernel_rfl)
    (SX.All.one (fun γ w' _ _ => jDiv hx0 (by decide) hx1 (by decide) w'))
theorem v5Norm_0 {ux0 : Value} {x0 : Z4} {kx0 : Nat} (hx0 : IsF ux0 x0 kx0) (lx0 : kx0 ≤ 300000) (w : World) (h0 : x0.a ≠ 0) :
    Calls Tryd.prog 16 #[ux0] w fun e w' => e = .returned (.tuple #[FV ⟨divq x0.a ((g4 x0.a x0.b x0.c x0.d : Nat) : Int), divq x0.b ((g4 x0.a x0.b x0.c x0.d : Nat) : Int), divq x0.c ((g4 x0.a x0.b x0.c x0.d : Nat) : Int), divq x0.d ((g4 x0.a x0.b x0.c x0.d : Nat) : Int)⟩, .bool true]) ∧ Below w.heap.size w w' := by
  replace hx0 := hx0.up lx0
  have zx0 := hx0.sz
  obtain ⟨x00, x01, x02, x03, x04, x05, x06, x07, rfl, ex00, sx01, ex01, sx03, ex02, sx05, ex03, sx07⟩ := id hx0
  have wx00 : IsZ (.agg #[.bool x00, .string x01]) x0.a 300000 := ⟨x00, x01, rfl, ex00, sx01⟩
  have zx00 := wx00.sz
  have wx01 : IsZ (.agg #[.bool x02, .string x03]) x0.b 300000 := ⟨x02, x03, rfl, ex01, sx03⟩
  have zx01 := wx01.sz
  have wx02 : IsZ (.agg #[.bool x04, .string x05]) x0.c 300000 := ⟨x04, x05, rfl, ex02, sx05⟩
  have zx02 := wx02.sz
  have wx03 : IsZ (.agg #[.bool x06, .string x07]) x0.d 300000 := ⟨x06, x07, rfl, ex03, sx07⟩
  have zx03 := wx03.sz
  have hsz : ∀ x ∈ [(x00, x01), (x02, x03), (x04, x05), (x06, x07)], x.2.size ≤ 134217728 := by
    intro x hx
    simp only [List.mem_cons, List.not_mem_nil, or_false] at hx
    rcases hx with rfl | rfl | rfl | rfl <;> simp <;> omega
  have hg : gcdL [(x00, x01), (x02, x03), (x04, x05), (x06, x07)] = g4 x0.a x0.b x0.c x0.d := by
    show Nat.gcd (Nat.gcd (Nat.gcd (Nat.gcd 0 (nat x01)) (nat x03)) (nat x05)) (nat x07) = _
    rw [← gcd_last, ← ex00, ← ex01, ← ex02, ← ex03, abs_iv, abs_iv, abs_iv, abs_iv]
  have f1 : Zk ((g4 x0.a x0.b x0.c x0.d : Nat) : Int) 300000 := Zk.up ((g4_size zx0)) (by decide)
  have f2 : Zk (divq x0.a ((g4 x0.a x0.b x0.c x0.d : Nat) : Int)) 300001 := Zk.up ((Is.divq zx00 f1)) (by decide)
  have f3 : Zk (divq x0.b ((g4 x0.a x0.b x0.c x0.d : Nat) : Int)) 300001 := Zk.up ((Is.divq zx01 f1)) (by decide)
  have f4 : Zk (divq x0.c ((g4 x0.a x0.b x0.c x0.d : Nat) : Int)) 300001 := Zk.up ((Is.divq zx02 f1)) (by decide)
  have f5 : Zk (divq x0.d ((g4 x0.a x0.b x0.c x0.d : Nat) : Int)) 300001 := Zk.up ((Is.divq zx03 f1)) (by decide)
  exact SX.run (w := w) (List.flatten [[.bool x00, .string x01, .bool x02, .string x03, .bool x04, .string x05, .bool x06, .string x07, .int .i64 (cmpZ x0.a 0), .bool false], zc ((g4 x0.a x0.b x0.c x0.d : Nat) : Int), zc (divq x0.a ((g4 x0.a x0.b x0.c x0.d : Nat) : Int)), zc (divq x0.b ((g4 x0.a x0.b x0.c x0.d : Nat) : Int)), zc (divq x0.c ((g4 x0.a x0.b x0.c x0.d : Nat) : Int)), zc (divq x0.d ((g4 x0.a x0.b x0.c x0.d : Nat) : Int))]) [.b false] [.ga 0 8] 8 (.tup [.ga 12 8, .c (.p (.lit (.bool true)))]) [.call 21 [.ga 0 2] (.one (.ca 8)) [], .op2 false .eql (.pa 8) (.p (.lit (.int .i64 0))) 9, .isB 9 false, .call 23 [.c (.p (.slc 2 0 4 4))] (.one (.ga 10 2)) [(2049, .pa 0), (2050, .pa 1), (2051, .pa 2), (2052, .pa 3), (2053, .pa 4), (2054, .pa 5), (2055, .pa 6), (2056, .pa 7)], .call 40 [.ga 0 2, .ga 10 2] (.one (.ga 12 2)) [], .call 40 [.ga 2 2, .ga 10 2] (.one (.ga 14 2)) [], .call 40 [.ga 4 2, .ga 10 2] (.one (.ga 16 2)) [], .call 40 [.ga 6 2, .ga 10 2] (.one (.ga 18 2)) []] Tryd.func16 (by kernel_rfl) rfl (by kernel_rfl) rfl (by kernel_rfl)
    ⟨fun γ w' _ _ => jSign wx00 (by decide) w',
     congrArg (fun z => some (Value.bool z)) (by rw [cmpZ_eq0]; exact decide_eq_false h0 : ((cmpZ x0.a 0) == (0 : Int)) = false),
     rfl,
     fun γ w' _ hm => by have h := refGcdZ_any (some ⟨γ 2, 0, none⟩) [(x00, x01), (x02, x03), (x04, x05), (x06, x07)] 4 4 w' rfl (by simp) hsz (rdz4 (hm 2049 _ rfl) (hm 2050 _ rfl) (hm 2051 _ rfl) (hm 2052 _ rfl) (hm 2053 _ rfl) (hm 2054 _ rfl) (hm 2055 _ rfl) (hm 2056 _ rfl)); rw [hg] at h; exact h,
     fun γ w' _ _ => v5part wx00 (by decide) (IsZ.can f1) (by decide) w',
     fun γ w' _ _ => v5part wx01 (by decide) (IsZ.can f1) (by decide) w',
     fun γ w' _ _ => v5part wx02 (by decide) (IsZ.can f1) (by decide) w',
     fun γ w' _ _ => v5part wx03 (by decide) (IsZ.can f1) (by decide) w'⟩
theorem v5Norm_1 {ux0 : Value} {x0 : Z4} {kx0 : Nat} (hx0 : IsF ux0 x0 kx0) (lx0 : kx0 ≤ 300000) (w : World) (h0 : x0.a = 0) (h1 : x0.b ≠ 0) :
    Calls Tryd.prog 16 #[ux0] w fun e w' => e = .returned (.tuple #[FV ⟨divq x0.a ((g4 x0.a x0.b x0.c x0.d : Nat) : Int), divq x0.b ((g4 x0.a x0.b x0.c x0.d : Nat) : Int), divq x0.c ((g4 x0.a x0.b x0.c x0.d : Nat) : Int), divq x0.d ((g4 x0.a x0.b x0.c x0.d : Nat) : Int)⟩, .bool true]) ∧ Below w.heap.size w w' := by
  replace hx0 := hx0.up lx0
  have zx0 := hx0.sz
  obtain ⟨x00, x01, x02, x03, x04, x05, x06, x07, rfl, ex00, sx01, ex01, sx03, ex02, sx05, ex03, sx07⟩ := id hx0
  have wx00 : IsZ (.agg #[.bool x00, .string x01]) x0.a 300000 := ⟨x00, x01, rfl, ex00, sx01⟩
  have zx00 := wx00.sz
  have wx01 : IsZ (.agg #[.bool x02, .string x03]) x0.b 300000 := ⟨x02, x03, rfl, ex01, sx03⟩
  have zx01 := wx01.sz
  have wx02 : IsZ (.agg #[.bool x04, .string x05]) x0.c 300000 := ⟨x04, x05, rfl, ex02, sx05⟩
  have zx02 := wx02.sz
  have wx03 : IsZ (.agg #[.bool x06, .string x07]) x0.d 300000 := ⟨x06, x07, rfl, ex03, sx07⟩
  have zx03 := wx03.sz
  have hsz : ∀ x ∈ [(x00, x01), (x02, x03), (x04, x05), (x06, x07)], x.2.size ≤ 134217728 := by
    intro x hx
    simp only [List.mem_cons, List.not_mem_nil, or_false] at hx
    rcases hx with rfl | rfl | rfl | rfl <;> simp <;> omega
  have hg : gcdL [(x00, x01), (x02, x03), (x04, x05), (x06, x07)] = g4 x0.a x0.b x0.c x0.d := by
    show Nat.gcd (Nat.gcd (Nat.gcd (Nat.gcd 0 (nat x01)) (nat x03)) (nat x05)) (nat x07) = _
    rw [← gcd_last, ← ex00, ← ex01, ← ex02, ← ex03, abs_iv, abs_iv, abs_iv, abs_iv]
  have f1 : Zk ((g4 x0.a x0.b x0.c x0.d : Nat) : Int) 300000 := Zk.up ((g4_size zx0)) (by decide)
  have f2 : Zk (divq x0.a ((g4 x0.a x0.b x0.c x0.d : Nat) : Int)) 300001 := Zk.up ((Is.divq zx00 f1)) (by decide)
  have f3 : Zk (divq x0.b ((g4 x0.a x0.b x0.c x0.d : Nat) : Int)) 300001 := Zk.up ((Is.divq zx01 f1)) (by decide)
  have f4 : Zk (divq x0.c ((g4 x0.a x0.b x0.c x0.d : Nat) : Int)) 300001 := Zk.up ((Is.divq zx02 f1)) (by decide)
  have f5 : Zk (divq x0.d ((g4 x0.a x0.b x0.c x0.d : Nat) : Int)) 300001 := Zk.up ((Is.divq zx03 f1)) (by decide)
  exact SX.run (w := w) (List.flatten [[.bool x00, .string x01, .bool x02, .string x03, .bool x04, .string x05, .bool x06, .string x07, .int .i64 (cmpZ x0.a 0), .bool true, .int .i64 (cmpZ x0.b 0), .bool false], zc ((g4 x0.a x0.b x0.c x0.d : Nat) : Int), zc (divq x0.a ((g4 x0.a x0.b x0.c x0.d : Nat) : Int)), zc (divq x0.b ((g4 x0.a x0.b x0.c x0.d : Nat) : Int)), zc (divq x0.c ((g4 x0.a x0.b x0.c x0.d : Nat) : Int)), zc (divq x0.d ((g4 x0.a x0.b x0.c x0.d : Nat) : Int))]) [.b true, .b false] [.ga 0 8] 8 (.tup [.ga 14 8, .c (.p (.lit (.bool true)))]) [.call 21 [.ga 0 2] (.one (.ca 8)) [], .op2 false .eql (.pa 8) (.p (.lit (.int .i64 0))) 9, .isB 9 true, .call 21 [.ga 2 2] (.one (.ca 10)) [], .op2 false .eql (.pa 10) (.p (.lit (.int .i64 0))) 11, .isB 11 false, .call 23 [.c (.p (.slc 2 0 4 4))] (.one (.ga 12 2)) [(2049, .pa 0), (2050, .pa 1), (2051, .pa 2), (2052, .pa 3), (2053, .pa 4), (2054, .pa 5), (2055, .pa 6), (2056, .pa 7)], .call 40 [.ga 0 2, .ga 12 2] (.one (.ga 14 2)) [], .call 40 [.ga 2 2, .ga 12 2] (.one (.ga 16 2)) [], .call 40 [.ga 4 2, .ga 12 2] (.one (.ga 18 2)) [], .call 40 [.ga 6 2, .ga 12 2] (.one (.ga 20 2)) []] Tryd.func16 (by kernel_rfl) rfl (by kernel_rfl) rfl (by kernel_rfl)
    ⟨fun γ w' _ _ => jSign wx00 (by decide) w',
     congrArg (fun z => some (Value.bool z)) (by rw [cmpZ_eq0]; exact decide_eq_true h0 : ((cmpZ x0.a 0) == (0 : Int)) = true),
     rfl,
     fun γ w' _ _ => jSign wx01 (by decide) w',
     congrArg (fun z => some (Value.bool z)) (by rw [cmpZ_eq0]; exact decide_eq_false h1 : ((cmpZ x0.b 0) == (0 : Int)) = false),
     rfl,
     fun γ w' _ hm => by have h := refGcdZ_any (some ⟨γ 2, 0, none⟩) [(x00, x01), (x02, x03), (x04, x05), (x06, x07)] 4 4 w' rfl (by simp) hsz (rdz4 (hm 2049 _ rfl) (hm 2050 _ rfl) (hm 2051 _ rfl) (hm 2052 _ rfl) (hm 2053 _ rfl) (hm 2054 _ rfl) (hm 2055 _ rfl) (hm 2056 _ rfl)); rw [hg] at h; exact h,
     fun γ w' _ _ => v5part wx00 (by decide) (IsZ.can f1) (by decide) w',
     fun γ w' _ _ => v5part wx01 (by decide) (IsZ.can f1) (by decide) w',
     fun γ w' _ _ => v5part wx02 (by decide) (IsZ.can f1) (by decide) w',
     fun γ w' _ _ => v5part wx03 (by decide) (IsZ.can f1) (by decide) w'⟩
theorem v5Norm_2 {ux0 : Value} {x0 : Z4} {kx0 : Nat} (hx0 : IsF ux0 x0 kx0) (lx0 : kx0 ≤ 300000) (w : World) (h0 : x0.a = 0) (h1 : x0.b = 0) (h2 : x0.c ≠ 0) :
    Calls Tryd.prog 16 #[ux0] w fun e w' => e = .returned (.tuple #[FV ⟨divq x0.a ((g4 x0.a x0.b x0.c x0.d : Nat) : Int), divq x0.b ((g4 x0.a x0.b x0.c x0.d : Nat) : Int), divq x0.c ((g4 x0.a x0.b x0.c x0.d : Nat) : Int), divq x0.d ((g4 x0.a x0.b x0.c x0.d : Nat) : Int)⟩, .bool true]) ∧ Below w.heap.size w w' := by
  replace hx0 := hx0.up lx0
  have zx0 := hx0.sz
  obtain ⟨x00, x01, x02, x03, x04, x05, x06, x07, rfl, ex00, sx01, ex01, sx03, ex02, sx05, ex03, sx07⟩ := id hx0
  have wx00 : IsZ (.agg #[.bool x00, .string x01]) x0.a 300000 := ⟨x00, x01, rfl, ex00, sx01⟩
  have zx00 := wx00.sz
  have wx01 : IsZ (.agg #[.bool x02, .string x03]) x0.b 300000 := ⟨x02, x03, rfl, ex01, sx03⟩
  have zx01 := wx01.sz
  have wx02 : IsZ (.agg #[.bool x04, .string x05]) x0.c 300000 := ⟨x04, x05, rfl, ex02, sx05⟩
  have zx02 := wx02.sz
  have wx03 : IsZ (.agg #[.bool x06, .string x07]) x0.d 300000 := ⟨x06, x07, rfl, ex03, sx07⟩
  have zx03 := wx03.sz
  have hsz : ∀ x ∈ [(x00, x01), (x02, x03), (x04, x05), (x06, x07)], x.2.size ≤ 134217728 := by
    intro x hx
    simp only [List.mem_cons, List.not_mem_nil, or_false] at hx
    rcases hx with rfl | rfl | rfl | rfl <;> simp <;> omega
  have hg : gcdL [(x00, x01), (x02, x03), (x04, x05), (x06, x07)] = g4 x0.a x0.b x0.c x0.d := by
    show Nat.gcd (Nat.gcd (Nat.gcd (Nat.gcd 0 (nat x01)) (nat x03)) (nat x05)) (nat x07) = _
    rw [← gcd_last, ← ex00, ← ex01, ← ex02, ← ex03, abs_iv, abs_iv, abs_iv, abs_iv]
  have f1 : Zk ((g4 x0.a x0.b x0.c x0.d : Nat) : Int) 300000 := Zk.up ((g4_size zx0)) (by decide)
  have f2 : Zk (divq x0.a ((g4 x0.a x0.b x0.c x0.d : Nat) : Int)) 300001 := Zk.up ((Is.divq zx00 f1)) (by decide)
  have f3 : Zk (divq x0.b ((g4 x0.a x0.b x0.c x0.d : Nat) : Int)) 300001 := Zk.up ((Is.divq zx01 f1)) (by decide)
  have f4 : Zk (divq x0.c ((g4 x0.a x0.b x0.c x0.d : Nat) : Int)) 300001 := Zk.up ((Is.divq zx02 f1)) (by decide)
  have f5 : Zk (divq x0.d ((g4 x0.a x0.b x0.c x0.d : Nat) : Int)) 300001 := Zk.up ((Is.divq zx03 f1)) (by decide)
  exact SX.run (w := w) (List.flatten [[.bool x00, .string x01, .bool x02, .string x03, .bool x04, .string x05, .bool x06, .string x07, .int .i64 (cmpZ x0.a 0), .bool true, .int .i64 (cmpZ x0.b 0), .bool true, .int .i64 (cmpZ x0.c 0), .bool false], zc ((g4 x0.a x0.b x0.c x0.d : Nat) : Int), zc (divq x0.a ((g4 x0.a x0.b x0.c x0.d : Nat) : Int)), zc (divq x0.b ((g4 x0.a x0.b x0.c x0.d : Nat) : Int)), zc (divq x0.c ((g4 x0.a x0.b x0.c x0.d : Nat) : Int)), zc (divq x0.d ((g4 x0.a x0.b x0.c x0.d : Nat) : Int))]) [.b true, .b true, .b false] [.ga 0 8] 8 (.tup [.ga 16 8, .c (.p (.lit (.bool true)))]) [.call 21 [.ga 0 2] (.one (.ca 8)) [], .op2 false .eql (.pa 8) (.p (.lit (.int .i64 0))) 9, .isB 9 true, .call 21 [.ga 2 2] (.one (.ca 10)) [], .op2 false .eql (.pa 10) (.p (.lit (.int .i64 0))) 11, .isB 11 true, .call 21 [.ga 4 2] (.one (.ca 12)) [], .op2 false .eql (.pa 12) (.p (.lit (.int .i64 0))) 13, .isB 13 false, .call 23 [.c (.p (.slc 2 0 4 4))] (.one (.ga 14 2)) [(2049, .pa 0), (2050, .pa 1), (2051, .pa 2), (2052, .pa 3), (2053, .pa 4), (2054, .pa 5), (2055, .pa 6), (2056, .pa 7)], .call 40 [.ga 0 2, .ga 14 2] (.one (.ga 16 2)) [], .call 40 [.ga 2 2, .ga 14 2] (.one (.ga 18 2)) [], .call 40 [.ga 4 2, .ga 14 2] (.one (.ga 20 2)) [], .call 40 [.ga 6 2, .ga 14 2] (.one (.ga 22 2)) []] Tryd.func16 (by kernel_rfl) rfl (by kernel_rfl) rfl (by kernel_rfl)
    ⟨fun γ w' _ _ => jSign wx00 (by decide) w',
     congrArg (fun z => some (Value.bool z)) (by rw [cmpZ_eq0]; exact decide_eq_true h0 : ((cmpZ x0.a 0) == (0 : Int)) = true),
     rfl,
     fun γ w' _ _ => jSign wx01 (by decide) w',
     congrArg (fun z => some (Value.bool z)) (by rw [cmpZ_eq0]; exact decide_eq_true h1 : ((cmpZ x0.b 0) == (0 : Int)) = true),
     rfl,
     fun γ w' _ _ => jSign wx02 (by decide) w',
     congrArg (fun z => some (Value.bool z)) (by rw [cmpZ_eq0]; exact decide_eq_false h2 : ((cmpZ x0.c 0) == (0 : Int)) = false),
     rfl,
     fun γ w' _ hm => by have h := refGcdZ_any (some ⟨γ 2, 0, none⟩) [(x00, x01), (x02, x03), (x04, x05), (x06, x07)] 4 4 w' rfl (by simp) hsz (rdz4 (hm 2049 _ rfl) (hm 2050 _ rfl) (hm 2051 _ rfl) (hm 2052 _ rfl) (hm 2053 _ rfl) (hm 2054 _ rfl) (hm 2055 _ rfl) (hm 2056 _ rfl)); rw [hg] at h; exact h,
     fun γ w' _ _ => v5part wx00 (by decide) (IsZ.can f1) (by decide) w',
     fun γ w' _ _ => v5part wx01 (by decide) (IsZ.can f1) (by decide) w',
     fun γ w' _ _ => v5part wx02 (by decide) (IsZ.can f1) (by decide) w',
     fun γ w' _ _ => v5part wx03 (by decide) (IsZ.can f1) (by decide) w'⟩
theorem v5Norm_3 {ux0 : Value} {x0 : Z4} {kx0 : Nat} (hx0 : IsF ux0 x0 kx0) (lx0 : kx0 ≤ 300000) (w : World) (h0 : x0.a = 0) (h1 : x0.b = 0) (h2 : x0.c = 0) :
    Calls Tryd.prog 16 #[ux0] w fun e w' => e = .returned (.tuple #[.agg #[.bool false, .string ⟨#[]⟩, .bool false, .string ⟨#[]⟩, .bool false, .string ⟨#[]⟩, .bool false, .string ⟨#[]⟩], .bool false]) ∧ Below w.heap.size w w' := by
  replace hx0 := hx0.up lx0
  have zx0 := hx0.sz
  obtain ⟨x00, x01, x02, x03, x04, x05, x06, x07, rfl, ex00, sx01, ex01, sx03, ex02, sx05, ex03, sx07⟩ := id hx0
  have wx00 : IsZ (.agg #[.bool x00, .string x01]) x0.a 300000 := ⟨x00, x01, rfl, ex00, sx01⟩
  have zx00 := wx00.sz
  have wx01 : IsZ (.agg #[.bool x02, .string x03]) x0.b 300000 := ⟨x02, x03, rfl, ex01, sx03⟩
  have zx01 := wx01.sz
  have wx02 : IsZ (.agg #[.bool x04, .string x05]) x0.c 300000 := ⟨x04, x05, rfl, ex02, sx05⟩
  have zx02 := wx02.sz
  have wx03 : IsZ (.agg #[.bool x06, .string x07]) x0.d 300000 := ⟨x06, x07, rfl, ex03, sx07⟩
  have zx03 := wx03.sz
  exact SX.run (w := w) [.bool x00, .string x01, .bool x02, .string x03, .bool x04, .string x05, .bool x06, .string x07, .int .i64 (cmpZ x0.a 0), .bool true, .int .i64 (cmpZ x0.b 0), .bool true, .int .i64 (cmpZ x0.c 0), .bool true] [.b true, .b true, .b true] [.ga 0 8] 8 (.tup [.agg [.p (.lit (.bool false)), .p (.lit (.string ⟨#[]⟩)), .p (.lit (.bool false)), .p (.lit (.string ⟨#[]⟩)), .p (.lit (.bool false)), .p (.lit (.string ⟨#[]⟩)), .p (.lit (.bool false)), .p (.lit (.string ⟨#[]⟩))], .c (.p (.lit (.bool false)))]) [.call 21 [.ga 0 2] (.one (.ca 8)) [], .op2 false .eql (.pa 8) (.p (.lit (.int .i64 0))) 9, .isB 9 true, .call 21 [.ga 2 2] (.one (.ca 10)) [], .op2 false .eql (.pa 10) (.p (.lit (.int .i64 0))) 11, .isB 11 true, .call 21 [.ga 4 2] (.one (.ca 12)) [], .op2 false .eql (.pa 12) (.p (.lit (.int .i64 0))) 13, .isB 13 true] Tryd.func16 (by kernel_rfl) rfl (by kernel_rfl) rfl (by kernel_rfl)
    ⟨fun γ w' _ _ => jSign wx00 (by decide) w',
     congrArg (fun z => some (Value.bool z)) (by rw [cmpZ_eq0]; exact decide_eq_true h0 : ((cmpZ x0.a 0) == (0 : Int)) = true),
     rfl,
     fun γ w' _ _ => jSign wx01 (by decide) w',
     congrArg (fun z => some (Value.bool z)) (by rw [cmpZ_eq0]; exact decide_eq_true h1 : ((cmpZ x0.b 0) == (0 : Int)) = true),
     rfl,
     fun γ w' _ _ => jSign wx02 (by decide) w',
     congrArg (fun z => some (Value.bool z)) (by rw [cmpZ_eq0]; exact decide_eq_true h2 : ((cmpZ x0.c 0) == (0 : Int)) = true),
     rfl⟩
theorem v5Norm_any {u0 : Value} {x0 : Z4} {kx0 : Nat} (hx0 : IsF u0 x0 kx0) (lx0 : kx0 ≤ 300000) (w : World) :
    Calls Tryd.prog 16 #[u0] w fun e w' => e = .returned (normV x0) ∧ Below w.heap.size w w' := by
  unfold normV
  by_cases hf : flatF x0
  · rw [if_pos hf]; exact v5Norm_3 hx0 lx0 w hf.1 hf.2.1 hf.2.2
  · rw [if_neg hf, prim_divq (g4_flat hf)]
    by_cases h0 : x0.a = 0
    · by_cases h1 : x0.b = 0
      · exact v5Norm_2 hx0 lx0 w h0 h1 (fun h2 => hf ⟨h0, h1, h2⟩)
      · exact v5Norm_1 hx0 lx0 w h0 h1
    · exact v5Norm_0 hx0 lx0 w h0
end Go.Proofs.YtfapglafeghggaaDoor
