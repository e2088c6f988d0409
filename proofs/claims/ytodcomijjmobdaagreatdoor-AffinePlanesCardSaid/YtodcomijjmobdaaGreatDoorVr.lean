/- voussoirref05: arithmetic. -/
import Derived.Test.YtodcomijjmobdaaGreatDoorVa
import Derived.Test.YtodcomijjmobdaaGreatDoorPs
set_option linter.unusedVariables false
set_option linter.unusedSimpArgs false
namespace Go.Proofs.YtodcomijjmobdaaGreatDoor
open Go.RowKit NM SX
theorem v5part {ux0 : Value} {x0 : Int} {kx0 : Nat} (hx0 : IsZ ux0 x0 kx0) (lx0 : kx0 ≤ 268435455) {ux1 : Value} {x1 : Int} {kx1 : Nat} (hx1 : IsZ ux1 x1 kx1) (lx1 : kx1 ≤ 268435455) (w : World) :
    Calls Tryz.prog 125 #[ux0, ux1] w fun e w' => e = .returned (Z (divq x0 x1)) ∧ Below w.heap.size w w' := by
  replace hx0 := hx0.up lx0
  have zx0 := hx0.sz
  obtain ⟨x00, x01, rfl, ex00, sx01⟩ := id hx0
  replace hx1 := hx1.up lx1
  have zx1 := hx1.sz
  obtain ⟨x10, x11, rfl, ex10, sx11⟩ := id hx1
  have f1 : Zk (divq x0 x1) 268435456 := Zk.up (Is.divq zx0 zx1) (by decide)
  have f2 : Zk (divr x0 x1) 268435456 := Zk.up (Is.divr zx0 zx1) (by decide)
  exact SX.run (w := w) (List.flatten [[.bool x00, .string x01, .bool x10, .string x11], zc (divq x0 x1), zc (divr x0 x1), [.bool (decide (x1 ≠ 0))]]) [] [.ga 0 2, .ga 2 2] 4 (.one (.ga 4 2)) [.call 46 [.ga 0 2, .ga 2 2] (.tup [.ga 4 2, .ga 6 2, .ca 8]) []] Tryz.func125 (by kernel_rfl) rfl (by kernel_rfl) rfl (by kernel_rfl)
    (SX.All.one (fun γ w' _ _ => jDiv hx0 (by decide) hx1 (by decide) w'))
theorem v5Norm_0 {ux0 : Value} {x0 : Z4} {kx0 : Nat} (hx0 : IsF ux0 x0 kx0) (lx0 : kx0 ≤ 300000) (w : World) (h0 : x0.a ≠ 0) :
    Calls Tryz.prog 72 #[ux0] w fun e w' => e = .returned (.tuple #[FV ⟨divq x0.a ((g4 x0.a x0.b x0.c x0.d : Nat) : Int), divq x0.b ((g4 x0.a x0.b x0.c x0.d : Nat) : Int), divq x0.c ((g4 x0.a x0.b x0.c x0.d : Nat) : Int), divq x0.d ((g4 x0.a x0.b x0.c x0.d : Nat) : Int)⟩, .bool true]) ∧ Below w.heap.size w w' := by
  replace hx0 := hx0.up lx0
  have zx0 := hx0.sz
  obtain ⟨x00, x01, x02, x03, x04, x05, x06, x07, rfl, ex00, sx01, ex01, sx03, ex02, sx05, ex03, sx07⟩ := id hx0
  have wx00 : IsZ (.agg #[.bool x00, .string x01]) x0.a 300000 := ⟨x00, x01, rfl, ex00, sx01⟩
  have zx00 := wx00.sz
  have wx01 : IsZ (.agg #[.bool x02, .string x03]) x0.b 300000 := ⟨x02, x03, rfl, ex01, sx03⟩
  have zx01 := wx01.sz
  have wx02 : IsZ (.agg #[.bool x04, .string x05]) x0.c 300000 := ⟨x04, x05, rfl, ex02, sx05⟩
  have zx02 := wx02.sz
  have wx03 : IsZ (.agg #[.bool x06, .string x07]) x0.d 300000 := ⟨x06, x07, rfl, ex03, sx07⟩
  have zx03 := wx03.sz
  have hsz : ∀ x ∈ [(x00, x01), (x02, x03), (x04, x05), (x06, x07)], x.2.size ≤ 134217728 := by
    intro x hx
    simp only [List.mem_cons, List.not_mem_nil, or_false] at hx
    rcases hx with rfl | rfl | rfl | rfl <;> simp <;> omega
  have hg : gcdL [(x00, x01), (x02, x03), (x04, x05), (x06, x07)] = g4 x0.a x0.b x0.c x0.d := by
    show Nat.gcd (Nat.gcd (Nat.gcd (Nat.gcd 0 (nat x01)) (nat x03)) (nat x05)) (nat x07) = _
    rw [← gcd_last, ← ex00, ← ex01, ← ex02, ← ex03, abs_iv, abs_iv, abs_iv, abs_iv]
  have f1 : Zk ((g4 x0.a x0.b x0.c x0.d : Nat) : Int) 300000 := Zk.up ((g4_size zx0)) (by decide)
  have f2 : Zk (divq x0.a ((g4 x0.a x0.b x0.c x0.d : Nat) : Int)) 300001 := Zk.up ((Is.divq zx00 f1)) (by decide)
  have f3 : Zk (divq x0.b ((g4 x0.a x0.b x0.c x0.d : Nat) : Int)) 300001 := Zk.up ((Is.divq zx01 f1)) (by decide)
  have f4 : Zk (divq x0.c ((g4 x0.a x0.b x0.c x0.d : Nat) : Int)) 300001 := Zk.up ((Is.divq zx02 f1)) (by decide)
  have f5 : Zk (divq x0.d ((g4 x0.a x0.b x0.c x0.d : Nat) : Int)) 300001 := Zk.up ((Is.divq zx03 f1)) (by decide)
  exact SX.run (w := w) (List.flatten [[.bool x00, .string x01, .bool x02, .string x03, .bool x04, .string x05, .bool x06, .string x07, .int .i64 (cmpZ x0.a 0), .bool false], zc ((g4 x0.a x0.b x0.c x0.d : Nat) : Int), zc (divq x0.a ((g4 x0.a x0.b x0.c x0.d : Nat) : Int)), zc (divq x0.b ((g4 x0.a x0.b x0.c x0.d : Nat) : Int)), zc (divq x0.c ((g4 x0.a x0.b x0.c x0.d : Nat) : Int)), zc (divq x0.d ((g4 x0.a x0.b x0.c x0.d : Nat) : Int))]) [.b false] [.ga 0 8] 8 (.tup [.ga 12 8, .c (.p (.lit (.bool true)))]) [.call 42 [.ga 0 2] (.one (.ca 8)) [], .op2 false .eql (.pa 8) (.p (.lit (.int .i64 0))) 9, .isB 9 false, .call 44 [.c (.p (.slc 2 0 4 4))] (.one (.ga 10 2)) [(2049, .pa 0), (2050, .pa 1), (2051, .pa 2), (2052, .pa 3), (2053, .pa 4), (2054, .pa 5), (2055, .pa 6), (2056, .pa 7)], .call 125 [.ga 0 2, .ga 10 2] (.one (.ga 12 2)) [], .call 125 [.ga 2 2, .ga 10 2] (.one (.ga 14 2)) [], .call 125 [.ga 4 2, .ga 10 2] (.one (.ga 16 2)) [], .call 125 [.ga 6 2, .ga 10 2] (.one (.ga 18 2)) []] Tryz.func72 (by kernel_rfl) rfl (by kernel_rfl) rfl (by kernel_rfl)
    ⟨fun γ w' _ _ => jSign wx00 (by decide) w',
     congrArg (fun z => some (Value.bool z)) (by rw [cmpZ_eq0]; exact decide_eq_false h0 : ((cmpZ x0.a 0) == (0 : Int)) = false),
     rfl,
     fun γ w' _ hm => by have h := refGcdZ_any (some ⟨γ 2, 0, none⟩) [(x00, x01), (x02, x03), (x04, x05), (x06, x07)] 4 4 w' rfl (by simp) hsz (rdz4 (hm 2049 _ rfl) (hm 2050 _ rfl) (hm 2051 _ rfl) (hm 2052 _ rfl) (hm 2053 _ rfl) (hm 2054 _ rfl) (hm 2055 _ rfl) (hm 2056 _ rfl)); rw [hg] at h; exact h,
     fun γ w' _ _ => v5part wx00 (by decide) (IsZ.can f1) (by decide) w',
     fun γ w' _ _ => v5part wx01 (by decide) (IsZ.can f1) (by decide) w',
     fun γ w' _ _ => v5part wx02 (by decide) (IsZ.can f1) (by decide) w',
     fun γ w' _ _ => v5part wx03 (by decide) (IsZ.can f1) (by decide) w'⟩
theorem v5Norm_1 {ux0 : Value} {x0 : Z4} {kx0 : Nat} (hx0 : IsF ux0 x0 kx0) (lx0 : kx0 ≤ 300000) (w : World) (h0 : x0.a = 0) (h1 : x0.b ≠ 0) :
    Calls Tryz.prog 72 #[ux0] w fun e w' => e = .returned (.tuple #[FV ⟨divq x0.a ((g4 x0.a x0.b x0.c x0.d : Nat) : Int), divq x0.b ((g4 x0.a x0.b x0.c x0.d : Nat) : Int), divq x0.c ((g4 x0.a x0.b x0.c x0.d : Nat) : Int), divq x0.d ((g4 x0.a x0.b x0.c x0.d : Nat) : Int)⟩, .bool true]) ∧ Below w.heap.size w w' := by
  replace hx0 := hx0.up lx0
  have zx0 := hx0.sz
  obtain ⟨x00, x01, x02, x03, x04, x05, x06, x07, rfl, ex00, sx01, ex01, sx03, ex02, sx05, ex03, sx07⟩ := id hx0
  have wx00 : IsZ (.agg #[.bool x00, .string x01]) x0.a 300000 := ⟨x00, x01, rfl, ex00, sx01⟩
  have zx00 := wx00.sz
  have wx01 : IsZ (.agg #[.bool x02, .string x03]) x0.b 300000 := ⟨x02, x03, rfl, ex01, sx03⟩
  have zx01 := wx01.sz
  have wx02 : IsZ (.agg #[.bool x04, .string x05]) x0.c 300000 := ⟨x04, x05, rfl, ex02, sx05⟩
  have zx02 := wx02.sz
  have wx03 : IsZ (.agg #[.bool x06, .string x07]) x0.d 300000 := ⟨x06, x07, rfl, ex03, sx07⟩
  have zx03 := wx03.sz
  have hsz : ∀ x ∈ [(x00, x01), (x02, x03), (x04, x05), (x06, x07)], x.2.size ≤ 134217728 := by
    intro x hx
    simp only [List.mem_cons, List.not_mem_nil, or_false] at hx
    rcases hx with rfl | rfl | rfl | rfl <;> simp <;> omega
  have hg : gcdL [(x00, x01), (x02, x03), (x04, x05), (x06, x07)] = g4 x0.a x0.b x0.c x0.d := by
    show Nat.gcd (Nat.gcd (Nat.gcd (Nat.gcd 0 (nat x01)) (nat x03)) (nat x05)) (nat x07) = _
    rw [← gcd_last, ← ex00, ← ex01, ← ex02, ← ex03, abs_iv, abs_iv, abs_iv, abs_iv]
  have f1 : Zk ((g4 x0.a x0.b x0.c x0.d : Nat) : Int) 300000 := Zk.up ((g4_size zx0)) (by decide)
  have f2 : Zk (divq x0.a ((g4 x0.a x0.b x0.c x0.d : Nat) : Int)) 300001 := Zk.up ((Is.divq zx00 f1)) (by decide)
  have f3 : Zk (divq x0.b ((g4 x0.a x0.b x0.c x0.d : Nat) : Int)) 300001 := Zk.up ((Is.divq zx01 f1)) (by decide)
  have f4 : Zk (divq x0.c ((g4 x0.a x0.b x0.c x0.d : Nat) : Int)) 300001 := Zk.up ((Is.divq zx02 f1)) (by decide)
  have f5 : Zk (divq x0.d ((g4 x0.a x0.b x0.c x0.d : Nat) : Int)) 300001 := Zk.up ((Is.divq zx03 f1)) (by decide)
  exact SX.run (w := w) (List.flatten [[.bool x00, .string x01, .bool x02, .string x03, .bool x04, .string x05, .bool x06, .string x07, .int .i64 (cmpZ x0.a 0), .bool true, .int .i64 (cmpZ x0.b 0), .bool false], zc ((g4 x0.a x0.b x0.c x0.d : Nat) : Int), zc (divq x0.a ((g4 x0.a x0.b x0.c x0.d : Nat) : Int)), zc (divq x0.b ((g4 x0.a x0.b x0.c x0.d : Nat) : Int)), zc (divq x0.c ((g4 x0.a x0.b x0.c x0.d : Nat) : Int)), zc (divq x0.d ((g4 x0.a x0.b x0.c x0.d : Nat) : Int))]) [.b true, .b false] [.ga 0 8] 8 (.tup [.ga 14 8, .c (.p (.lit (.bool true)))]) [.call 42 [.ga 0 2] (.one (.ca 8)) [], .op2 false .eql (.pa 8) (.p (.lit (.int .i64 0))) 9, .isB 9 true, .call 42 [.ga 2 2] (.one (.ca 10)) [], .op2 false .eql (.pa 10) (.p (.lit (.int .i64 0))) 11, .isB 11 false, .call 44 [.c (.p (.slc 2 0 4 4))] (.one (.ga 12 2)) [(2049, .pa 0), (2050, .pa 1), (2051, .pa 2), (2052, .pa 3), (2053, .pa 4), (2054, .pa 5), (2055, .pa 6), (2056, .pa 7)], .call 125 [.ga 0 2, .ga 12 2] (.one (.ga 14 2)) [], .call 125 [.ga 2 2, .ga 12 2] (.one (.ga 16 2)) [], .call 125 [.ga 4 2, .ga 12 2] (.one (.ga 18 2)) [], .call 125 [.ga 6 2, .ga 12 2] (.one (.ga 20 2)) []] Tryz.func72 (by kernel_rfl) rfl (by kernel_rfl) rfl (by kernel_rfl)
    ⟨fun γ w' _ _ => jSign wx00 (by decide) w',
     congrArg (fun z => some (Value.bool z)) (by rw [cmpZ_eq0]; exact decide_eq_true h0 : ((cmpZ x0.a 0) == (0 : Int)) = true),
     rfl,
     fun γ w' _ _ => jSign wx01 (by decide) w',
     congrArg (fun z => some (Value.bool z)) (by rw [cmpZ_eq0]; exact decide_eq_false h1 : ((cmpZ x0.b 0) == (0 : Int)) = false),
     rfl,
     fun γ w' _ hm => by have h := refGcdZ_any (some ⟨γ 2, 0, none⟩) [(x00, x01), (x02, x03), (x04, x05), (x06, x07)] 4 4 w' rfl (by simp) hsz (rdz4 (hm 2049 _ rfl) (hm 2050 _ rfl) (hm 2051 _ rfl) (hm 2052 _ rfl) (hm 2053 _ rfl) (hm 2054 _ rfl) (hm 2055 _ rfl) (hm 2056 _ rfl)); rw [hg] at h; exact h,
     fun γ w' _ _ => v5part wx00 (by decide) (IsZ.can f1) (by decide) w',
     fun γ w' _ _ => v5part wx01 (by decide) (IsZ.can f1) (by decide) w',
     fun γ w' _ _ => v5part wx02 (by decide) (IsZ.can f1) (by decide) w',
     fun γ w' _ _ => v5part wx03 (by decide) (IsZ.can f1) (by decide) w'⟩
theorem v5Norm_2 {ux0 : Value} {x0 : Z4} {kx0 : Nat} (hx0 : IsF ux0 x0 kx0) (lx0 : kx0 ≤ 300000) (w : World) (h0 : x0.a = 0) (h1 : x0.b = 0) (h2 : x0.c ≠ 0) :
    Calls Tryz.prog 72 #[ux0] w fun e w' => e = .returned (.tuple #[FV ⟨divq x0.a ((g4 x0.a x0.b x0.c x0.d : Nat) : Int), divq x0.b ((g4 x0.a x0.b x0.c x0.d : Nat) : Int), divq x0.c ((g4 x0.a x0.b x0.c x0.d : Nat) : Int), divq x0.d ((g4 x0.a x0.b x0.c x0.d : Nat) : Int)⟩, .bool true]) ∧ Below w.heap.size w w' := by
  replace hx0 := hx0.up lx0
  have zx0 := hx0.sz
  obtain ⟨x00, x01, x02, x03, x04, x05, x06, x07, rfl, ex00, sx01, ex01, sx03, ex02, sx05, ex03, sx07⟩ := id hx0
  have wx00 : IsZ (.agg #[.bool x00, .string x01]) x0.a 300000 := ⟨x00, x01, rfl, ex00, sx01⟩
  have zx00 := wx00.sz
  have wx01 : IsZ (.agg #[.bool x02, .string x03]) x0.b 300000 := ⟨x02, x03, rfl, ex01, sx03⟩
  have zx01 := wx01.sz
  have wx02 : IsZ (.agg #[.bool x04, .string x05]) x0.c 300000 := ⟨x04, x05, rfl, ex02, sx05⟩
  have zx02 := wx02.sz
  have wx03 : IsZ (.agg #[.bool x06, .string x07]) x0.d 300000 := ⟨x06, x07, rfl, ex03, sx07⟩
  have zx03 := wx03.sz
  have hsz : ∀ x ∈ [(x00, x01), (x02, x03), (x04, x05), (x06, x07)], x.2.size ≤ 134217728 := by
    intro x hx
    simp only [List.mem_cons, List.not_mem_nil, or_false] at hx
    rcases hx with rfl | rfl | rfl | rfl <;> simp <;> omega
  have hg : gcdL [(x00, x01), (x02, x03), (x04, x05), (x06, x07)] = g4 x0.a x0.b x0.c x0.d := by
    show Nat.gcd (Nat.gcd (Nat.gcd (Nat.gcd 0 (nat x01)) (nat x03)) (nat x05)) (nat x07) = _
    rw [← gcd_last, ← ex00, ← ex01, ← ex02, ← ex03, abs_iv, abs_iv, abs_iv, abs_iv]
  have f1 : Zk ((g4 x0.a x0.b x0.c x0.d : Nat) : Int) 300000 := Zk.up ((g4_size zx0)) (by decide)
  have f2 : Zk (divq x0.a ((g4 x0.a x0.b x0.c x0.d : Nat) : Int)) 300001 := Zk.up ((Is.divq zx00 f1)) (by decide)
  have f3 : Zk (divq x0.b ((g4 x0.a x0.b x0.c x0.d : Nat) : Int)) 300001 := Zk.up ((Is.divq zx01 f1)) (by decide)
  have f4 : Zk (divq x0.c ((g4 x0.a x0.b x0.c x0.d : Nat) : Int)) 300001 := Zk.up ((Is.divq zx02 f1)) (by decide)
  have f5 : Zk (divq x0.d ((g4 x0.a x0.b x0.c x0.d : Nat) : Int)) 300001 := Zk.up ((Is.divq zx03 f1)) (by decide)
  exact SX.run (w := w) (List.flatten [[.bool x00, .string x01, .bool x02, .string x03, .bool x04, .string x05, .bool x06, .string x07, .int .i64 (cmpZ x0.a 0), .bool true, .int .i64 (cmpZ x0.b 0), .bool true, .int .i64 (cmpZ x0.c 0), .bool false], zc ((g4 x0.a x0.b x0.c x0.d : Nat) : Int), zc (divq x0.a ((g4 x0.a x0.b x0.c x0.d : Nat) : Int)), zc (divq x0.b ((g4 x0.a x0.b x0.c x0.d : Nat) : Int)), zc (divq x0.c ((g4 x0.a x0.b x0.c x0.d : Nat) : Int)), zc (divq x0.d ((g4 x0.a x0.b x0.c x0.d : Nat) : Int))]) [.b true, .b true, .b false] [.ga 0 8] 8 (.tup [.ga 16 8, .c (.p (.lit (.bool true)))]) [.call 42 [.ga 0 2] (.one (.ca 8)) [], .op2 false .eql (.pa 8) (.p (.lit (.int .i64 0))) 9, .isB 9 true, .call 42 [.ga 2 2] (.one (.ca 10)) [], .op2 false .eql (.pa 10) (.p (.lit (.int .i64 0))) 11, .isB 11 true, .call 42 [.ga 4 2] (.one (.ca 12)) [], .op2 false .eql (.pa 12) (.p (.lit (.int .i64 0))) 13, .isB 13 false, .call 44 [.c (.p (.slc 2 0 4 4))] (.one (.ga 14 2)) [(2049, .pa 0), (2050, .pa 1), (2051, .pa 2), (2052, .pa 3), (2053, .pa 4), (2054, .pa 5), (2055, .pa 6), (2056, .pa 7)], .call 125 [.ga 0 2, .ga 14 2] (.one (.ga 16 2)) [], .call 125 [.ga 2 2, .ga 14 2] (.one (.ga 18 2)) [], .call 125 [.ga 4 2, .ga 14 2] (.one (.ga 20 2)) [], .call 125 [.ga 6 2, .ga 14 2] (.one (.ga 22 2)) []] Tryz.func72 (by kernel_rfl) rfl (by kernel_rfl) rfl (by kernel_rfl)
    ⟨fun γ w' _ _ => jSign wx00 (by decide) w',
     congrArg (fun z => some (Value.bool z)) (by rw [cmpZ_eq0]; exact decide_eq_true h0 : ((cmpZ x0.a 0) == (0 : Int)) = true),
     rfl,
     fun γ w' _ _ => jSign wx01 (by decide) w',
     congrArg (fun z => some (Value.bool z)) (by rw [cmpZ_eq0]; exact decide_eq_true h1 : ((cmpZ x0.b 0) == (0 : Int)) = true),
     rfl,
     fun γ w' _ _ => jSign wx02 (by decide) w',
     congrArg (fun z => some (Value.bool z)) (by rw [cmpZ_eq0]; exact decide_eq_false h2 : ((cmpZ x0.c 0) == (0 : Int)) = false),
     rfl,
     fun γ w' _ hm => by have h := refGcdZ_any (some ⟨γ 2, 0, none⟩) [(x00, x01), (x02, x03), (x04, x05), (x06, x07)] 4 4 w' rfl (by simp) hsz (rdz4 (hm 2049 _ rfl) (hm 2050 _ rfl) (hm 2051 _ rfl) (hm 2052 _ rfl) (hm 2053 _ rfl) (hm 2054 _ rfl) (hm 2055 _ rfl) (hm 2056 _ rfl)); rw [hg] at h; exact h,
     fun γ w' _ _ => v5part wx00 (by decide) (IsZ.can f1) (by decide) w',
     fun γ w' _ _ => v5part wx01 (by decide) (IsZ.can f1) (by decide) w',
     fun γ w' _ _ => v5part wx02 (by decide) (IsZ.can f1) (by decide) w',
     fun γ w' _ _ => v5part wx03 (by decide) (IsZ.can f1) (by decide) w'⟩
theorem v5Norm_3 {ux0 : Value} {x0 : Z4} {kx0 : Nat} (hx0 : IsF ux0 x0 kx0) (lx0 : kx0 ≤ 300000) (w : World) (h0 : x0.a = 0) (h1 : x0.b = 0) (h2 : x0.c = 0) :
    Calls Tryz.prog 72 #[ux0] w fun e w' => e = .returned (.tuple #[.agg #[.bool false, .string ⟨#[]⟩, .bool false, .string ⟨#[]⟩, .bool false, .string ⟨#[]⟩, .bool false, .string ⟨#[]⟩], .bool false]) ∧ Below w.heap.size w w' := by
  replace hx0 := hx0.up lx0
  have zx0 := hx0.sz
  obtain ⟨x00, x01, x02, x03, x04, x05, x06, x07, rfl, ex00, sx01, ex01, sx03, ex02, sx05, ex03, sx07⟩ := id hx0
  have wx00 : IsZ (.agg #[.bool x00, .string x01]) x0.a 300000 := ⟨x00, x01, rfl, ex00, sx01⟩
  have zx00 := wx00.sz
  have wx01 : IsZ (.agg #[.bool x02, .string x03]) x0.b 300000 := ⟨x02, x03, rfl, ex01, sx03⟩
  have zx01 := wx01.sz
  have wx02 : IsZ (.agg #[.bool x04, .string x05]) x0.c 300000 := ⟨x04, x05, rfl, ex02, sx05⟩
  have zx02 := wx02.sz
  have wx03 : IsZ (.agg #[.bool x06, .string x07]) x0.d 300000 := ⟨x06, x07, rfl, ex03, sx07⟩
  have zx03 := wx03.sz
  exact SX.run (w := w) [.bool x00, .string x01, .bool x02, .string x03, .bool x04, .string x05, .bool x06, .string x07, .int .i64 (cmpZ x0.a 0), .bool true, .int .i64 (cmpZ x0.b 0), .bool true, .int .i64 (cmpZ x0.c 0), .bool true] [.b true, .b true, .b true] [.ga 0 8] 8 (.tup [.agg [.p (.lit (.bool false)), .p (.lit (.string ⟨#[]⟩)), .p (.lit (.bool false)), .p (.lit (.string ⟨#[]⟩)), .p (.lit (.bool false)), .p (.lit (.string ⟨#[]⟩)), .p (.lit (.bool false)), .p (.lit (.string ⟨#[]⟩))], .c (.p (.lit (.bool false)))]) [.call 42 [.ga 0 2] (.one (.ca 8)) [], .op2 false .eql (.pa 8) (.p (.lit (.int .i64 0))) 9, .isB 9 true, .call 42 [.ga 2 2] (.one (.ca 10)) [], .op2 false .eql (.pa 10) (.p (.lit (.int .i64 0))) 11, .isB 11 true, .call 42 [.ga 4 2] (.one (.ca 12)) [], .op2 false .eql (.pa 12) (.p (.lit (.int .i64 0))) 13, .isB 13 true] Tryz.func72 (by kernel_rfl) rfl (by kernel_rfl) rfl (by kernel_rfl)
    ⟨fun γ w' _ _ => jSign wx00 (by decide) w',
     congrArg (fun z => some (Value.bool z)) (by rw [cmpZ_eq0]; exact decide_eq_true h0 : ((cmpZ x0.a 0) == (0 : Int)) = true),
     rfl,
     fun γ w' _ _ => jSign wx01 (by decide) w',
     congrArg (fun z => some (Value.bool z)) (by rw [cmpZ_eq0]; exact decide_eq_true h1 : ((cmpZ x0.b 0) == (0 : Int)) = true),
     rfl,
     fun γ w' _ _ => jSign wx02 (by decide) w',
     congrArg (fun z => some (Value.bool z)) (by rw [cmpZ_eq0]; exact decide_eq_true h2 : ((cmpZ x0.c 0) == (0 : Int)) = true),
     rfl⟩
theorem v5Norm_any {u0 : Value} {x0 : Z4} {kx0 : Nat} (hx0 : IsF u0 x0 kx0) (lx0 : kx0 ≤ 300000) (w : World) :
    Calls Tryz.prog 72 #[u0] w fun e w' => e = .returned (normV x0) ∧ Below w.heap.size w w' := by
  unfold normV
  by_cases hf : flatF x0
  · rw [if_pos hf]; exact v5Norm_3 hx0 lx0 w hf.1 hf.2.1 hf.2.2
  · rw [if_neg hf, prim_divq (g4_flat hf)]
    by_cases h0 : x0.a = 0
    · by_cases h1 : x0.b = 0
      · exact v5Norm_2 hx0 lx0 w h0 h1 (fun h2 => hf ⟨h0, h1, h2⟩)
      · exact v5Norm_1 hx0 lx0 w h0 h1
    · exact v5Norm_0 hx0 lx0 w h0
theorem v5Make_f {ux0 : Value} {x0 : P3} {kx0 : Nat} (hx0 : IsV ux0 x0 kx0) (lx0 : kx0 ≤ 20000) {ux1 : Value} {x1 : Rat} {kx1 : Nat} (hx1 : IsQ ux1 x1 kx1) (lx1 : kx1 ≤ 20000) (w : World) (hf : flatQ (Q4.mk x0.x x0.y x0.z x1)) :
    Calls Tryz.prog 82 #[ux0, ux1] w fun e w' => e = .returned (.tuple #[.agg #[.bool false, .string ⟨#[]⟩, .bool false, .string ⟨#[]⟩, .bool false, .string ⟨#[]⟩, .bool false, .string ⟨#[]⟩], .bool false]) ∧ Below w.heap.size w w' := by
  replace hx0 := hx0.up lx0
  have zx0 := hx0.sz (by decide)
  obtain ⟨x00, x01, x02, x03, x04, x05, x06, x07, x08, rfl, ex00, sx01, sx02, ex01, sx04, sx05, ex02, sx07, sx08⟩ := id hx0
  have wx00 : IsQ (.agg #[.bool x00, .string x01, .string x02]) x0.x 20000 := ⟨x00, x01, x02, rfl, ex00, sx01, sx02⟩
  have zx00 := wx00.sz (by decide)
  have wx01 : IsQ (.agg #[.bool x03, .string x04, .string x05]) x0.y 20000 := ⟨x03, x04, x05, rfl, ex01, sx04, sx05⟩
  have zx01 := wx01.sz (by decide)
  have wx02 : IsQ (.agg #[.bool x06, .string x07, .string x08]) x0.z 20000 := ⟨x06, x07, x08, rfl, ex02, sx07, sx08⟩
  have zx02 := wx02.sz (by decide)
  replace hx1 := hx1.up lx1
  have zx1 := hx1.sz (by decide)
  obtain ⟨x10, x11, x12, rfl, ex10, sx11, sx12⟩ := id hx1
  have f1 : Zk (1 : Int) 8 := mg_size_le (k := 8) (by first | decide | omega)
  have f2 : Zk x0.x.num 20000 := Zk.up (zx00.1) (by decide)
  have f3 : Zk (x0.x.den : Int) 20000 := Zk.up (zx00.2) (by decide)
  have f4 : Zk ((1 : Int) * (x0.x.den : Int)) 20008 := Zk.up (mg_mul_size f1 f3) (by decide)
  have f5 : Zk x0.y.num 20000 := Zk.up (zx01.1) (by decide)
  have f6 : Zk (x0.y.den : Int) 20000 := Zk.up (zx01.2) (by decide)
  have f7 : Zk (((1 : Int) * (x0.x.den : Int)) * (x0.y.den : Int)) 40008 := Zk.up (mg_mul_size f4 f6) (by decide)
  have f8 : Zk x0.z.num 20000 := Zk.up (zx02.1) (by decide)
  have f9 : Zk (x0.z.den : Int) 20000 := Zk.up (zx02.2) (by decide)
  have f10 : Zk ((((1 : Int) * (x0.x.den : Int)) * (x0.y.den : Int)) * (x0.z.den : Int)) 60008 := Zk.up (mg_mul_size f7 f9) (by decide)
  have f11 : Zk x1.num 20000 := Zk.up (zx1.1) (by decide)
  have f12 : Zk (x1.den : Int) 20000 := Zk.up (zx1.2) (by decide)
  have f13 : Zk (((((1 : Int) * (x0.x.den : Int)) * (x0.y.den : Int)) * (x0.z.den : Int)) * (x1.den : Int)) 80008 := Zk.up (mg_mul_size f10 f12) (by decide)
  have f14 : Zk (divq (((((1 : Int) * (x0.x.den : Int)) * (x0.y.den : Int)) * (x0.z.den : Int)) * (x1.den : Int)) (x0.x.den : Int)) 80009 := Zk.up (Is.divq f13 f3) (by decide)
  have f15 : Zk (divr (((((1 : Int) * (x0.x.den : Int)) * (x0.y.den : Int)) * (x0.z.den : Int)) * (x1.den : Int)) (x0.x.den : Int)) 80009 := Zk.up (Is.divr f13 f3) (by decide)
  have f16 : Zk (x0.x.num * (divq (((((1 : Int) * (x0.x.den : Int)) * (x0.y.den : Int)) * (x0.z.den : Int)) * (x1.den : Int)) (x0.x.den : Int))) 100009 := Zk.up (mg_mul_size f2 f14) (by decide)
  have f17 : Zk (divq (((((1 : Int) * (x0.x.den : Int)) * (x0.y.den : Int)) * (x0.z.den : Int)) * (x1.den : Int)) (x0.y.den : Int)) 80009 := Zk.up (Is.divq f13 f6) (by decide)
  have f18 : Zk (divr (((((1 : Int) * (x0.x.den : Int)) * (x0.y.den : Int)) * (x0.z.den : Int)) * (x1.den : Int)) (x0.y.den : Int)) 80009 := Zk.up (Is.divr f13 f6) (by decide)
  have f19 : Zk (x0.y.num * (divq (((((1 : Int) * (x0.x.den : Int)) * (x0.y.den : Int)) * (x0.z.den : Int)) * (x1.den : Int)) (x0.y.den : Int))) 100009 := Zk.up (mg_mul_size f5 f17) (by decide)
  have f20 : Zk (divq (((((1 : Int) * (x0.x.den : Int)) * (x0.y.den : Int)) * (x0.z.den : Int)) * (x1.den : Int)) (x0.z.den : Int)) 80009 := Zk.up (Is.divq f13 f9) (by decide)
  have f21 : Zk (divr (((((1 : Int) * (x0.x.den : Int)) * (x0.y.den : Int)) * (x0.z.den : Int)) * (x1.den : Int)) (x0.z.den : Int)) 80009 := Zk.up (Is.divr f13 f9) (by decide)
  have f22 : Zk (x0.z.num * (divq (((((1 : Int) * (x0.x.den : Int)) * (x0.y.den : Int)) * (x0.z.den : Int)) * (x1.den : Int)) (x0.z.den : Int))) 100009 := Zk.up (mg_mul_size f8 f20) (by decide)
  have f23 : Zk (divq (((((1 : Int) * (x0.x.den : Int)) * (x0.y.den : Int)) * (x0.z.den : Int)) * (x1.den : Int)) (x1.den : Int)) 80009 := Zk.up (Is.divq f13 f12) (by decide)
  have f24 : Zk (divr (((((1 : Int) * (x0.x.den : Int)) * (x0.y.den : Int)) * (x0.z.den : Int)) * (x1.den : Int)) (x1.den : Int)) 80009 := Zk.up (Is.divr f13 f12) (by decide)
  have f25 : Zk (x1.num * (divq (((((1 : Int) * (x0.x.den : Int)) * (x0.y.den : Int)) * (x0.z.den : Int)) * (x1.den : Int)) (x1.den : Int))) 100009 := Zk.up (mg_mul_size f11 f23) (by decide)
  exact SX.run (w := w) (List.flatten [[.bool x00, .string x01, .string x02, .bool x03, .string x04, .string x05, .bool x06, .string x07, .string x08, .bool x10, .string x11, .string x12], zc (1 : Int), zc x0.x.num, zc (x0.x.den : Int), zc ((1 : Int) * (x0.x.den : Int)), zc x0.y.num, zc (x0.y.den : Int), zc (((1 : Int) * (x0.x.den : Int)) * (x0.y.den : Int)), zc x0.z.num, zc (x0.z.den : Int), zc ((((1 : Int) * (x0.x.den : Int)) * (x0.y.den : Int)) * (x0.z.den : Int)), zc x1.num, zc (x1.den : Int), zc (((((1 : Int) * (x0.x.den : Int)) * (x0.y.den : Int)) * (x0.z.den : Int)) * (x1.den : Int)), zc x0.x.num, zc (x0.x.den : Int), zc (divq (((((1 : Int) * (x0.x.den : Int)) * (x0.y.den : Int)) * (x0.z.den : Int)) * (x1.den : Int)) (x0.x.den : Int)), zc (divr (((((1 : Int) * (x0.x.den : Int)) * (x0.y.den : Int)) * (x0.z.den : Int)) * (x1.den : Int)) (x0.x.den : Int)), [.bool (decide ((x0.x.den : Int) ≠ 0))], zc (x0.x.num * (divq (((((1 : Int) * (x0.x.den : Int)) * (x0.y.den : Int)) * (x0.z.den : Int)) * (x1.den : Int)) (x0.x.den : Int))), zc x0.y.num, zc (x0.y.den : Int), zc (divq (((((1 : Int) * (x0.x.den : Int)) * (x0.y.den : Int)) * (x0.z.den : Int)) * (x1.den : Int)) (x0.y.den : Int)), zc (divr (((((1 : Int) * (x0.x.den : Int)) * (x0.y.den : Int)) * (x0.z.den : Int)) * (x1.den : Int)) (x0.y.den : Int)), [.bool (decide ((x0.y.den : Int) ≠ 0))], zc (x0.y.num * (divq (((((1 : Int) * (x0.x.den : Int)) * (x0.y.den : Int)) * (x0.z.den : Int)) * (x1.den : Int)) (x0.y.den : Int))), zc x0.z.num, zc (x0.z.den : Int), zc (divq (((((1 : Int) * (x0.x.den : Int)) * (x0.y.den : Int)) * (x0.z.den : Int)) * (x1.den : Int)) (x0.z.den : Int)), zc (divr (((((1 : Int) * (x0.x.den : Int)) * (x0.y.den : Int)) * (x0.z.den : Int)) * (x1.den : Int)) (x0.z.den : Int)), [.bool (decide ((x0.z.den : Int) ≠ 0))], zc (x0.z.num * (divq (((((1 : Int) * (x0.x.den : Int)) * (x0.y.den : Int)) * (x0.z.den : Int)) * (x1.den : Int)) (x0.z.den : Int))), zc x1.num, zc (x1.den : Int), zc (divq (((((1 : Int) * (x0.x.den : Int)) * (x0.y.den : Int)) * (x0.z.den : Int)) * (x1.den : Int)) (x1.den : Int)), zc (divr (((((1 : Int) * (x0.x.den : Int)) * (x0.y.den : Int)) * (x0.z.den : Int)) * (x1.den : Int)) (x1.den : Int)), [.bool (decide ((x1.den : Int) ≠ 0))], zc (x1.num * (divq (((((1 : Int) * (x0.x.den : Int)) * (x0.y.den : Int)) * (x0.z.den : Int)) * (x1.den : Int)) (x1.den : Int))), [.bool false, .string ⟨#[]⟩, .bool false, .string ⟨#[]⟩, .bool false, .string ⟨#[]⟩, .bool false, .string ⟨#[]⟩, .bool false]]) [] [.ga 0 9, .ga 9 3] 12 (.tup [.ga 82 8, .ca 90]) [.call 43 [.c (.p (.lit (.int .i64 1)))] (.one (.ga 12 2)) [], .call 121 [.ga 0 3] (.tup [.ga 14 2, .ga 16 2]) [], .call 115 [.ga 12 2, .ga 16 2] (.one (.ga 18 2)) [], .call 121 [.ga 3 3] (.tup [.ga 20 2, .ga 22 2]) [], .call 115 [.ga 18 2, .ga 22 2] (.one (.ga 24 2)) [], .call 121 [.ga 6 3] (.tup [.ga 26 2, .ga 28 2]) [], .call 115 [.ga 24 2, .ga 28 2] (.one (.ga 30 2)) [], .call 121 [.ga 9 3] (.tup [.ga 32 2, .ga 34 2]) [], .call 115 [.ga 30 2, .ga 34 2] (.one (.ga 36 2)) [], .call 121 [.ga 0 3] (.tup [.ga 38 2, .ga 40 2]) [], .call 46 [.ga 36 2, .ga 40 2] (.tup [.ga 42 2, .ga 44 2, .ca 46]) [], .call 115 [.ga 38 2, .ga 42 2] (.one (.ga 47 2)) [], .call 121 [.ga 3 3] (.tup [.ga 49 2, .ga 51 2]) [], .call 46 [.ga 36 2, .ga 51 2] (.tup [.ga 53 2, .ga 55 2, .ca 57]) [], .call 115 [.ga 49 2, .ga 53 2] (.one (.ga 58 2)) [], .call 121 [.ga 6 3] (.tup [.ga 60 2, .ga 62 2]) [], .call 46 [.ga 36 2, .ga 62 2] (.tup [.ga 64 2, .ga 66 2, .ca 68]) [], .call 115 [.ga 60 2, .ga 64 2] (.one (.ga 69 2)) [], .call 121 [.ga 9 3] (.tup [.ga 71 2, .ga 73 2]) [], .call 46 [.ga 36 2, .ga 73 2] (.tup [.ga 75 2, .ga 77 2, .ca 79]) [], .call 115 [.ga 71 2, .ga 75 2] (.one (.ga 80 2)) [], .call 72 [.agg [.pa 47, .pa 48, .pa 58, .pa 59, .pa 69, .pa 70, .pa 80, .pa 81]] (.tup [.ga 82 8, .ca 90]) []] Tryz.func82 (by kernel_rfl) rfl (by kernel_rfl) rfl (by kernel_rfl)
    ⟨fun γ w' _ _ => From_any 1 w' (by first | decide | omega) (by first | decide | omega),
     fun γ w' _ _ => rParts wx00 (by decide) w',
     fun γ w' _ _ => jMul (IsZ.can f1) (by decide) (IsZ.can f3) (by decide) w',
     fun γ w' _ _ => rParts wx01 (by decide) w',
     fun γ w' _ _ => jMul (IsZ.can f4) (by decide) (IsZ.can f6) (by decide) w',
     fun γ w' _ _ => rParts wx02 (by decide) w',
     fun γ w' _ _ => jMul (IsZ.can f7) (by decide) (IsZ.can f9) (by decide) w',
     fun γ w' _ _ => rParts hx1 (by decide) w',
     fun γ w' _ _ => jMul (IsZ.can f10) (by decide) (IsZ.can f12) (by decide) w',
     fun γ w' _ _ => rParts wx00 (by decide) w',
     fun γ w' _ _ => jDiv (IsZ.can f13) (by decide) (IsZ.can f3) (by decide) w',
     fun γ w' _ _ => jMul (IsZ.can f2) (by decide) (IsZ.can f14) (by decide) w',
     fun γ w' _ _ => rParts wx01 (by decide) w',
     fun γ w' _ _ => jDiv (IsZ.can f13) (by decide) (IsZ.can f6) (by decide) w',
     fun γ w' _ _ => jMul (IsZ.can f5) (by decide) (IsZ.can f17) (by decide) w',
     fun γ w' _ _ => rParts wx02 (by decide) w',
     fun γ w' _ _ => jDiv (IsZ.can f13) (by decide) (IsZ.can f9) (by decide) w',
     fun γ w' _ _ => jMul (IsZ.can f8) (by decide) (IsZ.can f20) (by decide) w',
     fun γ w' _ _ => rParts hx1 (by decide) w',
     fun γ w' _ _ => jDiv (IsZ.can f13) (by decide) (IsZ.can f12) (by decide) w',
     fun γ w' _ _ => jMul (IsZ.can f11) (by decide) (IsZ.can f23) (by decide) w',
     fun γ w' _ _ => by have h := v5Norm_any (IsF.mk (IsZ.can f16) (IsZ.can f19) (IsZ.can f22) (IsZ.can f25)) (by decide) w'; rw [mkQ_prog x0 x1, norm_hom (denQ_pos _) (toQ_hom _), planeV, if_pos hf] at h; exact h⟩
theorem v5Make_n {ux0 : Value} {x0 : P3} {kx0 : Nat} (hx0 : IsV ux0 x0 kx0) (lx0 : kx0 ≤ 20000) {ux1 : Value} {x1 : Rat} {kx1 : Nat} (hx1 : IsQ ux1 x1 kx1) (lx1 : kx1 ≤ 20000) (w : World) (hf : ¬ flatQ (Q4.mk x0.x x0.y x0.z x1)) :
    Calls Tryz.prog 82 #[ux0, ux1] w fun e w' => e = .returned (.tuple #[FV (canQ (Q4.mk x0.x x0.y x0.z x1)), .bool true]) ∧ Below w.heap.size w w' := by
  replace hx0 := hx0.up lx0
  have zx0 := hx0.sz (by decide)
  obtain ⟨x00, x01, x02, x03, x04, x05, x06, x07, x08, rfl, ex00, sx01, sx02, ex01, sx04, sx05, ex02, sx07, sx08⟩ := id hx0
  have wx00 : IsQ (.agg #[.bool x00, .string x01, .string x02]) x0.x 20000 := ⟨x00, x01, x02, rfl, ex00, sx01, sx02⟩
  have zx00 := wx00.sz (by decide)
  have wx01 : IsQ (.agg #[.bool x03, .string x04, .string x05]) x0.y 20000 := ⟨x03, x04, x05, rfl, ex01, sx04, sx05⟩
  have zx01 := wx01.sz (by decide)
  have wx02 : IsQ (.agg #[.bool x06, .string x07, .string x08]) x0.z 20000 := ⟨x06, x07, x08, rfl, ex02, sx07, sx08⟩
  have zx02 := wx02.sz (by decide)
  replace hx1 := hx1.up lx1
  have zx1 := hx1.sz (by decide)
  obtain ⟨x10, x11, x12, rfl, ex10, sx11, sx12⟩ := id hx1
  have f1 : Zk (1 : Int) 8 := mg_size_le (k := 8) (by first | decide | omega)
  have f2 : Zk x0.x.num 20000 := Zk.up (zx00.1) (by decide)
  have f3 : Zk (x0.x.den : Int) 20000 := Zk.up (zx00.2) (by decide)
  have f4 : Zk ((1 : Int) * (x0.x.den : Int)) 20008 := Zk.up (mg_mul_size f1 f3) (by decide)
  have f5 : Zk x0.y.num 20000 := Zk.up (zx01.1) (by decide)
  have f6 : Zk (x0.y.den : Int) 20000 := Zk.up (zx01.2) (by decide)
  have f7 : Zk (((1 : Int) * (x0.x.den : Int)) * (x0.y.den : Int)) 40008 := Zk.up (mg_mul_size f4 f6) (by decide)
  have f8 : Zk x0.z.num 20000 := Zk.up (zx02.1) (by decide)
  have f9 : Zk (x0.z.den : Int) 20000 := Zk.up (zx02.2) (by decide)
  have f10 : Zk ((((1 : Int) * (x0.x.den : Int)) * (x0.y.den : Int)) * (x0.z.den : Int)) 60008 := Zk.up (mg_mul_size f7 f9) (by decide)
  have f11 : Zk x1.num 20000 := Zk.up (zx1.1) (by decide)
  have f12 : Zk (x1.den : Int) 20000 := Zk.up (zx1.2) (by decide)
  have f13 : Zk (((((1 : Int) * (x0.x.den : Int)) * (x0.y.den : Int)) * (x0.z.den : Int)) * (x1.den : Int)) 80008 := Zk.up (mg_mul_size f10 f12) (by decide)
  have f14 : Zk (divq (((((1 : Int) * (x0.x.den : Int)) * (x0.y.den : Int)) * (x0.z.den : Int)) * (x1.den : Int)) (x0.x.den : Int)) 80009 := Zk.up (Is.divq f13 f3) (by decide)
  have f15 : Zk (divr (((((1 : Int) * (x0.x.den : Int)) * (x0.y.den : Int)) * (x0.z.den : Int)) * (x1.den : Int)) (x0.x.den : Int)) 80009 := Zk.up (Is.divr f13 f3) (by decide)
  have f16 : Zk (x0.x.num * (divq (((((1 : Int) * (x0.x.den : Int)) * (x0.y.den : Int)) * (x0.z.den : Int)) * (x1.den : Int)) (x0.x.den : Int))) 100009 := Zk.up (mg_mul_size f2 f14) (by decide)
  have f17 : Zk (divq (((((1 : Int) * (x0.x.den : Int)) * (x0.y.den : Int)) * (x0.z.den : Int)) * (x1.den : Int)) (x0.y.den : Int)) 80009 := Zk.up (Is.divq f13 f6) (by decide)
  have f18 : Zk (divr (((((1 : Int) * (x0.x.den : Int)) * (x0.y.den : Int)) * (x0.z.den : Int)) * (x1.den : Int)) (x0.y.den : Int)) 80009 := Zk.up (Is.divr f13 f6) (by decide)
  have f19 : Zk (x0.y.num * (divq (((((1 : Int) * (x0.x.den : Int)) * (x0.y.den : Int)) * (x0.z.den : Int)) * (x1.den : Int)) (x0.y.den : Int))) 100009 := Zk.up (mg_mul_size f5 f17) (by decide)
  have f20 : Zk (divq (((((1 : Int) * (x0.x.den : Int)) * (x0.y.den : Int)) * (x0.z.den : Int)) * (x1.den : Int)) (x0.z.den : Int)) 80009 := Zk.up (Is.divq f13 f9) (by decide)
  have f21 : Zk (divr (((((1 : Int) * (x0.x.den : Int)) * (x0.y.den : Int)) * (x0.z.den : Int)) * (x1.den : Int)) (x0.z.den : Int)) 80009 := Zk.up (Is.divr f13 f9) (by decide)
  have f22 : Zk (x0.z.num * (divq (((((1 : Int) * (x0.x.den : Int)) * (x0.y.den : Int)) * (x0.z.den : Int)) * (x1.den : Int)) (x0.z.den : Int))) 100009 := Zk.up (mg_mul_size f8 f20) (by decide)
  have f23 : Zk (divq (((((1 : Int) * (x0.x.den : Int)) * (x0.y.den : Int)) * (x0.z.den : Int)) * (x1.den : Int)) (x1.den : Int)) 80009 := Zk.up (Is.divq f13 f12) (by decide)
  have f24 : Zk (divr (((((1 : Int) * (x0.x.den : Int)) * (x0.y.den : Int)) * (x0.z.den : Int)) * (x1.den : Int)) (x1.den : Int)) 80009 := Zk.up (Is.divr f13 f12) (by decide)
  have f25 : Zk (x1.num * (divq (((((1 : Int) * (x0.x.den : Int)) * (x0.y.den : Int)) * (x0.z.den : Int)) * (x1.den : Int)) (x1.den : Int))) 100009 := Zk.up (mg_mul_size f11 f23) (by decide)
  exact SX.run (w := w) (List.flatten [[.bool x00, .string x01, .string x02, .bool x03, .string x04, .string x05, .bool x06, .string x07, .string x08, .bool x10, .string x11, .string x12], zc (1 : Int), zc x0.x.num, zc (x0.x.den : Int), zc ((1 : Int) * (x0.x.den : Int)), zc x0.y.num, zc (x0.y.den : Int), zc (((1 : Int) * (x0.x.den : Int)) * (x0.y.den : Int)), zc x0.z.num, zc (x0.z.den : Int), zc ((((1 : Int) * (x0.x.den : Int)) * (x0.y.den : Int)) * (x0.z.den : Int)), zc x1.num, zc (x1.den : Int), zc (((((1 : Int) * (x0.x.den : Int)) * (x0.y.den : Int)) * (x0.z.den : Int)) * (x1.den : Int)), zc x0.x.num, zc (x0.x.den : Int), zc (divq (((((1 : Int) * (x0.x.den : Int)) * (x0.y.den : Int)) * (x0.z.den : Int)) * (x1.den : Int)) (x0.x.den : Int)), zc (divr (((((1 : Int) * (x0.x.den : Int)) * (x0.y.den : Int)) * (x0.z.den : Int)) * (x1.den : Int)) (x0.x.den : Int)), [.bool (decide ((x0.x.den : Int) ≠ 0))], zc (x0.x.num * (divq (((((1 : Int) * (x0.x.den : Int)) * (x0.y.den : Int)) * (x0.z.den : Int)) * (x1.den : Int)) (x0.x.den : Int))), zc x0.y.num, zc (x0.y.den : Int), zc (divq (((((1 : Int) * (x0.x.den : Int)) * (x0.y.den : Int)) * (x0.z.den : Int)) * (x1.den : Int)) (x0.y.den : Int)), zc (divr (((((1 : Int) * (x0.x.den : Int)) * (x0.y.den : Int)) * (x0.z.den : Int)) * (x1.den : Int)) (x0.y.den : Int)), [.bool (decide ((x0.y.den : Int) ≠ 0))], zc (x0.y.num * (divq (((((1 : Int) * (x0.x.den : Int)) * (x0.y.den : Int)) * (x0.z.den : Int)) * (x1.den : Int)) (x0.y.den : Int))), zc x0.z.num, zc (x0.z.den : Int), zc (divq (((((1 : Int) * (x0.x.den : Int)) * (x0.y.den : Int)) * (x0.z.den : Int)) * (x1.den : Int)) (x0.z.den : Int)), zc (divr (((((1 : Int) * (x0.x.den : Int)) * (x0.y.den : Int)) * (x0.z.den : Int)) * (x1.den : Int)) (x0.z.den : Int)), [.bool (decide ((x0.z.den : Int) ≠ 0))], zc (x0.z.num * (divq (((((1 : Int) * (x0.x.den : Int)) * (x0.y.den : Int)) * (x0.z.den : Int)) * (x1.den : Int)) (x0.z.den : Int))), zc x1.num, zc (x1.den : Int), zc (divq (((((1 : Int) * (x0.x.den : Int)) * (x0.y.den : Int)) * (x0.z.den : Int)) * (x1.den : Int)) (x1.den : Int)), zc (divr (((((1 : Int) * (x0.x.den : Int)) * (x0.y.den : Int)) * (x0.z.den : Int)) * (x1.den : Int)) (x1.den : Int)), [.bool (decide ((x1.den : Int) ≠ 0))], zc (x1.num * (divq (((((1 : Int) * (x0.x.den : Int)) * (x0.y.den : Int)) * (x0.z.den : Int)) * (x1.den : Int)) (x1.den : Int))), fc (canQ (Q4.mk x0.x x0.y x0.z x1)), [.bool true]]) [] [.ga 0 9, .ga 9 3] 12 (.tup [.ga 82 8, .ca 90]) [.call 43 [.c (.p (.lit (.int .i64 1)))] (.one (.ga 12 2)) [], .call 121 [.ga 0 3] (.tup [.ga 14 2, .ga 16 2]) [], .call 115 [.ga 12 2, .ga 16 2] (.one (.ga 18 2)) [], .call 121 [.ga 3 3] (.tup [.ga 20 2, .ga 22 2]) [], .call 115 [.ga 18 2, .ga 22 2] (.one (.ga 24 2)) [], .call 121 [.ga 6 3] (.tup [.ga 26 2, .ga 28 2]) [], .call 115 [.ga 24 2, .ga 28 2] (.one (.ga 30 2)) [], .call 121 [.ga 9 3] (.tup [.ga 32 2, .ga 34 2]) [], .call 115 [.ga 30 2, .ga 34 2] (.one (.ga 36 2)) [], .call 121 [.ga 0 3] (.tup [.ga 38 2, .ga 40 2]) [], .call 46 [.ga 36 2, .ga 40 2] (.tup [.ga 42 2, .ga 44 2, .ca 46]) [], .call 115 [.ga 38 2, .ga 42 2] (.one (.ga 47 2)) [], .call 121 [.ga 3 3] (.tup [.ga 49 2, .ga 51 2]) [], .call 46 [.ga 36 2, .ga 51 2] (.tup [.ga 53 2, .ga 55 2, .ca 57]) [], .call 115 [.ga 49 2, .ga 53 2] (.one (.ga 58 2)) [], .call 121 [.ga 6 3] (.tup [.ga 60 2, .ga 62 2]) [], .call 46 [.ga 36 2, .ga 62 2] (.tup [.ga 64 2, .ga 66 2, .ca 68]) [], .call 115 [.ga 60 2, .ga 64 2] (.one (.ga 69 2)) [], .call 121 [.ga 9 3] (.tup [.ga 71 2, .ga 73 2]) [], .call 46 [.ga 36 2, .ga 73 2] (.tup [.ga 75 2, .ga 77 2, .ca 79]) [], .call 115 [.ga 71 2, .ga 75 2] (.one (.ga 80 2)) [], .call 72 [.agg [.pa 47, .pa 48, .pa 58, .pa 59, .pa 69, .pa 70, .pa 80, .pa 81]] (.tup [.ga 82 8, .ca 90]) []] Tryz.func82 (by kernel_rfl) rfl (by kernel_rfl) rfl (by kernel_rfl)
    ⟨fun γ w' _ _ => From_any 1 w' (by first | decide | omega) (by first | decide | omega),
     fun γ w' _ _ => rParts wx00 (by decide) w',
     fun γ w' _ _ => jMul (IsZ.can f1) (by decide) (IsZ.can f3) (by decide) w',
     fun γ w' _ _ => rParts wx01 (by decide) w',
     fun γ w' _ _ => jMul (IsZ.can f4) (by decide) (IsZ.can f6) (by decide) w',
     fun γ w' _ _ => rParts wx02 (by decide) w',
     fun γ w' _ _ => jMul (IsZ.can f7) (by decide) (IsZ.can f9) (by decide) w',
     fun γ w' _ _ => rParts hx1 (by decide) w',
     fun γ w' _ _ => jMul (IsZ.can f10) (by decide) (IsZ.can f12) (by decide) w',
     fun γ w' _ _ => rParts wx00 (by decide) w',
     fun γ w' _ _ => jDiv (IsZ.can f13) (by decide) (IsZ.can f3) (by decide) w',
     fun γ w' _ _ => jMul (IsZ.can f2) (by decide) (IsZ.can f14) (by decide) w',
     fun γ w' _ _ => rParts wx01 (by decide) w',
     fun γ w' _ _ => jDiv (IsZ.can f13) (by decide) (IsZ.can f6) (by decide) w',
     fun γ w' _ _ => jMul (IsZ.can f5) (by decide) (IsZ.can f17) (by decide) w',
     fun γ w' _ _ => rParts wx02 (by decide) w',
     fun γ w' _ _ => jDiv (IsZ.can f13) (by decide) (IsZ.can f9) (by decide) w',
     fun γ w' _ _ => jMul (IsZ.can f8) (by decide) (IsZ.can f20) (by decide) w',
     fun γ w' _ _ => rParts hx1 (by decide) w',
     fun γ w' _ _ => jDiv (IsZ.can f13) (by decide) (IsZ.can f12) (by decide) w',
     fun γ w' _ _ => jMul (IsZ.can f11) (by decide) (IsZ.can f23) (by decide) w',
     fun γ w' _ _ => by have h := v5Norm_any (IsF.mk (IsZ.can f16) (IsZ.can f19) (IsZ.can f22) (IsZ.can f25)) (by decide) w'; rw [mkQ_prog x0 x1, norm_hom (denQ_pos _) (toQ_hom _), planeV, if_neg hf] at h; exact h⟩
theorem v5Make_any {ux0 : Value} {x0 : P3} {kx0 : Nat} (hx0 : IsV ux0 x0 kx0) (lx0 : kx0 ≤ 20000) {ux1 : Value} {x1 : Rat} {kx1 : Nat} (hx1 : IsQ ux1 x1 kx1) (lx1 : kx1 ≤ 20000) (w : World) :
    Calls Tryz.prog 82 #[ux0, ux1] w fun e w' => e = .returned (planeV (Q4.mk x0.x x0.y x0.z x1)) ∧ Below w.heap.size w w' := by
  unfold planeV
  by_cases hf : flatQ (Q4.mk x0.x x0.y x0.z x1)
  · rw [if_pos hf]; exact v5Make_f hx0 lx0 hx1 lx1 w hf
  · rw [if_neg hf]; exact v5Make_n hx0 lx0 hx1 lx1 w hf
end Go.Proofs.YtodcomijjmobdaaGreatDoor
