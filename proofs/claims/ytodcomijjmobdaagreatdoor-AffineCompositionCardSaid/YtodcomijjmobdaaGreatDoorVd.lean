/- Package plane. -/
import Derived.Test.YtodcomijjmobdaaGreatDoorVb
import Derived.Test.YtodcomijjmobdaaGreatDoorVr
import Derived.Test.YtodcomijjmobdaaGreatDoorPd
set_option linter.unusedVariables false
set_option linter.unusedSimpArgs false
namespace Go.Proofs.YtodcomijjmobdaaGreatDoor
open Go.RowKit NM SX
theorem plCo (a0 : Bool) (a1 : ByteArray) (a2 : Bool) (a3 : ByteArray) (a4 : Bool) (a5 : ByteArray) (a6 : Bool) (a7 : ByteArray) (w : World) :
    Calls Tryz.prog 94 #[.agg #[.bool a0, .string a1, .bool a2, .string a3, .bool a4, .string a5, .bool a6, .string a7]] w fun e w' => e = .returned (.agg #[.bool a0, .string a1, .bool a2, .string a3, .bool a4, .string a5, .bool a6, .string a7]) ∧ Below w.heap.size w w' :=
  SX.run (w := w) [.bool a0, .string a1, .bool a2, .string a3, .bool a4, .string a5, .bool a6, .string a7] [] [S1.ga 0 8] 8 (.one (S1.ga 0 8)) [] Tryz.func94 (by kernel_rfl) rfl (by kernel_rfl) rfl (by kernel_rfl) trivial
theorem plFc (a0 : Bool) (a1 : ByteArray) (a2 : Bool) (a3 : ByteArray) (a4 : Bool) (a5 : ByteArray) (a6 : Bool) (a7 : ByteArray) (w : World) :
    Calls Tryz.prog 127 #[.agg #[.bool a0, .string a1, .bool a2, .string a3, .bool a4, .string a5, .bool a6, .string a7]] w fun e w' => e = .returned (.agg #[.bool a0, .string a1, .bool a2, .string a3, .bool a4, .string a5, .bool a6, .string a7]) ∧ Below w.heap.size w w' :=
  SX.run (w := w) [.bool a0, .string a1, .bool a2, .string a3, .bool a4, .string a5, .bool a6, .string a7] [] [S1.ga 0 8] 8 (.one (S1.ga 0 8)) [] Tryz.func127 (by kernel_rfl) rfl (by kernel_rfl) rfl (by kernel_rfl) trivial
theorem plXy (a0 : Bool) (a1 : ByteArray) (a2 : Bool) (a3 : ByteArray) (a4 : Bool) (a5 : ByteArray) (a6 : Bool) (a7 : ByteArray) (w : World) :
    Calls Tryz.prog 95 #[.agg #[.bool a0, .string a1, .bool a2, .string a3, .bool a4, .string a5, .bool a6, .string a7]] w fun e w' => e = .returned (.agg #[.bool a0, .string a1, .bool a2, .string a3, .bool a4, .string a5, .bool a6, .string a7]) ∧ Below w.heap.size w w' :=
  SX.run (w := w) [.bool a0, .string a1, .bool a2, .string a3, .bool a4, .string a5, .bool a6, .string a7] [] [S1.ga 0 8] 8 (.one (S1.ga 0 8)) [] Tryz.func95 (by kernel_rfl) rfl (by kernel_rfl) rfl (by kernel_rfl) trivial
theorem plReduced_f {ux0 : Value} {x0 : Z4} {kx0 : Nat} (hx0 : IsF ux0 x0 kx0) (lx0 : kx0 ≤ 300000) (w : World) (hT : TabC w) (hf : flatF x0) :
    Calls Tryz.prog 100 #[ux0] w fun e w' => e = .returned (.tuple #[.agg #[.bool false, .string ⟨#[]⟩, .bool false, .string ⟨#[]⟩, .bool false, .string ⟨#[]⟩, .bool false, .string ⟨#[]⟩], .bool false]) ∧ Below w.heap.size w w' := by
  replace hx0 := hx0.up lx0
  have zx0 := hx0.sz
  obtain ⟨x00, x01, x02, x03, x04, x05, x06, x07, rfl, ex00, sx01, ex01, sx03, ex02, sx05, ex03, sx07⟩ := id hx0
  have wx00 : IsZ (.agg #[.bool x00, .string x01]) x0.a 300000 := ⟨x00, x01, rfl, ex00, sx01⟩
  have zx00 := wx00.sz
  have wx01 : IsZ (.agg #[.bool x02, .string x03]) x0.b 300000 := ⟨x02, x03, rfl, ex01, sx03⟩
  have zx01 := wx01.sz
  have wx02 : IsZ (.agg #[.bool x04, .string x05]) x0.c 300000 := ⟨x04, x05, rfl, ex02, sx05⟩
  have zx02 := wx02.sz
  have wx03 : IsZ (.agg #[.bool x06, .string x07]) x0.d 300000 := ⟨x06, x07, rfl, ex03, sx07⟩
  have zx03 := wx03.sz
  obtain ⟨H, hH⟩ : ∃ H : Int, H = ((g3 x0.a x0.b x0.c : Nat) : Int) := ⟨_, rfl⟩
  have zH : Zk H 300000 := by rw [hH]; exact g3_size zx0
  have hs3 : ∀ x ∈ [(x00, x01), (x02, x03), (x04, x05)], x.2.size ≤ 134217728 := by
    intro x hx
    simp only [List.mem_cons, List.not_mem_nil, or_false] at hx
    rcases hx with rfl | rfl | rfl <;> simp <;> omega
  have hs2 : ∀ x ∈ [(sg H, mg H), (x06, x07)], x.2.size ≤ 134217728 := by
    intro x hx
    have zz := zH
    simp only [List.mem_cons, List.not_mem_nil, or_false] at hx
    rcases hx with rfl | rfl <;> simp <;> omega
  have hg3 : ((gcdL [(x00, x01), (x02, x03), (x04, x05)] : Nat) : Int) = H := by
    rw [hH]
    show ((Nat.gcd (Nat.gcd (Nat.gcd 0 (nat x01)) (nat x03)) (nat x05) : Nat) : Int) = _
    rw [← gcd3_last, ← ex00, ← ex01, ← ex02, abs_iv, abs_iv, abs_iv]
  have hg2 : ((gcdL [(sg H, mg H), (x06, x07)] : Nat) : Int) = ((g4 x0.a x0.b x0.c x0.d : Nat) : Int) := by
    show ((Nat.gcd (Nat.gcd 0 (nat (mg H))) (nat x07) : Nat) : Int) = _
    rw [nat_mg, ← g3_g4, ← ex03, abs_iv, hH, Int.natAbs_natCast]
  have hz0 : H = 0 ↔ flatF x0 := by
    rw [hH]
    have := g3_zero (a := x0.a) (b := x0.b) (c := x0.c)
    unfold flatF
    omega
  have f1 : Zk H 300000 := Zk.up (zH) (by decide)
  exact SX.run (w := w) (List.flatten [[.bool x00, .string x01, .bool x02, .string x03, .bool x04, .string x05, .bool x06, .string x07], zc H, [.int .i64 (cmpZ H 0), .bool true]]) [.b true] [.ga 0 8] 8 (.tup [.agg [.p (.lit (.bool false)), .p (.lit (.string ⟨#[]⟩)), .p (.lit (.bool false)), .p (.lit (.string ⟨#[]⟩)), .p (.lit (.bool false)), .p (.lit (.string ⟨#[]⟩)), .p (.lit (.bool false)), .p (.lit (.string ⟨#[]⟩))], .c (.p (.lit (.bool false)))]) [.call 133 [.c (.p (.slc 2 0 3 3))] (.one (.ga 8 2)) [(2049, .pa 0), (2050, .pa 1), (2051, .pa 2), (2052, .pa 3), (2053, .pa 4), (2054, .pa 5)], .call 78 [.ga 8 2] (.one (.ca 10)) [], .op2 false .eql (.pa 10) (.p (.lit (.int .i64 0))) 11, .isB 11 true] Tryz.func100 (by kernel_rfl) rfl (by kernel_rfl) rfl (by kernel_rfl)
    ⟨fun γ w' bw hm => by have h := GcdZ_any (some ⟨γ 2, 0, none⟩) [(x00, x01), (x02, x03), (x04, x05)] 3 3 w' rfl (by simp) hs3 (rdp3 (hm 2049 _ rfl) (hm 2050 _ rfl) (hm 2051 _ rfl) (hm 2052 _ rfl) (hm 2053 _ rfl) (hm 2054 _ rfl)) (hT.later bw); rw [hg3] at h; exact h,
     fun γ w' _ _ => iSign (IsZ.can f1) (by decide) w',
     congrArg (fun z => some (Value.bool z)) (by rw [cmpZ_eq0]; exact decide_eq_true (hz0.2 hf) : ((cmpZ H 0) == (0 : Int)) = true),
     rfl⟩
theorem plReduced_n {ux0 : Value} {x0 : Z4} {kx0 : Nat} (hx0 : IsF ux0 x0 kx0) (lx0 : kx0 ≤ 300000) (w : World) (hT : TabC w) (hf : ¬ flatF x0) :
    Calls Tryz.prog 100 #[ux0] w fun e w' => e = .returned (.tuple #[FV ⟨divq x0.a ((g4 x0.a x0.b x0.c x0.d : Nat) : Int), divq x0.b ((g4 x0.a x0.b x0.c x0.d : Nat) : Int), divq x0.c ((g4 x0.a x0.b x0.c x0.d : Nat) : Int), divq x0.d ((g4 x0.a x0.b x0.c x0.d : Nat) : Int)⟩, .bool true]) ∧ Below w.heap.size w w' := by
  replace hx0 := hx0.up lx0
  have zx0 := hx0.sz
  obtain ⟨x00, x01, x02, x03, x04, x05, x06, x07, rfl, ex00, sx01, ex01, sx03, ex02, sx05, ex03, sx07⟩ := id hx0
  have wx00 : IsZ (.agg #[.bool x00, .string x01]) x0.a 300000 := ⟨x00, x01, rfl, ex00, sx01⟩
  have zx00 := wx00.sz
  have wx01 : IsZ (.agg #[.bool x02, .string x03]) x0.b 300000 := ⟨x02, x03, rfl, ex01, sx03⟩
  have zx01 := wx01.sz
  have wx02 : IsZ (.agg #[.bool x04, .string x05]) x0.c 300000 := ⟨x04, x05, rfl, ex02, sx05⟩
  have zx02 := wx02.sz
  have wx03 : IsZ (.agg #[.bool x06, .string x07]) x0.d 300000 := ⟨x06, x07, rfl, ex03, sx07⟩
  have zx03 := wx03.sz
  obtain ⟨H, hH⟩ : ∃ H : Int, H = ((g3 x0.a x0.b x0.c : Nat) : Int) := ⟨_, rfl⟩
  have zH : Zk H 300000 := by rw [hH]; exact g3_size zx0
  have hs3 : ∀ x ∈ [(x00, x01), (x02, x03), (x04, x05)], x.2.size ≤ 134217728 := by
    intro x hx
    simp only [List.mem_cons, List.not_mem_nil, or_false] at hx
    rcases hx with rfl | rfl | rfl <;> simp <;> omega
  have hs2 : ∀ x ∈ [(sg H, mg H), (x06, x07)], x.2.size ≤ 134217728 := by
    intro x hx
    have zz := zH
    simp only [List.mem_cons, List.not_mem_nil, or_false] at hx
    rcases hx with rfl | rfl <;> simp <;> omega
  have hg3 : ((gcdL [(x00, x01), (x02, x03), (x04, x05)] : Nat) : Int) = H := by
    rw [hH]
    show ((Nat.gcd (Nat.gcd (Nat.gcd 0 (nat x01)) (nat x03)) (nat x05) : Nat) : Int) = _
    rw [← gcd3_last, ← ex00, ← ex01, ← ex02, abs_iv, abs_iv, abs_iv]
  have hg2 : ((gcdL [(sg H, mg H), (x06, x07)] : Nat) : Int) = ((g4 x0.a x0.b x0.c x0.d : Nat) : Int) := by
    show ((Nat.gcd (Nat.gcd 0 (nat (mg H))) (nat x07) : Nat) : Int) = _
    rw [nat_mg, ← g3_g4, ← ex03, abs_iv, hH, Int.natAbs_natCast]
  have hz0 : H = 0 ↔ flatF x0 := by
    rw [hH]
    have := g3_zero (a := x0.a) (b := x0.b) (c := x0.c)
    unfold flatF
    omega
  have f1 : Zk H 300000 := Zk.up (zH) (by decide)
  have f2 : Zk ((g4 x0.a x0.b x0.c x0.d : Nat) : Int) 300000 := Zk.up ((g4_size zx0)) (by decide)
  have f3 : Zk (divq x0.a ((g4 x0.a x0.b x0.c x0.d : Nat) : Int)) 300001 := Zk.up (Is.divq zx00 f2) (by decide)
  have f4 : Zk (divr x0.a ((g4 x0.a x0.b x0.c x0.d : Nat) : Int)) 300001 := Zk.up (Is.divr zx00 f2) (by decide)
  have f5 : Zk (divq x0.b ((g4 x0.a x0.b x0.c x0.d : Nat) : Int)) 300001 := Zk.up (Is.divq zx01 f2) (by decide)
  have f6 : Zk (divr x0.b ((g4 x0.a x0.b x0.c x0.d : Nat) : Int)) 300001 := Zk.up (Is.divr zx01 f2) (by decide)
  have f7 : Zk (divq x0.c ((g4 x0.a x0.b x0.c x0.d : Nat) : Int)) 300001 := Zk.up (Is.divq zx02 f2) (by decide)
  have f8 : Zk (divr x0.c ((g4 x0.a x0.b x0.c x0.d : Nat) : Int)) 300001 := Zk.up (Is.divr zx02 f2) (by decide)
  have f9 : Zk (divq x0.d ((g4 x0.a x0.b x0.c x0.d : Nat) : Int)) 300001 := Zk.up (Is.divq zx03 f2) (by decide)
  have f10 : Zk (divr x0.d ((g4 x0.a x0.b x0.c x0.d : Nat) : Int)) 300001 := Zk.up (Is.divr zx03 f2) (by decide)
  exact SX.run (w := w) (List.flatten [[.bool x00, .string x01, .bool x02, .string x03, .bool x04, .string x05, .bool x06, .string x07], zc H, [.int .i64 (cmpZ H 0), .bool false], zc ((g4 x0.a x0.b x0.c x0.d : Nat) : Int), zc (divq x0.a ((g4 x0.a x0.b x0.c x0.d : Nat) : Int)), zc (divr x0.a ((g4 x0.a x0.b x0.c x0.d : Nat) : Int)), [.bool (decide (((g4 x0.a x0.b x0.c x0.d : Nat) : Int) ≠ 0))], zc (divq x0.b ((g4 x0.a x0.b x0.c x0.d : Nat) : Int)), zc (divr x0.b ((g4 x0.a x0.b x0.c x0.d : Nat) : Int)), [.bool (decide (((g4 x0.a x0.b x0.c x0.d : Nat) : Int) ≠ 0))], zc (divq x0.c ((g4 x0.a x0.b x0.c x0.d : Nat) : Int)), zc (divr x0.c ((g4 x0.a x0.b x0.c x0.d : Nat) : Int)), [.bool (decide (((g4 x0.a x0.b x0.c x0.d : Nat) : Int) ≠ 0))], zc (divq x0.d ((g4 x0.a x0.b x0.c x0.d : Nat) : Int)), zc (divr x0.d ((g4 x0.a x0.b x0.c x0.d : Nat) : Int)), [.bool (decide (((g4 x0.a x0.b x0.c x0.d : Nat) : Int) ≠ 0))], fc (Z4.mk (divq x0.a ((g4 x0.a x0.b x0.c x0.d : Nat) : Int)) (divq x0.b ((g4 x0.a x0.b x0.c x0.d : Nat) : Int)) (divq x0.c ((g4 x0.a x0.b x0.c x0.d : Nat) : Int)) (divq x0.d ((g4 x0.a x0.b x0.c x0.d : Nat) : Int)))]) [.b false] [.ga 0 8] 8 (.tup [.ga 34 8, .c (.p (.lit (.bool true)))]) [.call 133 [.c (.p (.slc 2 0 3 3))] (.one (.ga 8 2)) [(2049, .pa 0), (2050, .pa 1), (2051, .pa 2), (2052, .pa 3), (2053, .pa 4), (2054, .pa 5)], .call 78 [.ga 8 2] (.one (.ca 10)) [], .op2 false .eql (.pa 10) (.p (.lit (.int .i64 0))) 11, .isB 11 false, .call 133 [.c (.p (.slc 4 0 2 2))] (.one (.ga 12 2)) [(4097, .pa 8), (4098, .pa 9), (4099, .pa 6), (4100, .pa 7)], .call 113 [.ga 0 2, .ga 12 2] (.tup [.ga 14 2, .ga 16 2, .ca 18]) [], .call 113 [.ga 2 2, .ga 12 2] (.tup [.ga 19 2, .ga 21 2, .ca 23]) [], .call 113 [.ga 4 2, .ga 12 2] (.tup [.ga 24 2, .ga 26 2, .ca 28]) [], .call 113 [.ga 6 2, .ga 12 2] (.tup [.ga 29 2, .ga 31 2, .ca 33]) [], .call 127 [.agg [.pa 14, .pa 15, .pa 19, .pa 20, .pa 24, .pa 25, .pa 29, .pa 30]] (.one (.ga 34 8)) []] Tryz.func100 (by kernel_rfl) rfl (by kernel_rfl) rfl (by kernel_rfl)
    ⟨fun γ w' bw hm => by have h := GcdZ_any (some ⟨γ 2, 0, none⟩) [(x00, x01), (x02, x03), (x04, x05)] 3 3 w' rfl (by simp) hs3 (rdp3 (hm 2049 _ rfl) (hm 2050 _ rfl) (hm 2051 _ rfl) (hm 2052 _ rfl) (hm 2053 _ rfl) (hm 2054 _ rfl)) (hT.later bw); rw [hg3] at h; exact h,
     fun γ w' _ _ => iSign (IsZ.can f1) (by decide) w',
     congrArg (fun z => some (Value.bool z)) (by rw [cmpZ_eq0]; exact decide_eq_false (fun e => hf (hz0.1 e)) : ((cmpZ H 0) == (0 : Int)) = false),
     rfl,
     fun γ w' bw hm => by have h := GcdZ_any (some ⟨γ 4, 0, none⟩) [((sg H), (mg H)), (x06, x07)] 2 2 w' rfl (by simp) hs2 (rdp2 (hm 4097 _ rfl) (hm 4098 _ rfl) (hm 4099 _ rfl) (hm 4100 _ rfl)) (hT.later bw); rw [hg2] at h; exact h,
     fun γ w' _ _ => iDiv wx00 (by decide) (IsZ.can f2) (by decide) w',
     fun γ w' _ _ => iDiv wx01 (by decide) (IsZ.can f2) (by decide) w',
     fun γ w' _ _ => iDiv wx02 (by decide) (IsZ.can f2) (by decide) w',
     fun γ w' _ _ => iDiv wx03 (by decide) (IsZ.can f2) (by decide) w',
     fun γ w' _ _ => plFc (sg (divq x0.a ((g4 x0.a x0.b x0.c x0.d : Nat) : Int))) (mg (divq x0.a ((g4 x0.a x0.b x0.c x0.d : Nat) : Int))) (sg (divq x0.b ((g4 x0.a x0.b x0.c x0.d : Nat) : Int))) (mg (divq x0.b ((g4 x0.a x0.b x0.c x0.d : Nat) : Int))) (sg (divq x0.c ((g4 x0.a x0.b x0.c x0.d : Nat) : Int))) (mg (divq x0.c ((g4 x0.a x0.b x0.c x0.d : Nat) : Int))) (sg (divq x0.d ((g4 x0.a x0.b x0.c x0.d : Nat) : Int))) (mg (divq x0.d ((g4 x0.a x0.b x0.c x0.d : Nat) : Int))) w'⟩
theorem plReduced_any {ux0 : Value} {x0 : Z4} {kx0 : Nat} (hx0 : IsF ux0 x0 kx0) (lx0 : kx0 ≤ 300000) (w : World) (hT : TabC w) :
    Calls Tryz.prog 100 #[ux0] w fun e w' => e = .returned (normV x0) ∧ Below w.heap.size w w' := by
  unfold normV
  by_cases hf : flatF x0
  · rw [if_pos hf]; exact plReduced_f hx0 lx0 w hT hf
  · rw [if_neg hf, prim_divq (g4_flat hf)]; exact plReduced_n hx0 lx0 w hT hf
theorem plNormalize_n {ux0 : Value} {x0 : Z4} {kx0 : Nat} (hx0 : IsF ux0 x0 kx0) (lx0 : kx0 ≤ 300000) (w : World) (hT : TabC w) (hf : ¬ flatF x0) :
    Calls Tryz.prog 76 #[ux0] w fun e w' => e = .returned (.tuple #[FV (prim x0), .bool true]) ∧ Below w.heap.size w w' := by
  replace hx0 := hx0.up lx0
  have zx0 := hx0.sz
  obtain ⟨x00, x01, x02, x03, x04, x05, x06, x07, rfl, ex00, sx01, ex01, sx03, ex02, sx05, ex03, sx07⟩ := id hx0
  have wx00 : IsZ (.agg #[.bool x00, .string x01]) x0.a 300000 := ⟨x00, x01, rfl, ex00, sx01⟩
  have zx00 := wx00.sz
  have wx01 : IsZ (.agg #[.bool x02, .string x03]) x0.b 300000 := ⟨x02, x03, rfl, ex01, sx03⟩
  have zx01 := wx01.sz
  have wx02 : IsZ (.agg #[.bool x04, .string x05]) x0.c 300000 := ⟨x04, x05, rfl, ex02, sx05⟩
  have zx02 := wx02.sz
  have wx03 : IsZ (.agg #[.bool x06, .string x07]) x0.d 300000 := ⟨x06, x07, rfl, ex03, sx07⟩
  have zx03 := wx03.sz
  have f1 : Fk (prim x0) 300000 := Fk.up ((Fk.prim zx0)) (by decide)
  exact SX.run (w := w) (List.flatten [[.bool x00, .string x01, .bool x02, .string x03, .bool x04, .string x05, .bool x06, .string x07, .bool x00, .string x01, .bool x02, .string x03, .bool x04, .string x05, .bool x06, .string x07], fc (prim x0), [.bool true]]) [] [.ga 0 8] 8 (.tup [.ga 16 8, .ca 24]) [.call 94 [.ga 0 8] (.one (.ga 8 8)) [], .call 100 [.ga 8 8] (.tup [.ga 16 8, .ca 24]) []] Tryz.func76 (by kernel_rfl) rfl (by kernel_rfl) rfl (by kernel_rfl)
    ⟨fun γ w' _ _ => plCo x00 x01 x02 x03 x04 x05 x06 x07 w',
     fun γ w' bw _ => by have h := plReduced_any hx0 (by decide) w' (hT.later bw); rw [normV, if_neg hf] at h; exact h⟩
theorem plFrom_f {ux0 : Value} {x0 : P3} {kx0 : Nat} (hx0 : IsV ux0 x0 kx0) (lx0 : kx0 ≤ 10000) {ux1 : Value} {x1 : Rat} {kx1 : Nat} (hx1 : IsQ ux1 x1 kx1) (lx1 : kx1 ≤ 10000) (w : World) (hT : TabC w) (hf : flatQ (Q4.mk x0.x x0.y x0.z x1)) :
    Calls Tryz.prog 39 #[ux0, ux1] w fun e w' => e = .returned (.tuple #[.agg #[.bool false, .string ⟨#[]⟩, .bool false, .string ⟨#[]⟩, .bool false, .string ⟨#[]⟩, .bool false, .string ⟨#[]⟩], .bool false]) ∧ Below w.heap.size w w' := by
  replace hx0 := hx0.up lx0
  have zx0 := hx0.sz (by decide)
  obtain ⟨x00, x01, x02, x03, x04, x05, x06, x07, x08, rfl, ex00, sx01, sx02, ex01, sx04, sx05, ex02, sx07, sx08⟩ := id hx0
  have wx00 : IsQ (.agg #[.bool x00, .string x01, .string x02]) x0.x 10000 := ⟨x00, x01, x02, rfl, ex00, sx01, sx02⟩
  have zx00 := wx00.sz (by decide)
  have wx01 : IsQ (.agg #[.bool x03, .string x04, .string x05]) x0.y 10000 := ⟨x03, x04, x05, rfl, ex01, sx04, sx05⟩
  have zx01 := wx01.sz (by decide)
  have wx02 : IsQ (.agg #[.bool x06, .string x07, .string x08]) x0.z 10000 := ⟨x06, x07, x08, rfl, ex02, sx07, sx08⟩
  have zx02 := wx02.sz (by decide)
  replace hx1 := hx1.up lx1
  have zx1 := hx1.sz (by decide)
  obtain ⟨x10, x11, x12, rfl, ex10, sx11, sx12⟩ := id hx1
  have f1 : Pk x0 30000 := Pk.up ((Pk.ofV zx0)) (by decide)
  have f2 : Fk (can4 x0) 30000 := Fk.up (f1) (by decide)
  have f3 : Zk x1.num 10000 := Zk.up (zx1.1) (by decide)
  have f4 : Zk (x1.den : Int) 10000 := Zk.up (zx1.2) (by decide)
  have f5 : Zk (can4 x0).a 30000 := Zk.up (f2.1) (by decide)
  have f6 : Zk ((can4 x0).a * (x1.den : Int)) 40000 := Zk.up (mg_mul_size f5 f4) (by decide)
  have f7 : Zk (can4 x0).b 30000 := Zk.up (f2.2.1) (by decide)
  have f8 : Zk ((can4 x0).b * (x1.den : Int)) 40000 := Zk.up (mg_mul_size f7 f4) (by decide)
  have f9 : Zk (can4 x0).c 30000 := Zk.up (f2.2.2.1) (by decide)
  have f10 : Zk ((can4 x0).c * (x1.den : Int)) 40000 := Zk.up (mg_mul_size f9 f4) (by decide)
  have f11 : Zk (can4 x0).d 30000 := Zk.up (f2.2.2.2) (by decide)
  have f12 : Zk ((can4 x0).d * x1.num) 40000 := Zk.up (mg_mul_size f11 f3) (by decide)
  exact SX.run (w := w) (List.flatten [[.bool x00, .string x01, .string x02, .bool x03, .string x04, .string x05, .bool x06, .string x07, .string x08, .bool x10, .string x11, .string x12], pc x0, fc (can4 x0), zc x1.num, zc (x1.den : Int), zc ((can4 x0).a * (x1.den : Int)), zc ((can4 x0).b * (x1.den : Int)), zc ((can4 x0).c * (x1.den : Int)), zc ((can4 x0).d * x1.num), [.bool false, .string ⟨#[]⟩, .bool false, .string ⟨#[]⟩, .bool false, .string ⟨#[]⟩, .bool false, .string ⟨#[]⟩, .bool false]]) [] [.ga 0 9, .ga 9 3] 12 (.tup [.ga 40 8, .ca 48]) [.call 91 [.ga 0 9] (.one (.ga 12 8)) [], .call 95 [.ga 12 8] (.one (.ga 20 8)) [], .call 98 [.ga 9 3] (.tup [.ga 28 2, .ga 30 2]) [], .call 59 [.ga 20 2, .ga 30 2] (.one (.ga 32 2)) [], .call 59 [.ga 22 2, .ga 30 2] (.one (.ga 34 2)) [], .call 59 [.ga 24 2, .ga 30 2] (.one (.ga 36 2)) [], .call 59 [.ga 26 2, .ga 28 2] (.one (.ga 38 2)) [], .call 100 [.ga 32 8] (.tup [.ga 40 8, .ca 48]) []] Tryz.func39 (by kernel_rfl) rfl (by kernel_rfl) rfl (by kernel_rfl)
    ⟨fun γ w' bw _ => pFromCoords hx0 (by decide) w' (hT.later bw),
     fun γ w' _ _ => plXy (sg (can4 x0).a) (mg (can4 x0).a) (sg (can4 x0).b) (mg (can4 x0).b) (sg (can4 x0).c) (mg (can4 x0).c) (sg (can4 x0).d) (mg (can4 x0).d) w',
     fun γ w' bw _ => qParts hx1 (by decide) w' (hT.later bw),
     fun γ w' _ _ => iMul (IsZ.can f5) (by decide) (IsZ.can f4) (by decide) w',
     fun γ w' _ _ => iMul (IsZ.can f7) (by decide) (IsZ.can f4) (by decide) w',
     fun γ w' _ _ => iMul (IsZ.can f9) (by decide) (IsZ.can f4) (by decide) w',
     fun γ w' _ _ => iMul (IsZ.can f11) (by decide) (IsZ.can f3) (by decide) w',
     fun γ w' bw _ => by have h := plReduced_any (IsF.mk (IsZ.can f6) (IsZ.can f8) (IsZ.can f10) (IsZ.can f12)) (by decide) w' (hT.later bw); rw [norm_hom (from_pos x0 x1) (from_prog x0 x1), planeV, if_pos hf] at h; exact h⟩
theorem plFrom_n {ux0 : Value} {x0 : P3} {kx0 : Nat} (hx0 : IsV ux0 x0 kx0) (lx0 : kx0 ≤ 10000) {ux1 : Value} {x1 : Rat} {kx1 : Nat} (hx1 : IsQ ux1 x1 kx1) (lx1 : kx1 ≤ 10000) (w : World) (hT : TabC w) (hf : ¬ flatQ (Q4.mk x0.x x0.y x0.z x1)) :
    Calls Tryz.prog 39 #[ux0, ux1] w fun e w' => e = .returned (.tuple #[FV (canQ (Q4.mk x0.x x0.y x0.z x1)), .bool true]) ∧ Below w.heap.size w w' := by
  replace hx0 := hx0.up lx0
  have zx0 := hx0.sz (by decide)
  obtain ⟨x00, x01, x02, x03, x04, x05, x06, x07, x08, rfl, ex00, sx01, sx02, ex01, sx04, sx05, ex02, sx07, sx08⟩ := id hx0
  have wx00 : IsQ (.agg #[.bool x00, .string x01, .string x02]) x0.x 10000 := ⟨x00, x01, x02, rfl, ex00, sx01, sx02⟩
  have zx00 := wx00.sz (by decide)
  have wx01 : IsQ (.agg #[.bool x03, .string x04, .string x05]) x0.y 10000 := ⟨x03, x04, x05, rfl, ex01, sx04, sx05⟩
  have zx01 := wx01.sz (by decide)
  have wx02 : IsQ (.agg #[.bool x06, .string x07, .string x08]) x0.z 10000 := ⟨x06, x07, x08, rfl, ex02, sx07, sx08⟩
  have zx02 := wx02.sz (by decide)
  replace hx1 := hx1.up lx1
  have zx1 := hx1.sz (by decide)
  obtain ⟨x10, x11, x12, rfl, ex10, sx11, sx12⟩ := id hx1
  have f1 : Pk x0 30000 := Pk.up ((Pk.ofV zx0)) (by decide)
  have f2 : Fk (can4 x0) 30000 := Fk.up (f1) (by decide)
  have f3 : Zk x1.num 10000 := Zk.up (zx1.1) (by decide)
  have f4 : Zk (x1.den : Int) 10000 := Zk.up (zx1.2) (by decide)
  have f5 : Zk (can4 x0).a 30000 := Zk.up (f2.1) (by decide)
  have f6 : Zk ((can4 x0).a * (x1.den : Int)) 40000 := Zk.up (mg_mul_size f5 f4) (by decide)
  have f7 : Zk (can4 x0).b 30000 := Zk.up (f2.2.1) (by decide)
  have f8 : Zk ((can4 x0).b * (x1.den : Int)) 40000 := Zk.up (mg_mul_size f7 f4) (by decide)
  have f9 : Zk (can4 x0).c 30000 := Zk.up (f2.2.2.1) (by decide)
  have f10 : Zk ((can4 x0).c * (x1.den : Int)) 40000 := Zk.up (mg_mul_size f9 f4) (by decide)
  have f11 : Zk (can4 x0).d 30000 := Zk.up (f2.2.2.2) (by decide)
  have f12 : Zk ((can4 x0).d * x1.num) 40000 := Zk.up (mg_mul_size f11 f3) (by decide)
  exact SX.run (w := w) (List.flatten [[.bool x00, .string x01, .string x02, .bool x03, .string x04, .string x05, .bool x06, .string x07, .string x08, .bool x10, .string x11, .string x12], pc x0, fc (can4 x0), zc x1.num, zc (x1.den : Int), zc ((can4 x0).a * (x1.den : Int)), zc ((can4 x0).b * (x1.den : Int)), zc ((can4 x0).c * (x1.den : Int)), zc ((can4 x0).d * x1.num), fc (canQ (Q4.mk x0.x x0.y x0.z x1)), [.bool true]]) [] [.ga 0 9, .ga 9 3] 12 (.tup [.ga 40 8, .ca 48]) [.call 91 [.ga 0 9] (.one (.ga 12 8)) [], .call 95 [.ga 12 8] (.one (.ga 20 8)) [], .call 98 [.ga 9 3] (.tup [.ga 28 2, .ga 30 2]) [], .call 59 [.ga 20 2, .ga 30 2] (.one (.ga 32 2)) [], .call 59 [.ga 22 2, .ga 30 2] (.one (.ga 34 2)) [], .call 59 [.ga 24 2, .ga 30 2] (.one (.ga 36 2)) [], .call 59 [.ga 26 2, .ga 28 2] (.one (.ga 38 2)) [], .call 100 [.ga 32 8] (.tup [.ga 40 8, .ca 48]) []] Tryz.func39 (by kernel_rfl) rfl (by kernel_rfl) rfl (by kernel_rfl)
    ⟨fun γ w' bw _ => pFromCoords hx0 (by decide) w' (hT.later bw),
     fun γ w' _ _ => plXy (sg (can4 x0).a) (mg (can4 x0).a) (sg (can4 x0).b) (mg (can4 x0).b) (sg (can4 x0).c) (mg (can4 x0).c) (sg (can4 x0).d) (mg (can4 x0).d) w',
     fun γ w' bw _ => qParts hx1 (by decide) w' (hT.later bw),
     fun γ w' _ _ => iMul (IsZ.can f5) (by decide) (IsZ.can f4) (by decide) w',
     fun γ w' _ _ => iMul (IsZ.can f7) (by decide) (IsZ.can f4) (by decide) w',
     fun γ w' _ _ => iMul (IsZ.can f9) (by decide) (IsZ.can f4) (by decide) w',
     fun γ w' _ _ => iMul (IsZ.can f11) (by decide) (IsZ.can f3) (by decide) w',
     fun γ w' bw _ => by have h := plReduced_any (IsF.mk (IsZ.can f6) (IsZ.can f8) (IsZ.can f10) (IsZ.can f12)) (by decide) w' (hT.later bw); rw [norm_hom (from_pos x0 x1) (from_prog x0 x1), planeV, if_neg hf] at h; exact h⟩
theorem plFrom_any {ux0 : Value} {x0 : P3} {kx0 : Nat} (hx0 : IsV ux0 x0 kx0) (lx0 : kx0 ≤ 10000) {ux1 : Value} {x1 : Rat} {kx1 : Nat} (hx1 : IsQ ux1 x1 kx1) (lx1 : kx1 ≤ 10000) (w : World) (hT : TabC w) :
    Calls Tryz.prog 39 #[ux0, ux1] w fun e w' => e = .returned (planeV (Q4.mk x0.x x0.y x0.z x1)) ∧ Below w.heap.size w w' := by
  unfold planeV
  by_cases hf : flatQ (Q4.mk x0.x x0.y x0.z x1)
  · rw [if_pos hf]; exact plFrom_f hx0 lx0 hx1 lx1 w hT hf
  · rw [if_neg hf]; exact plFrom_n hx0 lx0 hx1 lx1 w hT hf
theorem plDot {x0 : Z4} {kx0 : Nat} (zx0 : Fk x0 kx0) (lx0 : kx0 ≤ 60000) {x1 : Z4} {kx1 : Nat} (zx1 : Fk x1 kx1) (lx1 : kx1 ≤ 60000) (w : World) :
    Calls Tryz.prog 132 #[FV x0, FV x1] w fun e w' => e = .returned (Z (dotF x0 x1)) ∧ Below w.heap.size w w' := by
  replace zx0 := zx0.up lx0
  replace zx1 := zx1.up lx1
  have f1 : Zk x0.a 60000 := Zk.up (zx0.1) (by decide)
  have f2 : Zk x1.a 60000 := Zk.up (zx1.1) (by decide)
  have f3 : Zk (x0.a * x1.a) 120000 := Zk.up (mg_mul_size f1 f2) (by decide)
  have f4 : Zk ((0 : Int) + (x0.a * x1.a)) 120001 := Zk.up (Is.add Zk.zero f3) (by decide)
  have f5 : Zk x0.b 60000 := Zk.up (zx0.2.1) (by decide)
  have f6 : Zk x1.b 60000 := Zk.up (zx1.2.1) (by decide)
  have f7 : Zk (x0.b * x1.b) 120000 := Zk.up (mg_mul_size f5 f6) (by decide)
  have f8 : Zk (((0 : Int) + (x0.a * x1.a)) + (x0.b * x1.b)) 120002 := Zk.up (Is.add f4 f7) (by decide)
  have f9 : Zk x0.c 60000 := Zk.up (zx0.2.2.1) (by decide)
  have f10 : Zk x1.c 60000 := Zk.up (zx1.2.2.1) (by decide)
  have f11 : Zk (x0.c * x1.c) 120000 := Zk.up (mg_mul_size f9 f10) (by decide)
  have f12 : Zk ((((0 : Int) + (x0.a * x1.a)) + (x0.b * x1.b)) + (x0.c * x1.c)) 120003 := Zk.up (Is.add f8 f11) (by decide)
  exact SX.run (w := w) (List.flatten [fc x0, fc x1, zc (x0.a * x1.a), zc ((0 : Int) + (x0.a * x1.a)), zc (x0.b * x1.b), zc (((0 : Int) + (x0.a * x1.a)) + (x0.b * x1.b)), zc (x0.c * x1.c), zc ((((0 : Int) + (x0.a * x1.a)) + (x0.b * x1.b)) + (x0.c * x1.c))]) [] [.ga 0 8, .ga 8 8] 16 (.one (.ga 26 2)) [.call 59 [.ga 0 2, .ga 8 2] (.one (.ga 16 2)) [], .call 87 [.agg [.p (.lit (.bool false)), .p (.lit (.string ⟨#[]⟩))], .ga 16 2] (.one (.ga 18 2)) [], .call 59 [.ga 2 2, .ga 10 2] (.one (.ga 20 2)) [], .call 87 [.ga 18 2, .ga 20 2] (.one (.ga 22 2)) [], .call 59 [.ga 4 2, .ga 12 2] (.one (.ga 24 2)) [], .call 87 [.ga 22 2, .ga 24 2] (.one (.ga 26 2)) []] Tryz.func132 (by kernel_rfl) rfl (by kernel_rfl) rfl (by kernel_rfl)
    ⟨fun γ w' _ _ => iMul (IsZ.can f1) (by decide) (IsZ.can f2) (by decide) w',
     fun γ w' _ _ => iAdd IsZ.zero (by decide) (IsZ.can f3) (by decide) w',
     fun γ w' _ _ => iMul (IsZ.can f5) (by decide) (IsZ.can f6) (by decide) w',
     fun γ w' _ _ => iAdd (IsZ.can f4) (by decide) (IsZ.can f7) (by decide) w',
     fun γ w' _ _ => iMul (IsZ.can f9) (by decide) (IsZ.can f10) (by decide) w',
     fun γ w' _ _ => iAdd (IsZ.can f8) (by decide) (IsZ.can f11) (by decide) w'⟩
theorem plExcess {x0 : Z4} {kx0 : Nat} (zx0 : Fk x0 kx0) (lx0 : kx0 ≤ 20000) {x1 : Z4} {kx1 : Nat} (zx1 : Fk x1 kx1) (lx1 : kx1 ≤ 20000) (w : World) :
    Calls Tryz.prog 93 #[FV x0, FV x1] w fun e w' => e = .returned (Z (dotF x0 x1 - x0.d * x1.d)) ∧ Below w.heap.size w w' := by
  replace zx0 := zx0.up lx0
  replace zx1 := zx1.up lx1
  have f1 : Zk (dotF x0 x1) 40003 := Zk.up ((Zk.dotF zx0 zx1)) (by decide)
  have f2 : Zk x0.d 20000 := Zk.up (zx0.2.2.2) (by decide)
  have f3 : Zk x1.d 20000 := Zk.up (zx1.2.2.2) (by decide)
  have f4 : Zk (x0.d * x1.d) 40000 := Zk.up (mg_mul_size f2 f3) (by decide)
  have f5 : Zk ((dotF x0 x1) - (x0.d * x1.d)) 40004 := Zk.up (Is.sub f1 f4) (by decide)
  exact SX.run (w := w) (List.flatten [fc x0, fc x1, zc (dotF x0 x1), zc (x0.d * x1.d), zc ((dotF x0 x1) - (x0.d * x1.d))]) [] [.ga 0 8, .ga 8 8] 16 (.one (.ga 20 2)) [.call 132 [.ga 0 8, .ga 8 8] (.one (.ga 16 2)) [], .call 59 [.ga 6 2, .ga 14 2] (.one (.ga 18 2)) [], .call 85 [.ga 16 2, .ga 18 2] (.one (.ga 20 2)) []] Tryz.func93 (by kernel_rfl) rfl (by kernel_rfl) rfl (by kernel_rfl)
    ⟨fun γ w' _ _ => plDot zx0 (by decide) zx1 (by decide) w',
     fun γ w' _ _ => iMul (IsZ.can f2) (by decide) (IsZ.can f3) (by decide) w',
     fun γ w' _ _ => iSub (IsZ.can f1) (by decide) (IsZ.can f4) (by decide) w'⟩
theorem plSide_raw {x0 : Z4} {kx0 : Nat} (zx0 : Fk x0 kx0) (lx0 : kx0 ≤ 10000) {x1 : P3} {kx1 : Nat} (zx1 : Pk x1 kx1) (lx1 : kx1 ≤ 10000) (w : World) :
    Calls Tryz.prog 35 #[FV x0, PV x1] w fun e w' => e = .returned (.int .i64 (cmpZ (dotF x0 (can4 x1) - x0.d * (can4 x1).d) 0)) ∧ Below w.heap.size w w' := by
  replace zx0 := zx0.up lx0
  replace zx1 := zx1.up lx1
  have f1 : Fk (can4 x1) 10000 := Fk.up (zx1) (by decide)
  have f2 : Zk (dotF x0 (can4 x1) - x0.d * (can4 x1).d) 20004 := Zk.up ((Zk.excess zx0 f1)) (by decide)
  exact SX.run (w := w) (List.flatten [fc x0, pc x1, fc x0, fc (can4 x1), zc (dotF x0 (can4 x1) - x0.d * (can4 x1).d), [.int .i64 (cmpZ (dotF x0 (can4 x1) - x0.d * (can4 x1).d) 0)]]) [] [.ga 0 8, .ga 8 8] 16 (.one (.ca 34)) [.call 94 [.ga 0 8] (.one (.ga 16 8)) [], .call 95 [.ga 8 8] (.one (.ga 24 8)) [], .call 93 [.ga 16 8, .ga 24 8] (.one (.ga 32 2)) [], .call 78 [.ga 32 2] (.one (.ca 34)) []] Tryz.func35 (by kernel_rfl) rfl (by kernel_rfl) rfl (by kernel_rfl)
    ⟨fun γ w' _ _ => plCo (sg x0.a) (mg x0.a) (sg x0.b) (mg x0.b) (sg x0.c) (mg x0.c) (sg x0.d) (mg x0.d) w',
     fun γ w' _ _ => plXy (sg (can4 x1).a) (mg (can4 x1).a) (sg (can4 x1).b) (mg (can4 x1).b) (sg (can4 x1).c) (mg (can4 x1).c) (sg (can4 x1).d) (mg (can4 x1).d) w',
     fun γ w' _ _ => plExcess zx0 (by decide) f1 (by decide) w',
     fun γ w' _ _ => iSign (IsZ.can f2) (by decide) w'⟩
theorem plSide {x0 : Z4} {kx0 : Nat} (zx0 : Fk x0 kx0) (lx0 : kx0 ≤ 10000) {x1 : P3} {kx1 : Nat} (zx1 : Pk x1 kx1) (lx1 : kx1 ≤ 10000) (w : World) :
    Calls Tryz.prog 35 #[FV x0, PV x1] w fun e w' => e = .returned (.int .i64 (sideF x0 x1)) ∧ Below w.heap.size w w' := by
  have h := plSide_raw zx0 lx0 zx1 lx1 w
  rw [side_prog] at h
  exact h
end Go.Proofs.YtodcomijjmobdaaGreatDoor
