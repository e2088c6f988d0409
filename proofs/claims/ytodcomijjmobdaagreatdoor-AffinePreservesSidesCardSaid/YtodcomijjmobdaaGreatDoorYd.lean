/- Package affine. -/
import Derived.Test.YtodcomijjmobdaaGreatDoorYf
import Derived.Test.YtodcomijjmobdaaGreatDoorPd
import Derived.Test.YtodcomijjmobdaaGreatDoorVd
set_option linter.unusedVariables false
set_option linter.unusedSimpArgs false
namespace Go.Proofs.YtodcomijjmobdaaGreatDoor
open Go.RowKit NM SX
theorem afXy (a0 : Bool) (a1 : ByteArray) (a2 : Bool) (a3 : ByteArray) (a4 : Bool) (a5 : ByteArray) (a6 : Bool) (a7 : ByteArray) (w : World) :
    Calls Tryz.prog 55 #[.agg #[.bool a0, .string a1, .bool a2, .string a3, .bool a4, .string a5, .bool a6, .string a7]] w fun e w' => e = .returned (.agg #[.bool a0, .string a1, .bool a2, .string a3, .bool a4, .string a5, .bool a6, .string a7]) ∧ Below w.heap.size w w' :=
  SX.run (w := w) [.bool a0, .string a1, .bool a2, .string a3, .bool a4, .string a5, .bool a6, .string a7] [] [S1.ga 0 8] 8 (.one (S1.ga 0 8)) [] Tryz.func55 (by kernel_rfl) rfl (by kernel_rfl) rfl (by kernel_rfl) trivial
theorem Fk.eq4 {q : Z4} {k : Nat} (g : Fk q k) : Fk (eq4 q) k := ⟨g.1, g.2.1, g.2.2.1, mg_neg_size g.2.2.2⟩
theorem afEq {q : Z4} {k : Nat} (z : Fk q k) (lk : k ≤ 100000) (w : World) :
    Calls Tryz.prog 73 #[FV q] w fun e w' => e = .returned (FV (eq4 q)) ∧ Below w.heap.size w w' := by
  have H := SX.run (w := w) (fc q ++ zc (-q.d)) [] [S1.ga 0 8] 8 (.one (.agg [.pa 0, .pa 1, .pa 2, .pa 3, .pa 4, .pa 5, .pa 8, .pa 9])) [.call 77 [.ga 6 2] (.one (.ga 8 2)) []] Tryz.func73 (by kernel_rfl) rfl (by kernel_rfl) rfl (by kernel_rfl)
    (SX.All.one (fun γ w' _ _ => by have h := iNeg (IsZ.can z.2.2.2) (by omega) w'; exact h))
  exact H
theorem gcd2_len {x y : Int} {j k : Nat} (hx : Zk x j) (hy : Zk y k) (lj : j ≤ 134217728) (lk : k ≤ 134217728) : ∀ z ∈ [(sg x, mg x), (sg y, mg y)], z.2.size ≤ 134217728 := by
  intro z hz
  simp only [List.mem_cons, List.not_mem_nil, or_false] at hz
  rcases hz with rfl | rfl
  · exact Nat.le_trans hx lj
  · exact Nat.le_trans hy lk
theorem gcd2_list {a c : Nat} : ((gcdL [(sg (a : Int), mg (a : Int)), (sg (c : Int), mg (c : Int))] : Nat) : Int) = ((Nat.gcd a c : Nat) : Int) := by
  show ((Nat.gcd (Nat.gcd 0 (nat (mg (a : Int)))) (nat (mg (c : Int))) : Nat) : Int) = _
  rw [nat_mg, nat_mg, Nat.gcd_zero_left]
  rfl
theorem gcd_size {a c k : Nat} (ha : 0 < a) (h : Zk (a : Int) k) : Zk ((Nat.gcd a c : Nat) : Int) k := Zk.abs_le (by rw [Int.natAbs_natCast, Int.natAbs_natCast]; exact Nat.gcd_le_left c ha) h
set_option maxHeartbeats 1000000 in
set_option maxRecDepth 100000 in
theorem afCommon {ux0 : Value} {x0 : M3} {kx0 : Nat} (hx0 : IsM ux0 x0 kx0) (lx0 : kx0 ≤ 1000) (w : World) (hT : TabC w) :
    Calls Tryz.prog 111 #[ux0] w fun e w' => e = .returned (Z ((cdM x0 12 : Nat) : Int)) ∧ Below w.heap.size w w' := by
  replace hx0 := hx0.up lx0
  have zx0 := hx0.sz (by decide)
  obtain ⟨x0b, x0s, rfl, wx00, wx01, wx02, wx03, wx04, wx05, wx06, wx07, wx08, wx09, wx010, wx011⟩ := id hx0
  have f1 : Zk ((cdM x0 0 : Nat) : Int) 1 := Zk.up ((cd_size zx0 0 (by decide))) (by decide)
  have f2 : Zk x0.x.a.num 1000 := Zk.up (zx0.1.1.1) (by decide)
  have f3 : Zk (x0.x.a.den : Int) 1000 := Zk.up (zx0.1.1.2) (by decide)
  have f4 : Zk ((Nat.gcd x0.x.a.den (cdM x0 0) : Nat) : Int) 1000 := Zk.up ((gcd_size x0.x.a.den_pos f3)) (by decide)
  have f5 : Zk (divq (x0.x.a.den : Int) ((Nat.gcd x0.x.a.den (cdM x0 0) : Nat) : Int)) 1001 := Zk.up (Is.divq f3 f4) (by decide)
  have f6 : Zk (divr (x0.x.a.den : Int) ((Nat.gcd x0.x.a.den (cdM x0 0) : Nat) : Int)) 1001 := Zk.up (Is.divr f3 f4) (by decide)
  have f7 : Zk ((cdM x0 1 : Nat) : Int) 1001 := Zk.up ((cd_size zx0 1 (by decide))) (by decide)
  have f8 : Zk x0.x.b.num 1000 := Zk.up (zx0.1.2.1.1) (by decide)
  have f9 : Zk (x0.x.b.den : Int) 1000 := Zk.up (zx0.1.2.1.2) (by decide)
  have f10 : Zk ((Nat.gcd x0.x.b.den (cdM x0 1) : Nat) : Int) 1000 := Zk.up ((gcd_size x0.x.b.den_pos f9)) (by decide)
  have f11 : Zk (divq (x0.x.b.den : Int) ((Nat.gcd x0.x.b.den (cdM x0 1) : Nat) : Int)) 1001 := Zk.up (Is.divq f9 f10) (by decide)
  have f12 : Zk (divr (x0.x.b.den : Int) ((Nat.gcd x0.x.b.den (cdM x0 1) : Nat) : Int)) 1001 := Zk.up (Is.divr f9 f10) (by decide)
  have f13 : Zk ((cdM x0 2 : Nat) : Int) 2001 := Zk.up ((cd_size zx0 2 (by decide))) (by decide)
  have f14 : Zk x0.x.c.num 1000 := Zk.up (zx0.1.2.2.1.1) (by decide)
  have f15 : Zk (x0.x.c.den : Int) 1000 := Zk.up (zx0.1.2.2.1.2) (by decide)
  have f16 : Zk ((Nat.gcd x0.x.c.den (cdM x0 2) : Nat) : Int) 1000 := Zk.up ((gcd_size x0.x.c.den_pos f15)) (by decide)
  have f17 : Zk (divq (x0.x.c.den : Int) ((Nat.gcd x0.x.c.den (cdM x0 2) : Nat) : Int)) 1001 := Zk.up (Is.divq f15 f16) (by decide)
  have f18 : Zk (divr (x0.x.c.den : Int) ((Nat.gcd x0.x.c.den (cdM x0 2) : Nat) : Int)) 1001 := Zk.up (Is.divr f15 f16) (by decide)
  have f19 : Zk ((cdM x0 3 : Nat) : Int) 3001 := Zk.up ((cd_size zx0 3 (by decide))) (by decide)
  have f20 : Zk x0.x.d.num 1000 := Zk.up (zx0.1.2.2.2.1) (by decide)
  have f21 : Zk (x0.x.d.den : Int) 1000 := Zk.up (zx0.1.2.2.2.2) (by decide)
  have f22 : Zk ((Nat.gcd x0.x.d.den (cdM x0 3) : Nat) : Int) 1000 := Zk.up ((gcd_size x0.x.d.den_pos f21)) (by decide)
  have f23 : Zk (divq (x0.x.d.den : Int) ((Nat.gcd x0.x.d.den (cdM x0 3) : Nat) : Int)) 1001 := Zk.up (Is.divq f21 f22) (by decide)
  have f24 : Zk (divr (x0.x.d.den : Int) ((Nat.gcd x0.x.d.den (cdM x0 3) : Nat) : Int)) 1001 := Zk.up (Is.divr f21 f22) (by decide)
  have f25 : Zk ((cdM x0 4 : Nat) : Int) 4001 := Zk.up ((cd_size zx0 4 (by decide))) (by decide)
  have f26 : Zk x0.y.a.num 1000 := Zk.up (zx0.2.1.1.1) (by decide)
  have f27 : Zk (x0.y.a.den : Int) 1000 := Zk.up (zx0.2.1.1.2) (by decide)
  have f28 : Zk ((Nat.gcd x0.y.a.den (cdM x0 4) : Nat) : Int) 1000 := Zk.up ((gcd_size x0.y.a.den_pos f27)) (by decide)
  have f29 : Zk (divq (x0.y.a.den : Int) ((Nat.gcd x0.y.a.den (cdM x0 4) : Nat) : Int)) 1001 := Zk.up (Is.divq f27 f28) (by decide)
  have f30 : Zk (divr (x0.y.a.den : Int) ((Nat.gcd x0.y.a.den (cdM x0 4) : Nat) : Int)) 1001 := Zk.up (Is.divr f27 f28) (by decide)
  have f31 : Zk ((cdM x0 5 : Nat) : Int) 5001 := Zk.up ((cd_size zx0 5 (by decide))) (by decide)
  have f32 : Zk x0.y.b.num 1000 := Zk.up (zx0.2.1.2.1.1) (by decide)
  have f33 : Zk (x0.y.b.den : Int) 1000 := Zk.up (zx0.2.1.2.1.2) (by decide)
  have f34 : Zk ((Nat.gcd x0.y.b.den (cdM x0 5) : Nat) : Int) 1000 := Zk.up ((gcd_size x0.y.b.den_pos f33)) (by decide)
  have f35 : Zk (divq (x0.y.b.den : Int) ((Nat.gcd x0.y.b.den (cdM x0 5) : Nat) : Int)) 1001 := Zk.up (Is.divq f33 f34) (by decide)
  have f36 : Zk (divr (x0.y.b.den : Int) ((Nat.gcd x0.y.b.den (cdM x0 5) : Nat) : Int)) 1001 := Zk.up (Is.divr f33 f34) (by decide)
  have f37 : Zk ((cdM x0 6 : Nat) : Int) 6001 := Zk.up ((cd_size zx0 6 (by decide))) (by decide)
  have f38 : Zk x0.y.c.num 1000 := Zk.up (zx0.2.1.2.2.1.1) (by decide)
  have f39 : Zk (x0.y.c.den : Int) 1000 := Zk.up (zx0.2.1.2.2.1.2) (by decide)
  have f40 : Zk ((Nat.gcd x0.y.c.den (cdM x0 6) : Nat) : Int) 1000 := Zk.up ((gcd_size x0.y.c.den_pos f39)) (by decide)
  have f41 : Zk (divq (x0.y.c.den : Int) ((Nat.gcd x0.y.c.den (cdM x0 6) : Nat) : Int)) 1001 := Zk.up (Is.divq f39 f40) (by decide)
  have f42 : Zk (divr (x0.y.c.den : Int) ((Nat.gcd x0.y.c.den (cdM x0 6) : Nat) : Int)) 1001 := Zk.up (Is.divr f39 f40) (by decide)
  have f43 : Zk ((cdM x0 7 : Nat) : Int) 7001 := Zk.up ((cd_size zx0 7 (by decide))) (by decide)
  have f44 : Zk x0.y.d.num 1000 := Zk.up (zx0.2.1.2.2.2.1) (by decide)
  have f45 : Zk (x0.y.d.den : Int) 1000 := Zk.up (zx0.2.1.2.2.2.2) (by decide)
  have f46 : Zk ((Nat.gcd x0.y.d.den (cdM x0 7) : Nat) : Int) 1000 := Zk.up ((gcd_size x0.y.d.den_pos f45)) (by decide)
  have f47 : Zk (divq (x0.y.d.den : Int) ((Nat.gcd x0.y.d.den (cdM x0 7) : Nat) : Int)) 1001 := Zk.up (Is.divq f45 f46) (by decide)
  have f48 : Zk (divr (x0.y.d.den : Int) ((Nat.gcd x0.y.d.den (cdM x0 7) : Nat) : Int)) 1001 := Zk.up (Is.divr f45 f46) (by decide)
  have f49 : Zk ((cdM x0 8 : Nat) : Int) 8001 := Zk.up ((cd_size zx0 8 (by decide))) (by decide)
  have f50 : Zk x0.z.a.num 1000 := Zk.up (zx0.2.2.1.1) (by decide)
  have f51 : Zk (x0.z.a.den : Int) 1000 := Zk.up (zx0.2.2.1.2) (by decide)
  have f52 : Zk ((Nat.gcd x0.z.a.den (cdM x0 8) : Nat) : Int) 1000 := Zk.up ((gcd_size x0.z.a.den_pos f51)) (by decide)
  have f53 : Zk (divq (x0.z.a.den : Int) ((Nat.gcd x0.z.a.den (cdM x0 8) : Nat) : Int)) 1001 := Zk.up (Is.divq f51 f52) (by decide)
  have f54 : Zk (divr (x0.z.a.den : Int) ((Nat.gcd x0.z.a.den (cdM x0 8) : Nat) : Int)) 1001 := Zk.up (Is.divr f51 f52) (by decide)
  have f55 : Zk ((cdM x0 9 : Nat) : Int) 9001 := Zk.up ((cd_size zx0 9 (by decide))) (by decide)
  have f56 : Zk x0.z.b.num 1000 := Zk.up (zx0.2.2.2.1.1) (by decide)
  have f57 : Zk (x0.z.b.den : Int) 1000 := Zk.up (zx0.2.2.2.1.2) (by decide)
  have f58 : Zk ((Nat.gcd x0.z.b.den (cdM x0 9) : Nat) : Int) 1000 := Zk.up ((gcd_size x0.z.b.den_pos f57)) (by decide)
  have f59 : Zk (divq (x0.z.b.den : Int) ((Nat.gcd x0.z.b.den (cdM x0 9) : Nat) : Int)) 1001 := Zk.up (Is.divq f57 f58) (by decide)
  have f60 : Zk (divr (x0.z.b.den : Int) ((Nat.gcd x0.z.b.den (cdM x0 9) : Nat) : Int)) 1001 := Zk.up (Is.divr f57 f58) (by decide)
  have f61 : Zk ((cdM x0 10 : Nat) : Int) 10001 := Zk.up ((cd_size zx0 10 (by decide))) (by decide)
  have f62 : Zk x0.z.c.num 1000 := Zk.up (zx0.2.2.2.2.1.1) (by decide)
  have f63 : Zk (x0.z.c.den : Int) 1000 := Zk.up (zx0.2.2.2.2.1.2) (by decide)
  have f64 : Zk ((Nat.gcd x0.z.c.den (cdM x0 10) : Nat) : Int) 1000 := Zk.up ((gcd_size x0.z.c.den_pos f63)) (by decide)
  have f65 : Zk (divq (x0.z.c.den : Int) ((Nat.gcd x0.z.c.den (cdM x0 10) : Nat) : Int)) 1001 := Zk.up (Is.divq f63 f64) (by decide)
  have f66 : Zk (divr (x0.z.c.den : Int) ((Nat.gcd x0.z.c.den (cdM x0 10) : Nat) : Int)) 1001 := Zk.up (Is.divr f63 f64) (by decide)
  have f67 : Zk ((cdM x0 11 : Nat) : Int) 11001 := Zk.up ((cd_size zx0 11 (by decide))) (by decide)
  have f68 : Zk x0.z.d.num 1000 := Zk.up (zx0.2.2.2.2.2.1) (by decide)
  have f69 : Zk (x0.z.d.den : Int) 1000 := Zk.up (zx0.2.2.2.2.2.2) (by decide)
  have f70 : Zk ((Nat.gcd x0.z.d.den (cdM x0 11) : Nat) : Int) 1000 := Zk.up ((gcd_size x0.z.d.den_pos f69)) (by decide)
  have f71 : Zk (divq (x0.z.d.den : Int) ((Nat.gcd x0.z.d.den (cdM x0 11) : Nat) : Int)) 1001 := Zk.up (Is.divq f69 f70) (by decide)
  have f72 : Zk (divr (x0.z.d.den : Int) ((Nat.gcd x0.z.d.den (cdM x0 11) : Nat) : Int)) 1001 := Zk.up (Is.divr f69 f70) (by decide)
  have f73 : Zk ((cdM x0 12 : Nat) : Int) 12001 := Zk.up ((cd_size zx0 12 (by decide))) (by decide)
  have H := SX.run (w := w) (List.flatten [(.bool (x0b 0) :: .string (x0s 0) :: .string (x0s 1) :: .bool (x0b 1) :: .string (x0s 2) :: .string (x0s 3) :: .bool (x0b 2) :: .string (x0s 4) :: .string (x0s 5) :: .bool (x0b 3) :: .string (x0s 6) :: .string (x0s 7) :: .bool (x0b 4) :: .string (x0s 8) :: .string (x0s 9) :: .bool (x0b 5) :: .string (x0s 10) :: .string (x0s 11) :: .bool (x0b 6) :: .string (x0s 12) :: .string (x0s 13) :: .bool (x0b 7) :: .string (x0s 14) :: .string (x0s 15) :: .bool (x0b 8) :: .string (x0s 16) :: .string (x0s 17) :: .bool (x0b 9) :: .string (x0s 18) :: .string (x0s 19) :: .bool (x0b 10) :: .string (x0s 20) :: .string (x0s 21) :: .bool (x0b 11) :: .string (x0s 22) :: .string (x0s 23) :: []), zc ((cdM x0 0 : Nat) : Int), zc x0.x.a.num, zc (x0.x.a.den : Int), zc ((Nat.gcd x0.x.a.den (cdM x0 0) : Nat) : Int), zc (divq (x0.x.a.den : Int) ((Nat.gcd x0.x.a.den (cdM x0 0) : Nat) : Int)), zc (divr (x0.x.a.den : Int) ((Nat.gcd x0.x.a.den (cdM x0 0) : Nat) : Int)), [.bool (decide (((Nat.gcd x0.x.a.den (cdM x0 0) : Nat) : Int) ≠ 0))], zc ((cdM x0 1 : Nat) : Int), zc x0.x.b.num, zc (x0.x.b.den : Int), zc ((Nat.gcd x0.x.b.den (cdM x0 1) : Nat) : Int), zc (divq (x0.x.b.den : Int) ((Nat.gcd x0.x.b.den (cdM x0 1) : Nat) : Int)), zc (divr (x0.x.b.den : Int) ((Nat.gcd x0.x.b.den (cdM x0 1) : Nat) : Int)), [.bool (decide (((Nat.gcd x0.x.b.den (cdM x0 1) : Nat) : Int) ≠ 0))], zc ((cdM x0 2 : Nat) : Int), zc x0.x.c.num, zc (x0.x.c.den : Int), zc ((Nat.gcd x0.x.c.den (cdM x0 2) : Nat) : Int), zc (divq (x0.x.c.den : Int) ((Nat.gcd x0.x.c.den (cdM x0 2) : Nat) : Int)), zc (divr (x0.x.c.den : Int) ((Nat.gcd x0.x.c.den (cdM x0 2) : Nat) : Int)), [.bool (decide (((Nat.gcd x0.x.c.den (cdM x0 2) : Nat) : Int) ≠ 0))], zc ((cdM x0 3 : Nat) : Int), zc x0.x.d.num, zc (x0.x.d.den : Int), zc ((Nat.gcd x0.x.d.den (cdM x0 3) : Nat) : Int), zc (divq (x0.x.d.den : Int) ((Nat.gcd x0.x.d.den (cdM x0 3) : Nat) : Int)), zc (divr (x0.x.d.den : Int) ((Nat.gcd x0.x.d.den (cdM x0 3) : Nat) : Int)), [.bool (decide (((Nat.gcd x0.x.d.den (cdM x0 3) : Nat) : Int) ≠ 0))], zc ((cdM x0 4 : Nat) : Int), zc x0.y.a.num, zc (x0.y.a.den : Int), zc ((Nat.gcd x0.y.a.den (cdM x0 4) : Nat) : Int), zc (divq (x0.y.a.den : Int) ((Nat.gcd x0.y.a.den (cdM x0 4) : Nat) : Int)), zc (divr (x0.y.a.den : Int) ((Nat.gcd x0.y.a.den (cdM x0 4) : Nat) : Int)), [.bool (decide (((Nat.gcd x0.y.a.den (cdM x0 4) : Nat) : Int) ≠ 0))], zc ((cdM x0 5 : Nat) : Int), zc x0.y.b.num, zc (x0.y.b.den : Int), zc ((Nat.gcd x0.y.b.den (cdM x0 5) : Nat) : Int), zc (divq (x0.y.b.den : Int) ((Nat.gcd x0.y.b.den (cdM x0 5) : Nat) : Int)), zc (divr (x0.y.b.den : Int) ((Nat.gcd x0.y.b.den (cdM x0 5) : Nat) : Int)), [.bool (decide (((Nat.gcd x0.y.b.den (cdM x0 5) : Nat) : Int) ≠ 0))], zc ((cdM x0 6 : Nat) : Int), zc x0.y.c.num, zc (x0.y.c.den : Int), zc ((Nat.gcd x0.y.c.den (cdM x0 6) : Nat) : Int), zc (divq (x0.y.c.den : Int) ((Nat.gcd x0.y.c.den (cdM x0 6) : Nat) : Int)), zc (divr (x0.y.c.den : Int) ((Nat.gcd x0.y.c.den (cdM x0 6) : Nat) : Int)), [.bool (decide (((Nat.gcd x0.y.c.den (cdM x0 6) : Nat) : Int) ≠ 0))], zc ((cdM x0 7 : Nat) : Int), zc x0.y.d.num, zc (x0.y.d.den : Int), zc ((Nat.gcd x0.y.d.den (cdM x0 7) : Nat) : Int), zc (divq (x0.y.d.den : Int) ((Nat.gcd x0.y.d.den (cdM x0 7) : Nat) : Int)), zc (divr (x0.y.d.den : Int) ((Nat.gcd x0.y.d.den (cdM x0 7) : Nat) : Int)), [.bool (decide (((Nat.gcd x0.y.d.den (cdM x0 7) : Nat) : Int) ≠ 0))], zc ((cdM x0 8 : Nat) : Int), zc x0.z.a.num, zc (x0.z.a.den : Int), zc ((Nat.gcd x0.z.a.den (cdM x0 8) : Nat) : Int), zc (divq (x0.z.a.den : Int) ((Nat.gcd x0.z.a.den (cdM x0 8) : Nat) : Int)), zc (divr (x0.z.a.den : Int) ((Nat.gcd x0.z.a.den (cdM x0 8) : Nat) : Int)), [.bool (decide (((Nat.gcd x0.z.a.den (cdM x0 8) : Nat) : Int) ≠ 0))], zc ((cdM x0 9 : Nat) : Int), zc x0.z.b.num, zc (x0.z.b.den : Int), zc ((Nat.gcd x0.z.b.den (cdM x0 9) : Nat) : Int), zc (divq (x0.z.b.den : Int) ((Nat.gcd x0.z.b.den (cdM x0 9) : Nat) : Int)), zc (divr (x0.z.b.den : Int) ((Nat.gcd x0.z.b.den (cdM x0 9) : Nat) : Int)), [.bool (decide (((Nat.gcd x0.z.b.den (cdM x0 9) : Nat) : Int) ≠ 0))], zc ((cdM x0 10 : Nat) : Int), zc x0.z.c.num, zc (x0.z.c.den : Int), zc ((Nat.gcd x0.z.c.den (cdM x0 10) : Nat) : Int), zc (divq (x0.z.c.den : Int) ((Nat.gcd x0.z.c.den (cdM x0 10) : Nat) : Int)), zc (divr (x0.z.c.den : Int) ((Nat.gcd x0.z.c.den (cdM x0 10) : Nat) : Int)), [.bool (decide (((Nat.gcd x0.z.c.den (cdM x0 10) : Nat) : Int) ≠ 0))], zc ((cdM x0 11 : Nat) : Int), zc x0.z.d.num, zc (x0.z.d.den : Int), zc ((Nat.gcd x0.z.d.den (cdM x0 11) : Nat) : Int), zc (divq (x0.z.d.den : Int) ((Nat.gcd x0.z.d.den (cdM x0 11) : Nat) : Int)), zc (divr (x0.z.d.den : Int) ((Nat.gcd x0.z.d.den (cdM x0 11) : Nat) : Int)), [.bool (decide (((Nat.gcd x0.z.d.den (cdM x0 11) : Nat) : Int) ≠ 0))], zc ((cdM x0 12 : Nat) : Int)]) [] [.ga 0 36] 36 (.one (.ga 192 2)) (.call 89 [.c (.p (.lit (.int .i64 1)))] (.one (.ga 36 2)) [] :: .call 98 [.ga 0 3] (.tup [.ga 38 2, .ga 40 2]) [] :: .call 133 [.c (.p (.slc 5 0 2 2))] (.one (.ga 42 2)) [(5121, .pa 40), (5122, .pa 41), (5123, .pa 36), (5124, .pa 37)] :: .call 113 [.ga 40 2, .ga 42 2] (.tup [.ga 44 2, .ga 46 2, .ca 48]) [] :: .call 59 [.ga 36 2, .ga 44 2] (.one (.ga 49 2)) [] :: .call 98 [.ga 3 3] (.tup [.ga 51 2, .ga 53 2]) [] :: .call 133 [.c (.p (.slc 10 0 2 2))] (.one (.ga 55 2)) [(10241, .pa 53), (10242, .pa 54), (10243, .pa 49), (10244, .pa 50)] :: .call 113 [.ga 53 2, .ga 55 2] (.tup [.ga 57 2, .ga 59 2, .ca 61]) [] :: .call 59 [.ga 49 2, .ga 57 2] (.one (.ga 62 2)) [] :: .call 98 [.ga 6 3] (.tup [.ga 64 2, .ga 66 2]) [] :: .call 133 [.c (.p (.slc 15 0 2 2))] (.one (.ga 68 2)) [(15361, .pa 66), (15362, .pa 67), (15363, .pa 62), (15364, .pa 63)] :: .call 113 [.ga 66 2, .ga 68 2] (.tup [.ga 70 2, .ga 72 2, .ca 74]) [] :: .call 59 [.ga 62 2, .ga 70 2] (.one (.ga 75 2)) [] :: .call 98 [.ga 9 3] (.tup [.ga 77 2, .ga 79 2]) [] :: .call 133 [.c (.p (.slc 20 0 2 2))] (.one (.ga 81 2)) [(20481, .pa 79), (20482, .pa 80), (20483, .pa 75), (20484, .pa 76)] :: .call 113 [.ga 79 2, .ga 81 2] (.tup [.ga 83 2, .ga 85 2, .ca 87]) [] :: .call 59 [.ga 75 2, .ga 83 2] (.one (.ga 88 2)) [] :: .call 98 [.ga 12 3] (.tup [.ga 90 2, .ga 92 2]) [] :: .call 133 [.c (.p (.slc 25 0 2 2))] (.one (.ga 94 2)) [(25601, .pa 92), (25602, .pa 93), (25603, .pa 88), (25604, .pa 89)] :: .call 113 [.ga 92 2, .ga 94 2] (.tup [.ga 96 2, .ga 98 2, .ca 100]) [] :: .call 59 [.ga 88 2, .ga 96 2] (.one (.ga 101 2)) [] :: .call 98 [.ga 15 3] (.tup [.ga 103 2, .ga 105 2]) [] :: .call 133 [.c (.p (.slc 30 0 2 2))] (.one (.ga 107 2)) [(30721, .pa 105), (30722, .pa 106), (30723, .pa 101), (30724, .pa 102)] :: .call 113 [.ga 105 2, .ga 107 2] (.tup [.ga 109 2, .ga 111 2, .ca 113]) [] :: .call 59 [.ga 101 2, .ga 109 2] (.one (.ga 114 2)) [] :: .call 98 [.ga 18 3] (.tup [.ga 116 2, .ga 118 2]) [] :: .call 133 [.c (.p (.slc 35 0 2 2))] (.one (.ga 120 2)) [(35841, .pa 118), (35842, .pa 119), (35843, .pa 114), (35844, .pa 115)] :: .call 113 [.ga 118 2, .ga 120 2] (.tup [.ga 122 2, .ga 124 2, .ca 126]) [] :: .call 59 [.ga 114 2, .ga 122 2] (.one (.ga 127 2)) [] :: .call 98 [.ga 21 3] (.tup [.ga 129 2, .ga 131 2]) [] :: .call 133 [.c (.p (.slc 40 0 2 2))] (.one (.ga 133 2)) [(40961, .pa 131), (40962, .pa 132), (40963, .pa 127), (40964, .pa 128)] :: .call 113 [.ga 131 2, .ga 133 2] (.tup [.ga 135 2, .ga 137 2, .ca 139]) [] :: .call 59 [.ga 127 2, .ga 135 2] (.one (.ga 140 2)) [] :: .call 98 [.ga 24 3] (.tup [.ga 142 2, .ga 144 2]) [] :: .call 133 [.c (.p (.slc 45 0 2 2))] (.one (.ga 146 2)) [(46081, .pa 144), (46082, .pa 145), (46083, .pa 140), (46084, .pa 141)] :: .call 113 [.ga 144 2, .ga 146 2] (.tup [.ga 148 2, .ga 150 2, .ca 152]) [] :: .call 59 [.ga 140 2, .ga 148 2] (.one (.ga 153 2)) [] :: .call 98 [.ga 27 3] (.tup [.ga 155 2, .ga 157 2]) [] :: .call 133 [.c (.p (.slc 50 0 2 2))] (.one (.ga 159 2)) [(51201, .pa 157), (51202, .pa 158), (51203, .pa 153), (51204, .pa 154)] :: .call 113 [.ga 157 2, .ga 159 2] (.tup [.ga 161 2, .ga 163 2, .ca 165]) [] :: .call 59 [.ga 153 2, .ga 161 2] (.one (.ga 166 2)) [] :: .call 98 [.ga 30 3] (.tup [.ga 168 2, .ga 170 2]) [] :: .call 133 [.c (.p (.slc 55 0 2 2))] (.one (.ga 172 2)) [(56321, .pa 170), (56322, .pa 171), (56323, .pa 166), (56324, .pa 167)] :: .call 113 [.ga 170 2, .ga 172 2] (.tup [.ga 174 2, .ga 176 2, .ca 178]) [] :: .call 59 [.ga 166 2, .ga 174 2] (.one (.ga 179 2)) [] :: .call 98 [.ga 33 3] (.tup [.ga 181 2, .ga 183 2]) [] :: .call 133 [.c (.p (.slc 60 0 2 2))] (.one (.ga 185 2)) [(61441, .pa 183), (61442, .pa 184), (61443, .pa 179), (61444, .pa 180)] :: .call 113 [.ga 183 2, .ga 185 2] (.tup [.ga 187 2, .ga 189 2, .ca 191]) [] :: .call 59 [.ga 179 2, .ga 187 2] (.one (.ga 192 2)) [] :: []) Tryz.func111 (by kernel_rfl) rfl (by kernel_rfl) rfl (by kernel_rfl)
    ⟨fun γ w' _ _ => by have h := FromInt64_any 1 w' (by decide) (by decide); exact h,
     fun γ w' bw _ => by have h := qParts wx00 (by decide) w' (hT.later bw); exact h,
     fun γ w' bw hm => by have h := GcdZ_any (some ⟨γ 5, 0, none⟩) [((sg (x0.x.a.den : Int)), (mg (x0.x.a.den : Int))), ((sg ((cdM x0 0 : Nat) : Int)), (mg ((cdM x0 0 : Nat) : Int)))] 2 2 w' rfl (by simp) (gcd2_len f3 f1 (by decide) (by decide)) (rdp2 (hm 5121 _ rfl) (hm 5122 _ rfl) (hm 5123 _ rfl) (hm 5124 _ rfl)) (hT.later bw); rw [gcd2_list] at h; exact h,
     fun γ w' _ _ => by have h := iDiv (IsZ.can f3) (by decide) (IsZ.can f4) (by decide) w'; exact h,
     fun γ w' _ _ => by have h := iMul (IsZ.can f1) (by decide) (IsZ.can f5) (by decide) w'; rw [cd_step' _ _ x0.x.a.den_pos] at h; exact h,
     fun γ w' bw _ => by have h := qParts wx01 (by decide) w' (hT.later bw); exact h,
     fun γ w' bw hm => by have h := GcdZ_any (some ⟨γ 10, 0, none⟩) [((sg (x0.x.b.den : Int)), (mg (x0.x.b.den : Int))), ((sg ((cdM x0 1 : Nat) : Int)), (mg ((cdM x0 1 : Nat) : Int)))] 2 2 w' rfl (by simp) (gcd2_len f9 f7 (by decide) (by decide)) (rdp2 (hm 10241 _ rfl) (hm 10242 _ rfl) (hm 10243 _ rfl) (hm 10244 _ rfl)) (hT.later bw); rw [gcd2_list] at h; exact h,
     fun γ w' _ _ => by have h := iDiv (IsZ.can f9) (by decide) (IsZ.can f10) (by decide) w'; exact h,
     fun γ w' _ _ => by have h := iMul (IsZ.can f7) (by decide) (IsZ.can f11) (by decide) w'; rw [cd_step' _ _ x0.x.b.den_pos] at h; exact h,
     fun γ w' bw _ => by have h := qParts wx02 (by decide) w' (hT.later bw); exact h,
     fun γ w' bw hm => by have h := GcdZ_any (some ⟨γ 15, 0, none⟩) [((sg (x0.x.c.den : Int)), (mg (x0.x.c.den : Int))), ((sg ((cdM x0 2 : Nat) : Int)), (mg ((cdM x0 2 : Nat) : Int)))] 2 2 w' rfl (by simp) (gcd2_len f15 f13 (by decide) (by decide)) (rdp2 (hm 15361 _ rfl) (hm 15362 _ rfl) (hm 15363 _ rfl) (hm 15364 _ rfl)) (hT.later bw); rw [gcd2_list] at h; exact h,
     fun γ w' _ _ => by have h := iDiv (IsZ.can f15) (by decide) (IsZ.can f16) (by decide) w'; exact h,
     fun γ w' _ _ => by have h := iMul (IsZ.can f13) (by decide) (IsZ.can f17) (by decide) w'; rw [cd_step' _ _ x0.x.c.den_pos] at h; exact h,
     fun γ w' bw _ => by have h := qParts wx03 (by decide) w' (hT.later bw); exact h,
     fun γ w' bw hm => by have h := GcdZ_any (some ⟨γ 20, 0, none⟩) [((sg (x0.x.d.den : Int)), (mg (x0.x.d.den : Int))), ((sg ((cdM x0 3 : Nat) : Int)), (mg ((cdM x0 3 : Nat) : Int)))] 2 2 w' rfl (by simp) (gcd2_len f21 f19 (by decide) (by decide)) (rdp2 (hm 20481 _ rfl) (hm 20482 _ rfl) (hm 20483 _ rfl) (hm 20484 _ rfl)) (hT.later bw); rw [gcd2_list] at h; exact h,
     fun γ w' _ _ => by have h := iDiv (IsZ.can f21) (by decide) (IsZ.can f22) (by decide) w'; exact h,
     fun γ w' _ _ => by have h := iMul (IsZ.can f19) (by decide) (IsZ.can f23) (by decide) w'; rw [cd_step' _ _ x0.x.d.den_pos] at h; exact h,
     fun γ w' bw _ => by have h := qParts wx04 (by decide) w' (hT.later bw); exact h,
     fun γ w' bw hm => by have h := GcdZ_any (some ⟨γ 25, 0, none⟩) [((sg (x0.y.a.den : Int)), (mg (x0.y.a.den : Int))), ((sg ((cdM x0 4 : Nat) : Int)), (mg ((cdM x0 4 : Nat) : Int)))] 2 2 w' rfl (by simp) (gcd2_len f27 f25 (by decide) (by decide)) (rdp2 (hm 25601 _ rfl) (hm 25602 _ rfl) (hm 25603 _ rfl) (hm 25604 _ rfl)) (hT.later bw); rw [gcd2_list] at h; exact h,
     fun γ w' _ _ => by have h := iDiv (IsZ.can f27) (by decide) (IsZ.can f28) (by decide) w'; exact h,
     fun γ w' _ _ => by have h := iMul (IsZ.can f25) (by decide) (IsZ.can f29) (by decide) w'; rw [cd_step' _ _ x0.y.a.den_pos] at h; exact h,
     fun γ w' bw _ => by have h := qParts wx05 (by decide) w' (hT.later bw); exact h,
     fun γ w' bw hm => by have h := GcdZ_any (some ⟨γ 30, 0, none⟩) [((sg (x0.y.b.den : Int)), (mg (x0.y.b.den : Int))), ((sg ((cdM x0 5 : Nat) : Int)), (mg ((cdM x0 5 : Nat) : Int)))] 2 2 w' rfl (by simp) (gcd2_len f33 f31 (by decide) (by decide)) (rdp2 (hm 30721 _ rfl) (hm 30722 _ rfl) (hm 30723 _ rfl) (hm 30724 _ rfl)) (hT.later bw); rw [gcd2_list] at h; exact h,
     fun γ w' _ _ => by have h := iDiv (IsZ.can f33) (by decide) (IsZ.can f34) (by decide) w'; exact h,
     fun γ w' _ _ => by have h := iMul (IsZ.can f31) (by decide) (IsZ.can f35) (by decide) w'; rw [cd_step' _ _ x0.y.b.den_pos] at h; exact h,
     fun γ w' bw _ => by have h := qParts wx06 (by decide) w' (hT.later bw); exact h,
     fun γ w' bw hm => by have h := GcdZ_any (some ⟨γ 35, 0, none⟩) [((sg (x0.y.c.den : Int)), (mg (x0.y.c.den : Int))), ((sg ((cdM x0 6 : Nat) : Int)), (mg ((cdM x0 6 : Nat) : Int)))] 2 2 w' rfl (by simp) (gcd2_len f39 f37 (by decide) (by decide)) (rdp2 (hm 35841 _ rfl) (hm 35842 _ rfl) (hm 35843 _ rfl) (hm 35844 _ rfl)) (hT.later bw); rw [gcd2_list] at h; exact h,
     fun γ w' _ _ => by have h := iDiv (IsZ.can f39) (by decide) (IsZ.can f40) (by decide) w'; exact h,
     fun γ w' _ _ => by have h := iMul (IsZ.can f37) (by decide) (IsZ.can f41) (by decide) w'; rw [cd_step' _ _ x0.y.c.den_pos] at h; exact h,
     fun γ w' bw _ => by have h := qParts wx07 (by decide) w' (hT.later bw); exact h,
     fun γ w' bw hm => by have h := GcdZ_any (some ⟨γ 40, 0, none⟩) [((sg (x0.y.d.den : Int)), (mg (x0.y.d.den : Int))), ((sg ((cdM x0 7 : Nat) : Int)), (mg ((cdM x0 7 : Nat) : Int)))] 2 2 w' rfl (by simp) (gcd2_len f45 f43 (by decide) (by decide)) (rdp2 (hm 40961 _ rfl) (hm 40962 _ rfl) (hm 40963 _ rfl) (hm 40964 _ rfl)) (hT.later bw); rw [gcd2_list] at h; exact h,
     fun γ w' _ _ => by have h := iDiv (IsZ.can f45) (by decide) (IsZ.can f46) (by decide) w'; exact h,
     fun γ w' _ _ => by have h := iMul (IsZ.can f43) (by decide) (IsZ.can f47) (by decide) w'; rw [cd_step' _ _ x0.y.d.den_pos] at h; exact h,
     fun γ w' bw _ => by have h := qParts wx08 (by decide) w' (hT.later bw); exact h,
     fun γ w' bw hm => by have h := GcdZ_any (some ⟨γ 45, 0, none⟩) [((sg (x0.z.a.den : Int)), (mg (x0.z.a.den : Int))), ((sg ((cdM x0 8 : Nat) : Int)), (mg ((cdM x0 8 : Nat) : Int)))] 2 2 w' rfl (by simp) (gcd2_len f51 f49 (by decide) (by decide)) (rdp2 (hm 46081 _ rfl) (hm 46082 _ rfl) (hm 46083 _ rfl) (hm 46084 _ rfl)) (hT.later bw); rw [gcd2_list] at h; exact h,
     fun γ w' _ _ => by have h := iDiv (IsZ.can f51) (by decide) (IsZ.can f52) (by decide) w'; exact h,
     fun γ w' _ _ => by have h := iMul (IsZ.can f49) (by decide) (IsZ.can f53) (by decide) w'; rw [cd_step' _ _ x0.z.a.den_pos] at h; exact h,
     fun γ w' bw _ => by have h := qParts wx09 (by decide) w' (hT.later bw); exact h,
     fun γ w' bw hm => by have h := GcdZ_any (some ⟨γ 50, 0, none⟩) [((sg (x0.z.b.den : Int)), (mg (x0.z.b.den : Int))), ((sg ((cdM x0 9 : Nat) : Int)), (mg ((cdM x0 9 : Nat) : Int)))] 2 2 w' rfl (by simp) (gcd2_len f57 f55 (by decide) (by decide)) (rdp2 (hm 51201 _ rfl) (hm 51202 _ rfl) (hm 51203 _ rfl) (hm 51204 _ rfl)) (hT.later bw); rw [gcd2_list] at h; exact h,
     fun γ w' _ _ => by have h := iDiv (IsZ.can f57) (by decide) (IsZ.can f58) (by decide) w'; exact h,
     fun γ w' _ _ => by have h := iMul (IsZ.can f55) (by decide) (IsZ.can f59) (by decide) w'; rw [cd_step' _ _ x0.z.b.den_pos] at h; exact h,
     fun γ w' bw _ => by have h := qParts wx010 (by decide) w' (hT.later bw); exact h,
     fun γ w' bw hm => by have h := GcdZ_any (some ⟨γ 55, 0, none⟩) [((sg (x0.z.c.den : Int)), (mg (x0.z.c.den : Int))), ((sg ((cdM x0 10 : Nat) : Int)), (mg ((cdM x0 10 : Nat) : Int)))] 2 2 w' rfl (by simp) (gcd2_len f63 f61 (by decide) (by decide)) (rdp2 (hm 56321 _ rfl) (hm 56322 _ rfl) (hm 56323 _ rfl) (hm 56324 _ rfl)) (hT.later bw); rw [gcd2_list] at h; exact h,
     fun γ w' _ _ => by have h := iDiv (IsZ.can f63) (by decide) (IsZ.can f64) (by decide) w'; exact h,
     fun γ w' _ _ => by have h := iMul (IsZ.can f61) (by decide) (IsZ.can f65) (by decide) w'; rw [cd_step' _ _ x0.z.c.den_pos] at h; exact h,
     fun γ w' bw _ => by have h := qParts wx011 (by decide) w' (hT.later bw); exact h,
     fun γ w' bw hm => by have h := GcdZ_any (some ⟨γ 60, 0, none⟩) [((sg (x0.z.d.den : Int)), (mg (x0.z.d.den : Int))), ((sg ((cdM x0 11 : Nat) : Int)), (mg ((cdM x0 11 : Nat) : Int)))] 2 2 w' rfl (by simp) (gcd2_len f69 f67 (by decide) (by decide)) (rdp2 (hm 61441 _ rfl) (hm 61442 _ rfl) (hm 61443 _ rfl) (hm 61444 _ rfl)) (hT.later bw); rw [gcd2_list] at h; exact h,
     fun γ w' _ _ => by have h := iDiv (IsZ.can f69) (by decide) (IsZ.can f70) (by decide) w'; exact h,
     fun γ w' _ _ => by have h := iMul (IsZ.can f67) (by decide) (IsZ.can f71) (by decide) w'; rw [cd_step' _ _ x0.z.d.den_pos] at h; exact h⟩
  exact H
set_option maxRecDepth 100000 in
theorem afFromMap {ux0 : Value} {x0 : M3} {kx0 : Nat} (hx0 : IsM ux0 x0 kx0) (lx0 : kx0 ≤ 1000) (w : World) (hT : TabC w) :
    Calls Tryz.prog 48 #[ux0] w fun e w' => e = .returned (XV (fromE x0)) ∧ Below w.heap.size w w' := by
  replace hx0 := hx0.up lx0
  have zx0 := hx0.sz (by decide)
  obtain ⟨x0b, x0s, rfl, wx00, wx01, wx02, wx03, wx04, wx05, wx06, wx07, wx08, wx09, wx010, wx011⟩ := id hx0
  have hq0 : ∀ i, i < 12 → IsQ (Q3 (x0b i) (x0s (2 * i)) (x0s (2 * i + 1))) (entM x0 i) 1000 := by
    intro i hi
    rcases twelve hi with rfl | rfl | rfl | rfl | rfl | rfl | rfl | rfl | rfl | rfl | rfl | rfl
    · exact wx00
    · exact wx01
    · exact wx02
    · exact wx03
    · exact wx04
    · exact wx05
    · exact wx06
    · exact wx07
    · exact wx08
    · exact wx09
    · exact wx010
    · exact wx011
  have zC := (cd_size zx0 12 (Nat.le_refl _)).up (show 12 * 1000 + 1 ≤ 12001 by decide)
  have f1 : Zk ((cdM x0 12 : Nat) : Int) 12001 := Zk.up ((cd_size zx0 12 (Nat.le_refl _))) (by decide)
  have f2 : Xk (fromE x0) 13001 := Xk.up ((Xk.fromE zx0)) (by decide)
  have H := SX.run (w := w) (List.flatten [(.bool (x0b 0) :: .string (x0s 0) :: .string (x0s 1) :: .bool (x0b 1) :: .string (x0s 2) :: .string (x0s 3) :: .bool (x0b 2) :: .string (x0s 4) :: .string (x0s 5) :: .bool (x0b 3) :: .string (x0s 6) :: .string (x0s 7) :: .bool (x0b 4) :: .string (x0s 8) :: .string (x0s 9) :: .bool (x0b 5) :: .string (x0s 10) :: .string (x0s 11) :: .bool (x0b 6) :: .string (x0s 12) :: .string (x0s 13) :: .bool (x0b 7) :: .string (x0s 14) :: .string (x0s 15) :: .bool (x0b 8) :: .string (x0s 16) :: .string (x0s 17) :: .bool (x0b 9) :: .string (x0s 18) :: .string (x0s 19) :: .bool (x0b 10) :: .string (x0s 20) :: .string (x0s 21) :: .bool (x0b 11) :: .string (x0s 22) :: .string (x0s 23) :: []), zc ((cdM x0 12 : Nat) : Int), xc (fromE x0)]) [] [.ga 0 36] 36 (.one (.ga 38 32)) [.call 111 [.ga 0 36] (.one (.ga 36 2)) [], .call 68 [.ga 36 2, .c (.fn 112 [.ptr 0 0, .ptr 2 0])] (.one (.ga 38 32)) (SX.number 1 (SX.rg 0 36) ++ SX.number 2049 (SX.rg 36 2))] Tryz.func48 (by kernel_rfl) rfl (by kernel_rfl) rfl (by kernel_rfl)
    ⟨fun γ w' bw _ => by have h := afCommon hx0 (by decide) w' (hT.later bw); exact h,
     fun γ w' bw hm => by
      have h := afFilled (g := 112) (cl := [.pointer (some ⟨γ 0, 0, none⟩), .pointer (some ⟨γ 2, 0, none⟩)]) (d := ((cdM x0 12 : Nat) : Int)) (e := fun r c => (entM x0 (4 * r + c)).num * divq ((cdM x0 12 : Nat) : Int) (((entM x0 (4 * r + c)).den : Nat) : Int)) (by kernel_rfl) w' (fun r c hr hc w2 hb2 => by have h2 := afFrom_c hr hc hq0 zC w2 ((hT.later bw).later hb2) (γ 0) (γ 2) (SX.CellsAt.keep (mem_box (b := 0) (l := SX.rg 0 36) hm rfl (by kernel_rfl)) hb2) (SX.CellsAt.keep (mem_box (b := 2) (l := SX.rg 36 2) hm rfl (by kernel_rfl)) hb2); exact h2)
      exact h⟩
  exact H
theorem afToMap {x0 : Nat → Int} {kx0 : Nat} (zx0 : Xk x0 kx0) (lx0 : kx0 ≤ 50000) (w : World) (hT : TabC w) :
    Calls Tryz.prog 49 #[XV x0] w fun e w' => e = .returned (MV (overE x0)) ∧ Below w.heap.size w w' := by
  replace zx0 := zx0.up lx0
  have f1 : Zk (x0 0) 50000 := Zk.up ((zx0 0 (by decide))) (by decide)
  have f2 : Zk (x0 15) 50000 := Zk.up ((zx0 15 (by decide))) (by decide)
  have f3 : Rk (Rat.divInt (x0 0) (x0 15)) 50000 := Rk.up (Is.divInt f1 f2) (by decide)
  have f4 : Zk (x0 1) 50000 := Zk.up ((zx0 1 (by decide))) (by decide)
  have f5 : Rk (Rat.divInt (x0 1) (x0 15)) 50000 := Rk.up (Is.divInt f4 f2) (by decide)
  have f6 : Zk (x0 2) 50000 := Zk.up ((zx0 2 (by decide))) (by decide)
  have f7 : Rk (Rat.divInt (x0 2) (x0 15)) 50000 := Rk.up (Is.divInt f6 f2) (by decide)
  have f8 : Zk (x0 3) 50000 := Zk.up ((zx0 3 (by decide))) (by decide)
  have f9 : Rk (Rat.divInt (x0 3) (x0 15)) 50000 := Rk.up (Is.divInt f8 f2) (by decide)
  have f10 : Zk (x0 4) 50000 := Zk.up ((zx0 4 (by decide))) (by decide)
  have f11 : Rk (Rat.divInt (x0 4) (x0 15)) 50000 := Rk.up (Is.divInt f10 f2) (by decide)
  have f12 : Zk (x0 5) 50000 := Zk.up ((zx0 5 (by decide))) (by decide)
  have f13 : Rk (Rat.divInt (x0 5) (x0 15)) 50000 := Rk.up (Is.divInt f12 f2) (by decide)
  have f14 : Zk (x0 6) 50000 := Zk.up ((zx0 6 (by decide))) (by decide)
  have f15 : Rk (Rat.divInt (x0 6) (x0 15)) 50000 := Rk.up (Is.divInt f14 f2) (by decide)
  have f16 : Zk (x0 7) 50000 := Zk.up ((zx0 7 (by decide))) (by decide)
  have f17 : Rk (Rat.divInt (x0 7) (x0 15)) 50000 := Rk.up (Is.divInt f16 f2) (by decide)
  have f18 : Zk (x0 8) 50000 := Zk.up ((zx0 8 (by decide))) (by decide)
  have f19 : Rk (Rat.divInt (x0 8) (x0 15)) 50000 := Rk.up (Is.divInt f18 f2) (by decide)
  have f20 : Zk (x0 9) 50000 := Zk.up ((zx0 9 (by decide))) (by decide)
  have f21 : Rk (Rat.divInt (x0 9) (x0 15)) 50000 := Rk.up (Is.divInt f20 f2) (by decide)
  have f22 : Zk (x0 10) 50000 := Zk.up ((zx0 10 (by decide))) (by decide)
  have f23 : Rk (Rat.divInt (x0 10) (x0 15)) 50000 := Rk.up (Is.divInt f22 f2) (by decide)
  have f24 : Zk (x0 11) 50000 := Zk.up ((zx0 11 (by decide))) (by decide)
  have f25 : Rk (Rat.divInt (x0 11) (x0 15)) 50000 := Rk.up (Is.divInt f24 f2) (by decide)
  have H := SX.run (w := w) (List.flatten [xc x0, qc (Rat.divInt (x0 0) (x0 15)), [.bool (decide ((x0 15) ≠ 0))], qc (Rat.divInt (x0 1) (x0 15)), [.bool (decide ((x0 15) ≠ 0))], qc (Rat.divInt (x0 2) (x0 15)), [.bool (decide ((x0 15) ≠ 0))], qc (Rat.divInt (x0 3) (x0 15)), [.bool (decide ((x0 15) ≠ 0))], qc (Rat.divInt (x0 4) (x0 15)), [.bool (decide ((x0 15) ≠ 0))], qc (Rat.divInt (x0 5) (x0 15)), [.bool (decide ((x0 15) ≠ 0))], qc (Rat.divInt (x0 6) (x0 15)), [.bool (decide ((x0 15) ≠ 0))], qc (Rat.divInt (x0 7) (x0 15)), [.bool (decide ((x0 15) ≠ 0))], qc (Rat.divInt (x0 8) (x0 15)), [.bool (decide ((x0 15) ≠ 0))], qc (Rat.divInt (x0 9) (x0 15)), [.bool (decide ((x0 15) ≠ 0))], qc (Rat.divInt (x0 10) (x0 15)), [.bool (decide ((x0 15) ≠ 0))], qc (Rat.divInt (x0 11) (x0 15)), [.bool (decide ((x0 15) ≠ 0))]]) [] [.ga 0 32] 32 (.one (.agg [.pa 32, .pa 33, .pa 34, .pa 36, .pa 37, .pa 38, .pa 40, .pa 41, .pa 42, .pa 44, .pa 45, .pa 46, .pa 48, .pa 49, .pa 50, .pa 52, .pa 53, .pa 54, .pa 56, .pa 57, .pa 58, .pa 60, .pa 61, .pa 62, .pa 64, .pa 65, .pa 66, .pa 68, .pa 69, .pa 70, .pa 72, .pa 73, .pa 74, .pa 76, .pa 77, .pa 78])) [.call 63 [.ga 0 2, .ga 30 2] (.tup [.ga 32 3, .ca 35]) [], .call 63 [.ga 2 2, .ga 30 2] (.tup [.ga 36 3, .ca 39]) [], .call 63 [.ga 4 2, .ga 30 2] (.tup [.ga 40 3, .ca 43]) [], .call 63 [.ga 6 2, .ga 30 2] (.tup [.ga 44 3, .ca 47]) [], .call 63 [.ga 8 2, .ga 30 2] (.tup [.ga 48 3, .ca 51]) [], .call 63 [.ga 10 2, .ga 30 2] (.tup [.ga 52 3, .ca 55]) [], .call 63 [.ga 12 2, .ga 30 2] (.tup [.ga 56 3, .ca 59]) [], .call 63 [.ga 14 2, .ga 30 2] (.tup [.ga 60 3, .ca 63]) [], .call 63 [.ga 16 2, .ga 30 2] (.tup [.ga 64 3, .ca 67]) [], .call 63 [.ga 18 2, .ga 30 2] (.tup [.ga 68 3, .ca 71]) [], .call 63 [.ga 20 2, .ga 30 2] (.tup [.ga 72 3, .ca 75]) [], .call 63 [.ga 22 2, .ga 30 2] (.tup [.ga 76 3, .ca 79]) []] Tryz.func49 (by kernel_rfl) rfl (by kernel_rfl) rfl (by kernel_rfl)
    ⟨fun γ w' bw _ => qMake (IsZ.can f1) (by decide) (IsZ.can f2) (by decide) w' (hT.later bw),
     fun γ w' bw _ => qMake (IsZ.can f4) (by decide) (IsZ.can f2) (by decide) w' (hT.later bw),
     fun γ w' bw _ => qMake (IsZ.can f6) (by decide) (IsZ.can f2) (by decide) w' (hT.later bw),
     fun γ w' bw _ => qMake (IsZ.can f8) (by decide) (IsZ.can f2) (by decide) w' (hT.later bw),
     fun γ w' bw _ => qMake (IsZ.can f10) (by decide) (IsZ.can f2) (by decide) w' (hT.later bw),
     fun γ w' bw _ => qMake (IsZ.can f12) (by decide) (IsZ.can f2) (by decide) w' (hT.later bw),
     fun γ w' bw _ => qMake (IsZ.can f14) (by decide) (IsZ.can f2) (by decide) w' (hT.later bw),
     fun γ w' bw _ => qMake (IsZ.can f16) (by decide) (IsZ.can f2) (by decide) w' (hT.later bw),
     fun γ w' bw _ => qMake (IsZ.can f18) (by decide) (IsZ.can f2) (by decide) w' (hT.later bw),
     fun γ w' bw _ => qMake (IsZ.can f20) (by decide) (IsZ.can f2) (by decide) w' (hT.later bw),
     fun γ w' bw _ => qMake (IsZ.can f22) (by decide) (IsZ.can f2) (by decide) w' (hT.later bw),
     fun γ w' bw _ => qMake (IsZ.can f24) (by decide) (IsZ.can f2) (by decide) w' (hT.later bw)⟩
  exact H
theorem afDetE {x0 : Nat → Int} {kx0 : Nat} (zx0 : Xk x0 kx0) (lx0 : kx0 ≤ 20000) (w : World) :
    Calls Tryz.prog 64 #[XV x0] w fun e w' => e = .returned (Z (detE x0)) ∧ Below w.heap.size w w' := by
  replace zx0 := zx0.up lx0
  have f1 : Zk (detE x0) 60004 := Zk.up ((Zk.detE zx0)) (by decide)
  have H := SX.run (w := w) (List.flatten [xc x0, zc (detE x0)]) [] [.ga 0 32] 32 (.one (.ga 32 2)) [.call 57 [.c (.p (.lit (.int .i64 3))), .c (.fn 123 [.ptr 0 0])] (.one (.ga 32 2)) (SX.number 1 (SX.rg 0 32))] Tryz.func64 (by kernel_rfl) rfl (by kernel_rfl) rfl (by kernel_rfl)
    (SX.All.one (fun γ w' bw hm => by
      have h := afSum3 (g := 123) (cl := [.pointer (some ⟨γ 0, 0, none⟩)]) (t := fun k => x0 k * cofE x0 0 k) (by kernel_rfl) w' (fun k hk w2 hb2 => by have h2 := afDet_1 hk zx0 (by decide) w2 (γ 0) (SX.CellsAt.keep (mem_box (b := 0) (l := SX.rg 0 32) hm rfl (by kernel_rfl)) hb2); exact h2) (fun k hk => Zk.up (mg_mul_size (zx0 k (by omega)) (Zk.cofE zx0 0 k)) (by decide))
      exact h))
  exact H
theorem afTranslation {ux0 : Value} {x0 : P3} {kx0 : Nat} (hx0 : IsV ux0 x0 kx0) (lx0 : kx0 ≤ 1000) (w : World) (hT : TabC w) :
    Calls Tryz.prog 32 #[ux0] w fun e w' => e = .returned (MV (shiftM x0)) ∧ Below w.heap.size w w' := by
  replace hx0 := hx0.up lx0
  have zx0 := hx0.sz (by decide)
  obtain ⟨x00, x01, x02, x03, x04, x05, x06, x07, x08, rfl, ex00, sx01, sx02, ex01, sx04, sx05, ex02, sx07, sx08⟩ := id hx0
  have wx00 : IsQ (.agg #[.bool x00, .string x01, .string x02]) x0.x 1000 := ⟨x00, x01, x02, rfl, ex00, sx01, sx02⟩
  have zx00 := wx00.sz (by decide)
  have wx01 : IsQ (.agg #[.bool x03, .string x04, .string x05]) x0.y 1000 := ⟨x03, x04, x05, rfl, ex01, sx04, sx05⟩
  have zx01 := wx01.sz (by decide)
  have wx02 : IsQ (.agg #[.bool x06, .string x07, .string x08]) x0.z 1000 := ⟨x06, x07, x08, rfl, ex02, sx07, sx08⟩
  have zx02 := wx02.sz (by decide)
  have f1 : Pk x0 3000 := Pk.up ((Pk.ofV zx0)) (by decide)
  have f2 : Fk (can4 x0) 3000 := Fk.up (f1) (by decide)
  have f3 : Xk (shE (can4 x0)) 3000 := Xk.up ((Xk.shE f2)) (by decide)
  have f4 : Mk (shiftM x0) 1000 := Mk.up ((Mk.shiftM zx0)) (by decide)
  have H := SX.run (w := w) (List.flatten [[.bool x00, .string x01, .string x02, .bool x03, .string x04, .string x05, .bool x06, .string x07, .string x08], pc x0, fc (can4 x0), xc (shE (can4 x0)), mc (shiftM x0)]) [] [.ga 0 9] 9 (.one (.ga 57 36)) [.call 91 [.ga 0 9] (.one (.ga 9 8)) [], .call 55 [.ga 9 8] (.one (.ga 17 8)) [], .call 68 [.ga 23 2, .c (.fn 92 [.ptr 2 0])] (.one (.ga 25 32)) [(2049, .pa 17), (2050, .pa 18), (2051, .pa 19), (2052, .pa 20), (2053, .pa 21), (2054, .pa 22), (2055, .pa 23), (2056, .pa 24)], .call 49 [.ga 25 32] (.one (.ga 57 36)) []] Tryz.func32 (by kernel_rfl) rfl (by kernel_rfl) rfl (by kernel_rfl)
    ⟨fun γ w' bw _ => pFromCoords hx0 (by decide) w' (hT.later bw),
     fun γ w' _ _ => afXy (sg (can4 x0).a) (mg (can4 x0).a) (sg (can4 x0).b) (mg (can4 x0).b) (sg (can4 x0).c) (mg (can4 x0).c) (sg (can4 x0).d) (mg (can4 x0).d) w',
     fun γ w' bw hm => by
      have h := afFilled (g := 92) (cl := [.pointer (some ⟨γ 2, 0, none⟩)]) (d := (can4 x0).d) (e := fun r c => if c = 3 then fourF (can4 x0) r else if r = c then (can4 x0).d else 0) (by kernel_rfl) w' (fun r c hr hc w2 hb2 => by have h2 := afShift_c hr hc w2 (γ 2) (SX.CellsAt.keep (mem_box (b := 2) (l := SX.rg 17 8) hm rfl (by kernel_rfl)) hb2); exact h2)
      exact h,
     fun γ w' bw _ => by have h := afToMap f3 (by decide) w' (hT.later bw); rw [over_rep (rep_sh x0)] at h; exact h⟩
  exact H
theorem afIdentity (w : World) (hT : TabC w) :
    Calls Tryz.prog 22 #[] w fun e w' => e = .returned (MV idM) ∧ Below w.heap.size w w' := by
  have f1 : Mk (shiftM (P3.mk (0 : Rat) (0 : Rat) (0 : Rat))) 1 := Mk.up ((Mk.shiftM (Vk.mk Rk.zero Rk.zero Rk.zero))) (by decide)
  have H := SX.run (w := w) (List.flatten [mc (shiftM (P3.mk (0 : Rat) (0 : Rat) (0 : Rat)))]) [] [] 0 (.one (.ga 0 36)) [.call 32 [.agg [.p (.lit (.bool false)), .p (.lit (.string ⟨#[]⟩)), .p (.lit (.string ⟨#[]⟩)), .p (.lit (.bool false)), .p (.lit (.string ⟨#[]⟩)), .p (.lit (.string ⟨#[]⟩)), .p (.lit (.bool false)), .p (.lit (.string ⟨#[]⟩)), .p (.lit (.string ⟨#[]⟩))]] (.one (.ga 0 36)) []] Tryz.func22 (by kernel_rfl) rfl (by kernel_rfl) rfl (by kernel_rfl)
    (SX.All.one (fun γ w' bw _ => by have h := afTranslation (IsV.mk IsQ.zero IsQ.zero IsQ.zero) (by decide) w' (hT.later bw); exact h))
  exact H
theorem afReflection {x0 : Z4} {kx0 : Nat} (zx0 : Fk x0 kx0) (lx0 : kx0 ≤ 100) (w : World) (hT : TabC w) (hq : ¬ flatF x0) :
    Calls Tryz.prog 27 #[FV x0] w fun e w' => e = .returned (MV (mirM x0)) ∧ Below w.heap.size w w' := by
  replace zx0 := zx0.up lx0
  have f1 : Fk (eq4 x0) 100 := Fk.up ((Fk.eq4 zx0)) (by decide)
  have f2 : Zk (sqE x0) 203 := Zk.up ((Zk.sqE zx0)) (by decide)
  have f3 : Xk (mirE x0) 205 := Xk.up ((Xk.mirE zx0)) (by decide)
  have f4 : Mk (mirM x0) 808 := Mk.up ((Mk.mirM zx0)) (by decide)
  have H := SX.run (w := w) (List.flatten [fc x0, fc (eq4 x0), zc (sqE x0), xc (mirE x0), mc (mirM x0)]) [] [.ga 0 8] 8 (.one (.ga 50 36)) [.call 73 [.ga 0 8] (.one (.ga 8 8)) [], .call 57 [.c (.p (.lit (.int .i64 3))), .c (.fn 83 [.ptr 2 0])] (.one (.ga 16 2)) [(2049, .pa 8), (2050, .pa 9), (2051, .pa 10), (2052, .pa 11), (2053, .pa 12), (2054, .pa 13), (2055, .pa 14), (2056, .pa 15)], .call 68 [.ga 16 2, .c (.fn 84 [.ptr 2 0, .ptr 3 0])] (.one (.ga 18 32)) (SX.number 2049 (SX.rg 8 8) ++ SX.number 3073 (SX.rg 16 2)), .call 49 [.ga 18 32] (.one (.ga 50 36)) []] Tryz.func27 (by kernel_rfl) rfl (by kernel_rfl) rfl (by kernel_rfl)
    ⟨fun γ w' _ _ => afEq zx0 (by decide) w',
     fun γ w' bw hm => by
      have h := afSum3 (g := 83) (cl := [.pointer (some ⟨γ 2, 0, none⟩)]) (t := fun k => eqF x0 k * eqF x0 k) (by kernel_rfl) w' (fun k hk w2 hb2 => by have h2 := afMir_1 hk zx0 (by decide) w2 (γ 2) (SX.CellsAt.keep (mem_box (b := 2) (l := SX.rg 8 8) hm rfl (by kernel_rfl)) hb2); exact h2) (fun k hk => Zk.up (mg_mul_size (eqF_size zx0 k (by omega)) (eqF_size zx0 k (by omega))) (by decide))
      exact h,
     fun γ w' bw hm => by
      have h := afFilled (g := 84) (cl := [.pointer (some ⟨γ 2, 0, none⟩), .pointer (some ⟨γ 3, 0, none⟩)]) (d := (sqE x0)) (e := fun r c => (if r = c then sqE x0 else 0) - (eqF x0 r * eqF x0 c + eqF x0 r * eqF x0 c)) (by kernel_rfl) w' (fun r c hr hc w2 hb2 => by have h2 := afMir_2 hr hc zx0 (by decide) (Zk.up (Zk.sqE zx0) (by decide)) w2 (γ 2) (γ 3) (SX.CellsAt.keep (mem_box (b := 2) (l := SX.rg 8 8) hm rfl (by kernel_rfl)) hb2) (SX.CellsAt.keep (mem_box (b := 3) (l := SX.rg 16 2) hm rfl (by kernel_rfl)) hb2); exact h2)
      exact h,
     fun γ w' bw _ => by have h := afToMap f3 (by decide) w' (hT.later bw); rw [over_rep (rep_mir hq)] at h; exact h⟩
  exact H
set_option maxRecDepth 100000 in
theorem afCompose {ux0 : Value} {x0 : M3} {kx0 : Nat} (hx0 : IsM ux0 x0 kx0) (lx0 : kx0 ≤ 1000) {ux1 : Value} {x1 : M3} {kx1 : Nat} (hx1 : IsM ux1 x1 kx1) (lx1 : kx1 ≤ 1000) (w : World) (hT : TabC w) :
    Calls Tryz.prog 20 #[ux0, ux1] w fun e w' => e = .returned (MV (compM x0 x1)) ∧ Below w.heap.size w w' := by
  replace hx0 := hx0.up lx0
  have zx0 := hx0.sz (by decide)
  obtain ⟨x0b, x0s, rfl, wx00, wx01, wx02, wx03, wx04, wx05, wx06, wx07, wx08, wx09, wx010, wx011⟩ := id hx0
  replace hx1 := hx1.up lx1
  have zx1 := hx1.sz (by decide)
  obtain ⟨x1b, x1s, rfl, wx10, wx11, wx12, wx13, wx14, wx15, wx16, wx17, wx18, wx19, wx110, wx111⟩ := id hx1
  have f1 : Xk (fromE x0) 13001 := Xk.up ((Xk.fromE zx0)) (by decide)
  have f2 : Xk (fromE x1) 13001 := Xk.up ((Xk.fromE zx1)) (by decide)
  have f3 : Zk ((fromE x0) 15) 13001 := Zk.up ((f1 15 (by decide))) (by decide)
  have f4 : Zk ((fromE x1) 15) 13001 := Zk.up ((f2 15 (by decide))) (by decide)
  have f5 : Zk (((fromE x0) 15) * ((fromE x1) 15)) 26002 := Zk.up (mg_mul_size f3 f4) (by decide)
  have f6 : Xk (compE (fromE x0) (fromE x1)) 26006 := Xk.up ((Xk.comp f1 f2)) (by decide)
  have f7 : Mk (compM x0 x1) 7003 := Mk.up ((Mk.comp zx0 zx1)) (by decide)
  have H := SX.run (w := w) (List.flatten [(.bool (x0b 0) :: .string (x0s 0) :: .string (x0s 1) :: .bool (x0b 1) :: .string (x0s 2) :: .string (x0s 3) :: .bool (x0b 2) :: .string (x0s 4) :: .string (x0s 5) :: .bool (x0b 3) :: .string (x0s 6) :: .string (x0s 7) :: .bool (x0b 4) :: .string (x0s 8) :: .string (x0s 9) :: .bool (x0b 5) :: .string (x0s 10) :: .string (x0s 11) :: .bool (x0b 6) :: .string (x0s 12) :: .string (x0s 13) :: .bool (x0b 7) :: .string (x0s 14) :: .string (x0s 15) :: .bool (x0b 8) :: .string (x0s 16) :: .string (x0s 17) :: .bool (x0b 9) :: .string (x0s 18) :: .string (x0s 19) :: .bool (x0b 10) :: .string (x0s 20) :: .string (x0s 21) :: .bool (x0b 11) :: .string (x0s 22) :: .string (x0s 23) :: .bool (x1b 0) :: .string (x1s 0) :: .string (x1s 1) :: .bool (x1b 1) :: .string (x1s 2) :: .string (x1s 3) :: .bool (x1b 2) :: .string (x1s 4) :: .string (x1s 5) :: .bool (x1b 3) :: .string (x1s 6) :: .string (x1s 7) :: .bool (x1b 4) :: .string (x1s 8) :: .string (x1s 9) :: .bool (x1b 5) :: .string (x1s 10) :: .string (x1s 11) :: .bool (x1b 6) :: .string (x1s 12) :: .string (x1s 13) :: .bool (x1b 7) :: .string (x1s 14) :: .string (x1s 15) :: .bool (x1b 8) :: .string (x1s 16) :: .string (x1s 17) :: .bool (x1b 9) :: .string (x1s 18) :: .string (x1s 19) :: .bool (x1b 10) :: .string (x1s 20) :: .string (x1s 21) :: .bool (x1b 11) :: .string (x1s 22) :: .string (x1s 23) :: []), xc (fromE x0), xc (fromE x1), zc (((fromE x0) 15) * ((fromE x1) 15)), xc (compE (fromE x0) (fromE x1)), mc (compM x0 x1)]) [] [.ga 0 36, .ga 36 36] 72 (.one (.ga 170 36)) [.call 48 [.ga 0 36] (.one (.ga 72 32)) [], .call 48 [.ga 36 36] (.one (.ga 104 32)) [], .call 59 [.ga 102 2, .ga 134 2] (.one (.ga 136 2)) [], .call 68 [.ga 136 2, .c (.fn 69 [.ptr 3 0, .ptr 4 0])] (.one (.ga 138 32)) (SX.number 3073 (SX.rg 72 32) ++ SX.number 4097 (SX.rg 104 32)), .call 49 [.ga 138 32] (.one (.ga 170 36)) []] Tryz.func20 (by kernel_rfl) rfl (by kernel_rfl) rfl (by kernel_rfl)
    ⟨fun γ w' bw _ => by have h := afFromMap hx0 (by decide) w' (hT.later bw); exact h,
     fun γ w' bw _ => by have h := afFromMap hx1 (by decide) w' (hT.later bw); exact h,
     fun γ w' _ _ => iMul (IsZ.can f3) (by decide) (IsZ.can f4) (by decide) w',
     fun γ w' bw hm => by
      have h := afFilled (g := 69) (cl := [.pointer (some ⟨γ 3, 0, none⟩), .pointer (some ⟨γ 4, 0, none⟩)]) (d := (fromE x0 15 * fromE x1 15)) (e := fun r c => sum4 fun k => fromE x0 (4 * r + k) * fromE x1 (4 * k + c)) (by kernel_rfl) w' (fun r c hr hc w2 hb2 => by have h2 := afComp_c hr hc f1 (by decide) f2 (by decide) w2 (γ 3) (γ 4) (SX.CellsAt.keep (mem_box (b := 3) (l := SX.rg 72 32) hm rfl (by kernel_rfl)) hb2) (SX.CellsAt.keep (mem_box (b := 4) (l := SX.rg 104 32) hm rfl (by kernel_rfl)) hb2); exact h2)
      exact h,
     fun γ w' bw _ => by have h := afToMap f6 (by decide) w' (hT.later bw); rw [over_rep (rep_comp (rep_from x0) (rep_from x1))] at h; exact h⟩
  exact H
set_option maxRecDepth 100000 in
theorem afDeterminant {ux0 : Value} {x0 : M3} {kx0 : Nat} (hx0 : IsM ux0 x0 kx0) (lx0 : kx0 ≤ 1000) (w : World) (hT : TabC w) :
    Calls Tryz.prog 18 #[ux0] w fun e w' => e = .returned (QV (detM x0)) ∧ Below w.heap.size w w' := by
  replace hx0 := hx0.up lx0
  have zx0 := hx0.sz (by decide)
  obtain ⟨x0b, x0s, rfl, wx00, wx01, wx02, wx03, wx04, wx05, wx06, wx07, wx08, wx09, wx010, wx011⟩ := id hx0
  have f1 : Xk (fromE x0) 13001 := Xk.up ((Xk.fromE zx0)) (by decide)
  have f2 : Zk ((fromE x0) 15) 13001 := Zk.up ((f1 15 (by decide))) (by decide)
  have f3 : Zk (((fromE x0) 15) * ((fromE x0) 15)) 26002 := Zk.up (mg_mul_size f2 f2) (by decide)
  have f4 : Zk (((fromE x0) 15) * (((fromE x0) 15) * ((fromE x0) 15))) 39003 := Zk.up (mg_mul_size f2 f3) (by decide)
  have f5 : Zk (detE (fromE x0)) 39007 := Zk.up ((Zk.detE f1)) (by decide)
  have f6 : Rk (detM x0) 15007 := Rk.up ((Rk.detM zx0)) (by decide)
  have H := SX.run (w := w) (List.flatten [(.bool (x0b 0) :: .string (x0s 0) :: .string (x0s 1) :: .bool (x0b 1) :: .string (x0s 2) :: .string (x0s 3) :: .bool (x0b 2) :: .string (x0s 4) :: .string (x0s 5) :: .bool (x0b 3) :: .string (x0s 6) :: .string (x0s 7) :: .bool (x0b 4) :: .string (x0s 8) :: .string (x0s 9) :: .bool (x0b 5) :: .string (x0s 10) :: .string (x0s 11) :: .bool (x0b 6) :: .string (x0s 12) :: .string (x0s 13) :: .bool (x0b 7) :: .string (x0s 14) :: .string (x0s 15) :: .bool (x0b 8) :: .string (x0s 16) :: .string (x0s 17) :: .bool (x0b 9) :: .string (x0s 18) :: .string (x0s 19) :: .bool (x0b 10) :: .string (x0s 20) :: .string (x0s 21) :: .bool (x0b 11) :: .string (x0s 22) :: .string (x0s 23) :: []), xc (fromE x0), zc (((fromE x0) 15) * ((fromE x0) 15)), zc (((fromE x0) 15) * (((fromE x0) 15) * ((fromE x0) 15))), zc (detE (fromE x0)), qc (detM x0), [.bool (decide ((((fromE x0) 15) * (((fromE x0) 15) * ((fromE x0) 15))) ≠ 0))]]) [] [.ga 0 36] 36 (.one (.ga 74 3)) [.call 48 [.ga 0 36] (.one (.ga 36 32)) [], .call 59 [.ga 66 2, .ga 66 2] (.one (.ga 68 2)) [], .call 59 [.ga 66 2, .ga 68 2] (.one (.ga 70 2)) [], .call 64 [.ga 36 32] (.one (.ga 72 2)) [], .call 63 [.ga 72 2, .ga 70 2] (.tup [.ga 74 3, .ca 77]) []] Tryz.func18 (by kernel_rfl) rfl (by kernel_rfl) rfl (by kernel_rfl)
    ⟨fun γ w' bw _ => by have h := afFromMap hx0 (by decide) w' (hT.later bw); exact h,
     fun γ w' _ _ => iMul (IsZ.can f2) (by decide) (IsZ.can f2) (by decide) w',
     fun γ w' _ _ => iMul (IsZ.can f2) (by decide) (IsZ.can f3) (by decide) w',
     fun γ w' _ _ => afDetE f1 (by decide) w',
     fun γ w' bw _ => by have h := qMake (IsZ.can f5) (by decide) (IsZ.can f4) (by decide) w' (hT.later bw); rw [det_over (rep_from x0)] at h; exact h⟩
  exact H
set_option maxRecDepth 100000 in
theorem afPoint {ux0 : Value} {x0 : M3} {kx0 : Nat} (hx0 : IsM ux0 x0 kx0) (lx0 : kx0 ≤ 1000) {x1 : P3} {kx1 : Nat} (zx1 : Pk x1 kx1) (lx1 : kx1 ≤ 10000) (w : World) (hT : TabC w) :
    Calls Tryz.prog 16 #[ux0, PV x1] w fun e w' => e = .returned (PV (vecM x0 x1)) ∧ Below w.heap.size w w' := by
  replace hx0 := hx0.up lx0
  have zx0 := hx0.sz (by decide)
  obtain ⟨x0b, x0s, rfl, wx00, wx01, wx02, wx03, wx04, wx05, wx06, wx07, wx08, wx09, wx010, wx011⟩ := id hx0
  replace zx1 := zx1.up lx1
  have f1 : Xk (fromE x0) 13001 := Xk.up ((Xk.fromE zx0)) (by decide)
  have f2 : Fk (can4 x1) 10000 := Fk.up (zx1) (by decide)
  have f3 : Fk (ptE (fromE x0) (can4 x1)) 23005 := Fk.up ((Fk.ptE f1 f2)) (by decide)
  have f4 : Pk (vecM x0 x1) 102009 := Pk.up ((Pk.vecM zx0 zx1)) (by decide)
  have H := SX.run (w := w) (List.flatten [(.bool (x0b 0) :: .string (x0s 0) :: .string (x0s 1) :: .bool (x0b 1) :: .string (x0s 2) :: .string (x0s 3) :: .bool (x0b 2) :: .string (x0s 4) :: .string (x0s 5) :: .bool (x0b 3) :: .string (x0s 6) :: .string (x0s 7) :: .bool (x0b 4) :: .string (x0s 8) :: .string (x0s 9) :: .bool (x0b 5) :: .string (x0s 10) :: .string (x0s 11) :: .bool (x0b 6) :: .string (x0s 12) :: .string (x0s 13) :: .bool (x0b 7) :: .string (x0s 14) :: .string (x0s 15) :: .bool (x0b 8) :: .string (x0s 16) :: .string (x0s 17) :: .bool (x0b 9) :: .string (x0s 18) :: .string (x0s 19) :: .bool (x0b 10) :: .string (x0s 20) :: .string (x0s 21) :: .bool (x0b 11) :: .string (x0s 22) :: .string (x0s 23) :: []), pc x1, xc (fromE x0), fc (can4 x1), fc (ptE (fromE x0) (can4 x1)), pc (vecM x0 x1)]) [] [.ga 0 36, .ga 36 8] 44 (.one (.ga 92 8)) [.call 48 [.ga 0 36] (.one (.ga 44 32)) [], .call 55 [.ga 36 8] (.one (.ga 76 8)) [], .call 56 [.c (.p (.lit (.int .i64 0))), .c (.p (.ptr 3 0)), .c (.p (.ptr 4 0))] (.one (.ga 84 2)) (SX.number 3073 (SX.rg 44 32) ++ SX.number 4097 (SX.rg 76 8)), .call 56 [.c (.p (.lit (.int .i64 1))), .c (.p (.ptr 3 0)), .c (.p (.ptr 4 0))] (.one (.ga 86 2)) (SX.number 3073 (SX.rg 44 32) ++ SX.number 4097 (SX.rg 76 8)), .call 56 [.c (.p (.lit (.int .i64 2))), .c (.p (.ptr 3 0)), .c (.p (.ptr 4 0))] (.one (.ga 88 2)) (SX.number 3073 (SX.rg 44 32) ++ SX.number 4097 (SX.rg 76 8)), .call 56 [.c (.p (.lit (.int .i64 3))), .c (.p (.ptr 3 0)), .c (.p (.ptr 4 0))] (.one (.ga 90 2)) (SX.number 3073 (SX.rg 44 32) ++ SX.number 4097 (SX.rg 76 8)), .call 60 [.ga 84 8] (.one (.ga 92 8)) []] Tryz.func16 (by kernel_rfl) rfl (by kernel_rfl) rfl (by kernel_rfl)
    ⟨fun γ w' bw _ => by have h := afFromMap hx0 (by decide) w' (hT.later bw); exact h,
     fun γ w' _ _ => afXy (sg (can4 x1).a) (mg (can4 x1).a) (sg (can4 x1).b) (mg (can4 x1).b) (sg (can4 x1).c) (mg (can4 x1).c) (sg (can4 x1).d) (mg (can4 x1).d) w',
     fun γ w' bw hm => by have h := afPt_c (r := 0) (by decide) f1 (by decide) f2 (by decide) w' (γ 3) (γ 4) (mem_box (b := 3) (l := SX.rg 44 32) hm rfl (by kernel_rfl)) (mem_box (b := 4) (l := SX.rg 76 8) hm rfl (by kernel_rfl)); exact h,
     fun γ w' bw hm => by have h := afPt_c (r := 1) (by decide) f1 (by decide) f2 (by decide) w' (γ 3) (γ 4) (mem_box (b := 3) (l := SX.rg 44 32) hm rfl (by kernel_rfl)) (mem_box (b := 4) (l := SX.rg 76 8) hm rfl (by kernel_rfl)); exact h,
     fun γ w' bw hm => by have h := afPt_c (r := 2) (by decide) f1 (by decide) f2 (by decide) w' (γ 3) (γ 4) (mem_box (b := 3) (l := SX.rg 44 32) hm rfl (by kernel_rfl)) (mem_box (b := 4) (l := SX.rg 76 8) hm rfl (by kernel_rfl)); exact h,
     fun γ w' bw hm => by have h := afPt_c (r := 3) (by decide) f1 (by decide) f2 (by decide) w' (γ 3) (γ 4) (mem_box (b := 3) (l := SX.rg 44 32) hm rfl (by kernel_rfl)) (mem_box (b := 4) (l := SX.rg 76 8) hm rfl (by kernel_rfl)); exact h,
     fun γ w' bw _ => by have h := pNormalize (IsF.pt (IsF.can f3)) (by decide) w' (hT.later bw); rw [pt_rep (rep_from x0) x1] at h; exact h⟩
  exact H
theorem afRot_21 (x1 : Int) (w : World) (hT : TabC w) (hn : (IntKind.wrap .i64 ((BitVec.ofInt 64 x1 &&& BitVec.ofInt 64 3).toNat : Int)) = 1) :
    Calls Tryz.prog 30 #[.int .i64 2, .int .i64 x1] w fun e w' => e = .returned (.tuple #[MV (rotM 2 1), .bool true]) ∧ Below w.heap.size w w' := by
  have f1 : Zk (1 : Int) 8 := mg_size_le (k := 8) (by first | decide | omega)
  have f2 : Zk (0 : Int) 8 := mg_size_le (k := 8) (by first | decide | omega)
  have f3 : Xk (matE (rotF 2 (1 : Int) (0 : Int)) 1) 1 := Xk.up ((Xk.rotE (a := 2) (t := 1) (by decide) (by decide))) (by decide)
  have f4 : Mk (rotM 2 1) 1 := Mk.up ((Mk.rot (a := 2) (n := 1) (by decide) (by decide))) (by decide)
  have H := SX.runX (w := w) (List.flatten [[.int .i64 x1, .int .i64 (IntKind.wrap .i64 ((BitVec.ofInt 64 x1 &&& BitVec.ofInt 64 3).toNat : Int))], zc (1 : Int), zc (1 : Int), [.int .i64 2, .int .i64 2, .bool (sg (0 : Int)), .string (mg (0 : Int))], xc (matE (rotF 2 (1 : Int) (0 : Int)) 1), mc (rotM 2 1)]) [] [] [.c (.p (.lit (.int .i64 (2)))), .c (.p (.at 0))] 1 [.ix 1, .ix 2] (.tup [.ga 42 36, .c (.p (.lit (.bool true)))]) [.prim (.binOp .and 3 (.tmp 21) (.const (.int .i64 3)) 3) 3 [(21, .one (.ca 0))] (.one (.ca 1)), .call 89 [.c (.p (.lit (.int .i64 1)))] (.one (.ga 2 2)) [], .isI 1 1, .call 89 [.c (.p (.lit (.int .i64 1)))] (.one (.ga 4 2)) [], .op2 false .add (.pa 1) (.p (.lit (.int .i64 1))) 6, .op2 false .rem (.pa 6) (.p (.lit (.int .i64 4))) 7, .isI 7 2, .call 89 [.c (.p (.lit (.int .i64 0)))] (.one (.ga 8 2)) [], .call 68 [.ga 2 2, .c (.fn 90 [.ptr 6 0, .ptr 7 0, .ptr 4 0, .ptr 0 0, .ptr 3 0, .ptr 5 0])] (.one (.ga 10 32)) ([(6145, .p (.lit (.int .i64 0)))] ++ [(7169, .p (.lit (.int .i64 1)))] ++ SX.number 4097 (SX.rg 4 2) ++ [(1, .p (.lit (.int .i64 2)))] ++ SX.number 3073 (SX.rg 2 2) ++ SX.number 5121 (SX.rg 8 2)), .call 49 [.ga 10 32] (.one (.ga 42 36)) []] ⟨rfl, fun b t l h => by simp at h⟩ Tryz.func30 (by kernel_rfl) rfl rfl (by kernel_rfl)
    ⟨fun w _ => rfl,
     fun γ w' _ _ => FromInt64_any 1 w' (by first | decide | omega) (by first | decide | omega),
     congrArg (Value.int .i64) (hn),
     fun γ w' _ _ => FromInt64_any 1 w' (by first | decide | omega) (by first | decide | omega),
     congrArg (fun z => some (Value.int .i64 z)) (by rw [hn]; rfl : IntKind.wrap .i64 ((IntKind.wrap .i64 ((BitVec.ofInt 64 x1 &&& BitVec.ofInt 64 3).toNat : Int)) + (1 : Int)) = 2),
     rfl,
     rfl,
     fun γ w' _ _ => FromInt64_any 0 w' (by first | decide | omega) (by first | decide | omega),
     fun γ w' bw hm => by
      have h := afFilled (g := 90) (cl := [.pointer (some ⟨γ 6, 0, none⟩), .pointer (some ⟨γ 7, 0, none⟩), .pointer (some ⟨γ 4, 0, none⟩), .pointer (some ⟨γ 0, 0, none⟩), .pointer (some ⟨γ 3, 0, none⟩), .pointer (some ⟨γ 5, 0, none⟩)]) (d := 1) (e := rotF 2 (1 : Int) (0 : Int)) (by kernel_rfl) w' (fun r c hr hc w2 hb2 => by have h2 := afRot_c (a := 2) (sn := (1 : Int)) (cs := (0 : Int)) (by decide) hr hc (mg_size_le (k := 8) (by decide) : Zk (1 : Int) 8) w2 (γ 6) (γ 7) (γ 4) (γ 0) (γ 3) (γ 5) (SX.CellsAt.keep (mem_box (b := 6) (l := [.p (.lit (.int .i64 0))]) hm rfl (by kernel_rfl)) hb2) (SX.CellsAt.keep (mem_box (b := 7) (l := [.p (.lit (.int .i64 1))]) hm rfl (by kernel_rfl)) hb2) (SX.CellsAt.keep (mem_box (b := 4) (l := [.p (.at 4), .p (.at 5)]) hm rfl (by kernel_rfl)) hb2) (SX.CellsAt.keep (mem_box (b := 0) (l := [.p (.lit (.int .i64 2))]) hm rfl (by kernel_rfl)) hb2) (SX.CellsAt.keep (mem_box (b := 3) (l := [.p (.at 2), .p (.at 3)]) hm rfl (by kernel_rfl)) hb2) (SX.CellsAt.keep (mem_box (b := 5) (l := [.p (.at 8), .p (.at 9)]) hm rfl (by kernel_rfl)) hb2); exact h2)
      exact h,
     fun γ w' bw _ => by have h := afToMap f3 (by decide) w' (hT.later bw); rw [show overE (matE (rotF 2 (1 : Int) (0 : Int)) 1) = rotM 2 1 from by decide +kernel] at h; exact h⟩
  exact H
end Go.Proofs.YtodcomijjmobdaaGreatDoor
