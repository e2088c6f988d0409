/- The walk of voussoirlaw02.IntegerGcd. -/
import Derived.Test.YtmfinfnjamgboaaDoorOwnZ
import Derived.Test.YtmfinfnjamgboaaDoorFixed
import Derived.Deep.RegionHeld3
namespace Go.Proofs.YtmfinfnjamgboaaDoor
open Go.RowKit NM

theorem row_Z : (Tryd.prog.info? 23).map (fun i => (i.zero, i.size, i.bytes)) = some (some (I2 false ⟨#[]⟩), 2, 24) := by kernel_rfl
/-- The quotients of a list of integers by a number. -/
def quos (G : Nat) (L : List (Bool × ByteArray)) : List Int := L.map fun x => iv x.1 x.2 / (G : Int)
theorem quos_take {G : Nat} {L : List (Bool × ByteArray)} {k : Nat} (h : k < L.length) : (quos G L).take (k + 1) = (quos G L).take k ++ [iv (L[k]).1 (L[k]).2 / (G : Int)] := by
  unfold quos
  rw [List.take_succ_eq_append_getElem (by rw [List.length_map]; exact h), List.getElem_map]
theorem Blk.new3 (w : World) (o o' o'' : Obj) (cs : Array Value) (E : TypeId) : Blk ((((w.alloc o).alloc o').alloc o'').alloc (.cells cs E)) (w.heap.size + 1 + 1 + 1) E cs.toList := by
  have h := Blk.new (((w.alloc o).alloc o').alloc o'') cs E
  simpa using h

set_option maxRecDepth 100000 in
set_option maxHeartbeats 8000000 in
theorem gcd_zero (n m k : Bool) (s t u : ByteArray) (G : Nat) (w : World) (h1 : s.size ≤ 20) (h2 : t.size ≤ 20) (h3 : u.size ≤ 20) (HT : Hid (TabC w ∧ 0 < w.heap.size)) (HG : Hid (gcdL [(n, s), (m, t), (k, u)] = G)) (HG4 : Hid (gcdL [(k, u), (n, s), (m, t), (n, s)] = G)) (hgs : (mg (G : Int)).size ≤ 20) (HGs : Hid (cmpZ (G : Int) 0 = 0)) (z1 : Hid (cmpZ (iv n s) 0 = 0)) (z2 : Hid (cmpZ (iv m t) 0 = 0)) (z3 : Hid (cmpZ (iv k u) 0 = 0)) :
    Calls Tryd.prog 4 #[I2 n s, I2 m t, I2 k u] w fun e w' => e = .returned (.bool true) ∧ Below w.heap.size w w' := by
  have hR := Hold.start3 w 23 (.bool n) (.string s) (.bool m) (.string t) (.bool k) (.string u)
  have hz3 := hR.below.size
  have HL : ∀ x ∈ [(n, s), (m, t), (k, u)], x.2.size ≤ 134217728 := by
    intro x hx
    simp only [List.mem_cons, List.not_mem_nil, or_false] at hx
    rcases hx with rfl | rfl | rfl <;> simp <;> omega
  have HL4 : ∀ x ∈ [(k, u), (n, s), (m, t), (n, s)], x.2.size ≤ 134217728 := by
    intro x hx
    simp only [List.mem_cons, List.not_mem_nil, or_false] at hx
    rcases hx with rfl | rfl | rfl | rfl <;> simp <;> omega
  replace HL := Lib.hid HL
  replace HL4 := Lib.hid HL4
  go_enter Tryd.func4, Tryd.ntmps4
  go_wp2_with fail
  replace hR := hR.alloc (.cells #[.bool n, .string s, .bool m, .string t, .bool k, .string u] 23)
  have hB := Blk.new3 w (.cells #[.bool n, .string s] 23) (.cells #[.bool m, .string t] 23) (.cells #[.bool k, .string u] 23) #[.bool n, .string s, .bool m, .string t, .bool k, .string u] 23
  refine (GcdZ_any _ [(n, s), (m, t), (k, u)] 3 _ _ rfl (by simp) HL.out (RdZ.blk (post := []) hB) (HT.out.1.below hR.below HT.out.2)).mono ?_
  rw [HG.out]
  rintro e w1 ⟨rfl, hb1⟩
  replace hR := (hR.keep hb1).box (.bool (sg (G : Int))) (.string (mg (G : Int)))
  clear hb1 hB
  go_wp2_with fail
  generalize w1.alloc (Obj.cells #[Value.bool (sg (G : Int)), Value.string (mg (G : Int))] 23) = W at hR ⊢
  go_region_held3 (fun w' => w'.cell? ⟨w.heap.size, 0, none⟩ = some (.bool n) ∧ w'.cell? ⟨w.heap.size, 1, none⟩ = some (.string s) ∧ w'.cell? ⟨w.heap.size + 1, 0, none⟩ = some (.bool m) ∧ w'.cell? ⟨w.heap.size + 1, 1, none⟩ = some (.string t) ∧ w'.cell? ⟨w.heap.size + 1 + 1, 0, none⟩ = some (.bool k) ∧ w'.cell? ⟨w.heap.size + 1 + 1, 1, none⟩ = some (.string u) ∧ w'.cell? ⟨w1.heap.size, 0, none⟩ = some (.bool (sg (G : Int))) ∧ w'.cell? ⟨w1.heap.size, 1, none⟩ = some (.string (mg (G : Int))) ∧ Hold 23 w [(w1.heap.size, .bool (sg (G : Int)), .string (mg (G : Int))), (w.heap.size + 1 + 1, .bool k, .string u), (w.heap.size + 1, .bool m, .string t), (w.heap.size, .bool n, .string s)] w')
    (first | exact hRn.all4 | exact hR.drew.all4 | exact (Hold.alloc (And.right (And.right (And.right (And.right (And.right (And.right (And.right (And.right (by assumption))))))))) _).all4)
    (first
      | (go_at_call 13; (with_reducible refine (GcdZ_any _ [(k, u), (n, s), (m, t), (n, s)] 4 _ _ rfl ?_ ?_ ?_ ?_).mono ?_); (show 4 ≤ 1000000; omega); exact HL4.out; exact RdZ.blk (post := []) (Blk.new _ #[.bool k, .string u, .bool n, .string s, .bool m, .string t, .bool n, .string s] 23); exact HT.out.1.below (Hold.below (And.right (And.right (And.right (And.right (And.right (And.right (And.right (And.right (by assumption)))))))))) HT.out.2; rw [HG4.out]; rintro e wn ⟨rfl, hbn⟩; (try clear hRn); have hRn := Hold.keep (And.right (And.right (And.right (And.right (And.right (And.right (And.right (And.right (by assumption))))))))) hbn; clear hbn)
      | (go_at_call 15; refine (Sign2_any _ _ _ ?_).mono ?_; (simp [maxLen]; omega); rw [iv_Z, HGs.out]; rintro e wn ⟨rfl, hbn⟩; (try clear hRn); have hRn := Hold.keep (And.right (And.right (And.right (And.right (And.right (And.right (And.right (And.right (by assumption))))))))) hbn; clear hbn))
  clear hR
  have hR := hRn
  clear hRn
  obtain ⟨a1, a2, a3, a4, a5, a6, a7, a8, -⟩ := hR.all4
  go_wp2_with fail
  refine (Sign2_any _ _ _ (by simp [maxLen]; omega)).mono ?_
  rw [iv_Z, HGs.out]
  rintro e w4 ⟨rfl, hb4⟩
  replace hR := hR.keep hb4
  clear hb4 a1 a2 a3 a4 a5 a6 a7 a8
  obtain ⟨a1, a2, a3, a4, a5, a6, a7, a8, -⟩ := hR.all4
  go_wp2_with fail
  refine (fixed_any _).mono ?_
  rintro e w5 ⟨rfl, hb5⟩
  replace hR := hR.keep hb5
  clear hb5 a1 a2 a3 a4 a5 a6 a7 a8
  obtain ⟨a1, a2, a3, a4, a5, a6, a7, a8, -⟩ := hR.all4
  go_wp2_with fail
  refine (Sign2_any n s _ (by simp [maxLen]; omega)).mono ?_
  rw [z1.out]
  rintro e w6 ⟨rfl, hb6⟩
  replace hR := hR.keep hb6
  clear hb6 a1 a2 a3 a4 a5 a6 a7 a8
  obtain ⟨a1, a2, a3, a4, a5, a6, a7, a8, -⟩ := hR.all4
  go_wp2_with fail
  refine (Sign2_any m t _ (by simp [maxLen]; omega)).mono ?_
  rw [z2.out]
  rintro e w7 ⟨rfl, hb7⟩
  replace hR := hR.keep hb7
  clear hb7 a1 a2 a3 a4 a5 a6 a7 a8
  obtain ⟨a1, a2, a3, a4, a5, a6, a7, a8, -⟩ := hR.all4
  go_wp2_with fail
  refine (Sign2_any k u _ (by simp [maxLen]; omega)).mono ?_
  rw [z3.out]
  rintro e w8 ⟨rfl, hb8⟩
  replace hR := hR.keep hb8
  clear hb8 a1 a2 a3 a4 a5 a6 a7 a8
  obtain ⟨a1, a2, a3, a4, a5, a6, a7, a8, -⟩ := hR.all4
  go_wp2_with fail
  go_ret
  exact ⟨rfl, hR.below⟩

set_option maxRecDepth 100000 in
set_option maxHeartbeats 8000000 in
theorem gcd_pos (n m k : Bool) (s t u : ByteArray) (G : Nat) (w : World) (h1 : s.size ≤ 20) (h2 : t.size ≤ 20) (h3 : u.size ≤ 20) (HT : Hid (TabC w ∧ 0 < w.heap.size)) (HG : Hid (gcdL [(n, s), (m, t), (k, u)] = G)) (HG4 : Hid (gcdL [(k, u), (n, s), (m, t), (n, s)] = G)) (hgs : (mg (G : Int)).size ≤ 20) (hG0 : G ≠ 0) (HGs : Hid (cmpZ (G : Int) 0 = 1)) (hdv : G ∣ nat s ∧ G ∣ nat t ∧ G ∣ nat u) :
    Calls Tryd.prog 4 #[I2 n s, I2 m t, I2 k u] w fun e w' => e = .returned (.bool true) ∧ Below w.heap.size w w' := by
  have HD := Lib.hid hdv
  have HG0 := Lib.hid hG0
  clear hdv hG0
  have hR := Hold.start3 w 23 (.bool n) (.string s) (.bool m) (.string t) (.bool k) (.string u)
  have hz3 := hR.below.size
  have HL : ∀ x ∈ [(n, s), (m, t), (k, u)], x.2.size ≤ 134217728 := by
    intro x hx
    simp only [List.mem_cons, List.not_mem_nil, or_false] at hx
    rcases hx with rfl | rfl | rfl <;> simp <;> omega
  have HL4 : ∀ x ∈ [(k, u), (n, s), (m, t), (n, s)], x.2.size ≤ 134217728 := by
    intro x hx
    simp only [List.mem_cons, List.not_mem_nil, or_false] at hx
    rcases hx with rfl | rfl | rfl | rfl <;> simp <;> omega
  replace HL := Lib.hid HL
  replace HL4 := Lib.hid HL4
  go_enter Tryd.func4, Tryd.ntmps4
  go_wp2_with fail
  replace hR := hR.alloc (.cells #[.bool n, .string s, .bool m, .string t, .bool k, .string u] 23)
  have hB := Blk.new3 w (.cells #[.bool n, .string s] 23) (.cells #[.bool m, .string t] 23) (.cells #[.bool k, .string u] 23) #[.bool n, .string s, .bool m, .string t, .bool k, .string u] 23
  refine (GcdZ_any _ [(n, s), (m, t), (k, u)] 3 _ _ rfl (by simp) HL.out (RdZ.blk (post := []) hB) (HT.out.1.below hR.below HT.out.2)).mono ?_
  rw [HG.out]
  rintro e w1 ⟨rfl, hb1⟩
  replace hR := (hR.keep hb1).box (.bool (sg (G : Int))) (.string (mg (G : Int)))
  clear hb1 hB
  go_wp2_with fail
  generalize w1.alloc (Obj.cells #[Value.bool (sg (G : Int)), Value.string (mg (G : Int))] 23) = W at hR ⊢
  go_region_held3 (fun w' => w'.cell? ⟨w.heap.size, 0, none⟩ = some (.bool n) ∧ w'.cell? ⟨w.heap.size, 1, none⟩ = some (.string s) ∧ w'.cell? ⟨w.heap.size + 1, 0, none⟩ = some (.bool m) ∧ w'.cell? ⟨w.heap.size + 1, 1, none⟩ = some (.string t) ∧ w'.cell? ⟨w.heap.size + 1 + 1, 0, none⟩ = some (.bool k) ∧ w'.cell? ⟨w.heap.size + 1 + 1, 1, none⟩ = some (.string u) ∧ w'.cell? ⟨w1.heap.size, 0, none⟩ = some (.bool (sg (G : Int))) ∧ w'.cell? ⟨w1.heap.size, 1, none⟩ = some (.string (mg (G : Int))) ∧ Hold 23 w [(w1.heap.size, .bool (sg (G : Int)), .string (mg (G : Int))), (w.heap.size + 1 + 1, .bool k, .string u), (w.heap.size + 1, .bool m, .string t), (w.heap.size, .bool n, .string s)] w')
    (first | exact hRn.all4 | exact hR.drew.all4 | exact (Hold.alloc (And.right (And.right (And.right (And.right (And.right (And.right (And.right (And.right (by assumption))))))))) _).all4)
    (first
      | (go_at_call 13; (with_reducible refine (GcdZ_any _ [(k, u), (n, s), (m, t), (n, s)] 4 _ _ rfl ?_ ?_ ?_ ?_).mono ?_); (show 4 ≤ 1000000; omega); exact HL4.out; exact RdZ.blk (post := []) (Blk.new _ #[.bool k, .string u, .bool n, .string s, .bool m, .string t, .bool n, .string s] 23); exact HT.out.1.below (Hold.below (And.right (And.right (And.right (And.right (And.right (And.right (And.right (And.right (by assumption)))))))))) HT.out.2; rw [HG4.out]; rintro e wn ⟨rfl, hbn⟩; (try clear hRn); have hRn := Hold.keep (And.right (And.right (And.right (And.right (And.right (And.right (And.right (And.right (by assumption))))))))) hbn; clear hbn)
      | (go_at_call 15; refine (Sign2_any _ _ _ ?_).mono ?_; (simp [maxLen]; omega); rw [iv_Z, HGs.out]; rintro e wn ⟨rfl, hbn⟩; (try clear hRn); have hRn := Hold.keep (And.right (And.right (And.right (And.right (And.right (And.right (And.right (And.right (by assumption))))))))) hbn; clear hbn))
  clear hR
  have hR := hRn
  clear hRn
  obtain ⟨a1, a2, a3, a4, a5, a6, a7, a8, -⟩ := hR.all4
  go_wp2_with fail
  refine (Sign2_any _ _ _ (by simp [maxLen]; omega)).mono ?_
  rw [iv_Z, HGs.out]
  rintro e w4 ⟨rfl, hb4⟩
  replace hR := hR.keep hb4
  clear hb4 a1 a2 a3 a4 a5 a6 a7 a8
  obtain ⟨a1, a2, a3, a4, a5, a6, a7, a8, -⟩ := hR.all4
  go_wp2_with fail
  replace hR := hR.alloc (.cells #[.bool n, .string s, .bool m, .string t, .bool k, .string u] 23)
  have hB9 := Blk.new w4 #[.bool n, .string s, .bool m, .string t, .bool k, .string u] 23
  clear a1 a2 a3 a4 a5 a6 a7 a8
  generalize w4.alloc (Obj.cells #[.bool n, .string s, .bool m, .string t, .bool k, .string u] 23) = W9 at hR hB9 ⊢
  have HRD := Lib.hid (RdZ.blk (L := [(n, s), (m, t), (k, u)]) (post := []) hB9)
  clear hB9
  go_loopw [8, 73] (fun l i wr => ∃ kk : Nat, kk ≤ 3 ∧ i = .int .i64 kk ∧ OwnZ wr W9.heap.size 23 l ((quos G [(n, s), (m, t), (k, u)]).take kk) ∧ Below W9.heap.size W9 wr) (fun _ i _ => 3 - (intOf i).toNat)
  case atStart => exact ⟨0, by omega, rfl, OwnZ.nil _ _ _, Below.refl _ _⟩
  case round =>
    obtain ⟨kk, hk, rfl, hown, hb⟩ := hrel
    by_cases hlt : kk < 3
    · obtain ⟨g, hA, c1, c2, hgl⟩ := HRD.out kk hlt
      injection hA with hA
      injection hA with hA
      subst hA
      have d1 := (hb.cell (p := ⟨w4.heap.size, kk * 2, none⟩) hgl).trans c1
      have d2 := (hb.cell (p := ⟨w4.heap.size, kk * 2 + 1, none⟩) hgl).trans c2
      have hmem : [(n, s), (m, t), (k, u)][kk] ∈ [(n, s), (m, t), (k, u)] := List.getElem_mem hlt
      have hx : [(n, s), (m, t), (k, u)][kk].2.size ≤ 20 ∧ G ∣ nat [(n, s), (m, t), (k, u)][kk].2 := by
        have hall : ∀ x ∈ [(n, s), (m, t), (k, u)], x.2.size ≤ 20 ∧ G ∣ nat x.2 := by
          intro x hx
          simp only [List.mem_cons, List.not_mem_nil, or_false] at hx
          rcases hx with rfl | rfl | rfl
          · exact ⟨h1, HD.out.1⟩
          · exact ⟨h2, HD.out.2.1⟩
          · exact ⟨h3, HD.out.2.2⟩
        exact hall _ hmem
      have Hq := Lib.hid (quos_take (G := G) (L := [(n, s), (m, t), (k, u)]) hlt)
      clear c1 c2 hmem
      generalize [(n, s), (m, t), (k, u)][kk] = x at d1 d2 hx Hq
      obtain ⟨hxs, hxd⟩ := hx
      have HDV := Lib.hid (divZ_dvd HG0.out hxd)
      have hqs := quo_size hxd hxs
      clear hxd
      obtain ⟨q, hq⟩ : ∃ q, iv x.1 x.2 / (G : Int) = q := ⟨_, rfl⟩
      rw [hq] at HDV hqs Hq
      clear hq
      have hRr := (hR.keep hb).box (.bool x.1) (.string x.2)
      obtain ⟨a1, a2, a3, a4, a5, a6, a7, a8, a9, a10, -⟩ := hRr.all5
      have hll : ((quos G [(n, s), (m, t), (k, u)]).take kk).length ≤ 1000000 := by rw [List.length_take]; omega
      have hbs := hb.size
      go_wp2_with fail
      refine (Div2_any _ _ _ _ _ (by omega) (by omega)).mono ?_
      rw [iv_Z, HDV.out]
      rintro e w5 ⟨rfl, hb5⟩
      replace hown := (hown.alloc _).below hb5
      replace hb := then_ (then_ hb (below_alloc _ _)) hb5
      clear hb5 a1 a2 a3 a4 a5 a6 a7 a8 a9 a10 hRr d1 d2 hbs
      go_wp2_with fail
      refine (Sign2_any _ _ _ (Nat.zero_le _)).mono ?_
      rw [iv_Z, show cmpZ 0 0 = 0 from rfl]
      rintro e w6 ⟨rfl, hb6⟩
      have hqb := ((Blk.new w5 #[.bool (sg q), .string (mg q)] 23).alloc _).keep hb6
      obtain ⟨y1, y2, -, -⟩ := hqb.two
      replace hown := ((hown.alloc _).alloc _).below hb6
      replace hb := then_ hb (bel2 _ _ _ hb6)
      have hbs := hb.size
      clear hb6
      go_wp2_with (at_builtin; refine wpList_pushZ _ rfl _ _ 33 rfl W9.heap.size 23 24 Tryd.underlying33 row_Z _ ((quos G [(n, s), (m, t), (k, u)]).take kk) rfl (hown.alloc _) _ 1 rfl q (Blk.new _ _ _) hll (by omega) (by simp; omega) ?_; intro v2 w7 hown2 hb7)
      exact ⟨⟨kk + 1, by omega, by go_num, by rw [Hq.out]; exact hown2, (hb.alloc hbs _).trans hb7⟩, by simp [intOf]; omega⟩
    · obtain rfl : kk = 3 := by omega
      have hown' : OwnZ wr W9.heap.size 23 _ (quos G [(n, s), (m, t), (k, u)]) := hown
      obtain ⟨A, c, hl, hrd⟩ := hown'.read
      have hl' : _ = Value.slice A 3 c := hl
      subst hl'
      have hLQ : ∀ x ∈ (quos G [(n, s), (m, t), (k, u)]).map (fun z => (sg z, mg z)), x.2.size ≤ 134217728 := by
        intro x hx
        simp only [quos, List.map_cons, List.map_nil, List.mem_cons, List.not_mem_nil, or_false] at hx
        have q1 := quo_size (x := (n, s)) (G := G) HD.out.1 h1
        have q2 := quo_size (x := (m, t)) (G := G) HD.out.2.1 h2
        have q3 := quo_size (x := (k, u)) (G := G) HD.out.2.2 h3
        rcases hx with rfl | rfl | rfl <;> simp at q1 q2 q3 ⊢ <;> omega
      have hG1 : ((gcdL ((quos G [(n, s), (m, t), (k, u)]).map fun z => (sg z, mg z)) : Nat) : Int) = 1 := by
        have e : gcdL ((quos G [(n, s), (m, t), (k, u)]).map fun z => (sg z, mg z)) = 1 := by
          show Nat.gcd (Nat.gcd (Nat.gcd 0 (nat (mg (iv n s / (G : Int))))) (nat (mg (iv m t / (G : Int))))) (nat (mg (iv k u / (G : Int)))) = 1
          rw [quo_abs (x := (n, s)) HD.out.1, quo_abs (x := (m, t)) HD.out.2.1, quo_abs (x := (k, u)) HD.out.2.2]
          exact gcd3_div HG.out HG0.out
        rw [e]; rfl
      replace hLQ := Lib.hid hLQ
      have HG1 := Lib.hid hG1
      clear hG1 hown hown' hl
      replace hR := hR.keep hb
      clear hb
      go_wp2_with fail
      refine (fixed_any _).mono ?_
      rintro e w7 ⟨rfl, hb7⟩
      replace hR := hR.keep hb7
      replace hrd := hrd.keep hb7
      clear hb7
      go_wp2_with fail
      refine (GcdZ_any A ((quos G [(n, s), (m, t), (k, u)]).map fun z => (sg z, mg z)) 3 c _ rfl (by show 3 ≤ 1000000; omega) hLQ.out hrd (HT.out.1.below hR.below HT.out.2)).mono ?_
      rw [HG1.out]
      rintro e w8 ⟨rfl, hb8⟩
      replace hR := hR.keep hb8
      clear hb8 hrd
      go_wp2_with fail
      refine (FromInt64_any 1 _ (by omega) (by omega)).mono ?_
      rintro e w9 ⟨rfl, hb9⟩
      replace hR := hR.keep hb9
      go_wp2_with fail
      go_ret
      exact ⟨rfl, hR.below⟩

theorem IntegerGcd_any (n m k : Bool) (s t u : ByteArray) (w : World) (hT0 : Tab w) (hs : s.size ≤ maxLen) (ht : t.size ≤ maxLen) (hu : u.size ≤ maxLen) :
    Calls Tryd.prog 4 #[I2 n s, I2 m t, I2 k u] w fun e w' => e = .returned (.bool true) ∧ Below w.heap.size w w' := by
  have hR := Hold.start3 w 23 (.bool n) (.string s) (.bool m) (.string t) (.bool k) (.string u)
  have hT := hT0.cells
  have HT := Lib.hid (And.intro hT hT.lt)
  clear hT hT0
  unfold maxLen at hs ht hu
  rcases (show 20 < s.size ∨ (s.size ≤ 20 ∧ 20 < t.size) ∨ (s.size ≤ 20 ∧ t.size ≤ 20 ∧ 20 < u.size) ∨ (s.size ≤ 20 ∧ t.size ≤ 20 ∧ u.size ≤ 20) by omega) with h1 | ⟨h1, h2⟩ | ⟨h1, h2, h3⟩ | ⟨h1, h2, h3⟩
  ·
    go_enter Tryd.func4, Tryd.ntmps4
    go_wp2_with fail
    refine (fixed_any _).mono ?_
    rintro e w2 ⟨rfl, hb2⟩
    replace hR := hR.keep hb2
    go_wp2_with fail
    go_ret
    exact ⟨rfl, hR.below⟩
  ·
    go_enter Tryd.func4, Tryd.ntmps4
    go_wp2_with fail
    refine (fixed_any _).mono ?_
    rintro e w2 ⟨rfl, hb2⟩
    replace hR := hR.keep hb2
    go_wp2_with fail
    go_ret
    exact ⟨rfl, hR.below⟩
  ·
    go_enter Tryd.func4, Tryd.ntmps4
    go_wp2_with fail
    refine (fixed_any _).mono ?_
    rintro e w2 ⟨rfl, hb2⟩
    replace hR := hR.keep hb2
    go_wp2_with fail
    go_ret
    exact ⟨rfl, hR.below⟩
  · clear hR hs ht hu
    have hg : gcdL [(n, s), (m, t), (k, u)] = Nat.gcd (Nat.gcd (Nat.gcd 0 (nat s)) (nat t)) (nat u) := rfl
    have hg4 : gcdL [(k, u), (n, s), (m, t), (n, s)] = gcdL [(n, s), (m, t), (k, u)] := gcd4_perm (nat s) (nat t) (nat u)
    have hsz : (mg ((gcdL [(n, s), (m, t), (k, u)] : Nat) : Int)).size ≤ 20 := gcdL_size (k := 20) (by
      intro x hx
      simp only [List.mem_cons, List.not_mem_nil, or_false] at hx
      rcases hx with rfl | rfl | rfl <;> simp <;> omega)
    have hdv := gcd3_dvd hg.symm
    by_cases h0 : gcdL [(n, s), (m, t), (k, u)] = 0
    · rw [h0] at hdv
      have z : ∀ (b : Bool) (a : ByteArray), 0 ∣ nat a → cmpZ (iv b a) 0 = 0 := fun b a h => cmpZ_eq (iv_zero.2 (Nat.eq_zero_of_zero_dvd h))
      exact gcd_zero n m k s t u _ w h1 h2 h3 HT rfl hg4 hsz (cmpZ_eq (by rw [h0]; rfl)) (z n s hdv.1) (z m t hdv.2.1) (z k u hdv.2.2)
    · exact gcd_pos n m k s t u _ w h1 h2 h3 HT rfl hg4 hsz h0 (cmpZ_gt (by omega)) hdv
end Go.Proofs.YtmfinfnjamgboaaDoor
