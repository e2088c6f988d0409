/- voussoirref05.Parse: a loop that appends, a loop over four pieces: by a walk. -/
import Derived.Test.YtpmfaommooneiaaGreatDoorVw
import Derived.Test.YtpmfaommooneiaaGreatDoorVr
import Derived.Test.YtpmfaommooneiaaGreatDoorPf
import Derived.Test.YtpmfaommooneiaaGreatDoorPy
import Derived.Test.YtpmfaommooneiaaGreatDoorRefParseZ
set_option linter.unusedVariables false
set_option linter.unusedSimpArgs false
namespace Go.Proofs.YtpmfaommooneiaaGreatDoor
open Go.RowKit NM

theorem pcs_len : ∀ u : List UInt8, pcs u ≠ [] ∧ (pcs u).length ≤ u.length + 1
  | [] => ⟨by simp [pcs], by simp [pcs]⟩
  | c :: r => by
    have ih := pcs_len r
    unfold pcs
    split
    · exact ⟨by simp, by simp; exact ih.2⟩
    · split
      · rename_i h t e
        rw [e] at ih
        exact ⟨by simp, by simp at ih ⊢; omega⟩
      · exact ⟨by simp, by simp⟩
theorem ext_snoc {s : ByteArray} {i k : Nat} (hi : i ≤ k) (hk : k < s.size) : (s.extract i (k + 1)).data.toList = (s.extract i k).data.toList ++ [s[k]] := by
  have hl := size_list s
  have hk' : k < s.data.toList.length := by omega
  have e : s.data.toList[k] = s[k] := by simp; rfl
  rw [Lib.extract_data, Lib.extract_data, ← e, show k + 1 - i = (k - i) + 1 by omega, List.take_add_one, List.getElem?_drop, show i + (k - i) = k by omega, List.getElem?_eq_getElem hk']
  rfl
/-- How far the scan is: the pieces so far, and where the next one begins. -/
def Scan (s : ByteArray) (k f : Nat) (L : List ByteArray) : Prop :=
  (k < s.size ∧ 1 ≤ f ∧ f ≤ k ∧ pcs (s.extract 1 k).data.toList = L.map (fun x => x.data.toList) ++ [(s.extract f k).data.toList]) ∨ (k = s.size ∧ L = pcsB s 1 (s.size - 1))
theorem Scan.start {s : ByteArray} (h : 2 ≤ s.size) : Scan s 1 1 [] := by
  refine .inl ⟨by omega, by omega, by omega, ?_⟩
  rw [Lib.extract_data, Nat.sub_self, List.take_zero]
  rfl
theorem mk_list (L : List ByteArray) : (L.map (fun x => x.data.toList)).map (fun l => (⟨l.toArray⟩ : ByteArray)) = L := by
  rw [List.map_map]
  conv => rhs; rw [← List.map_id L]
  apply List.map_congr_left
  intro x _
  exact ByteArray.ext (by simp)
theorem Scan.cut {s : ByteArray} {k f : Nat} {L : List ByteArray} (h : Scan s k f L) (h1 : 1 ≤ k) (hk : k < s.size) (hc : s[k] = 32 ∨ k + 1 = s.size) : Scan s (k + 1) (k + 1) (L ++ [s.extract f k]) := by
  rcases h with ⟨_, h2, h3, h4⟩ | ⟨h, _⟩
  rotate_left
  · omega
  by_cases hl : k + 1 = s.size
  · refine .inr ⟨hl, ?_⟩
    rw [← hl, Nat.add_sub_cancel]
    unfold pcsB
    rw [h4, ← mk_list (L ++ [s.extract f k]), List.map_append (l₁ := L)]
    rfl
  · refine .inl ⟨by omega, by omega, Nat.le_refl _, ?_⟩
    have e := pcs_snoc h4 s[k]
    rw [if_pos (hc.resolve_right hl)] at e
    rw [ext_snoc h1 hk, e, List.map_append, Lib.extract_data (a := k + 1), Nat.sub_self, List.take_zero]
    rfl
theorem Scan.go {s : ByteArray} {k f : Nat} {L : List ByteArray} (h : Scan s k f L) (h1 : 1 ≤ k) (hk : k < s.size) (hl : k + 1 ≠ s.size) (hc : s[k] ≠ 32) : Scan s (k + 1) f L := by
  rcases h with ⟨_, h2, h3, h4⟩ | ⟨h, _⟩
  rotate_left
  · omega
  refine .inl ⟨by omega, h2, by omega, ?_⟩
  have e := pcs_snoc h4 s[k]
  rw [if_neg hc] at e
  rw [ext_snoc h1 hk, e, ext_snoc h3 hk]
theorem Scan.fin {s : ByteArray} {f : Nat} {L : List ByteArray} (h : Scan s s.size f L) : L = pcsB s 1 (s.size - 1) := by
  rcases h with ⟨h, _⟩ | ⟨_, h⟩
  · omega
  · exact h
theorem Scan.le {s : ByteArray} {k f : Nat} {L : List ByteArray} (h : Scan s k f L) (hk : k < s.size) : 1 ≤ f ∧ f ≤ k := by
  rcases h with ⟨_, h2, h3, _⟩ | ⟨h, _⟩
  · exact ⟨h2, h3⟩
  · omega
section
variable {w : World} {g : Nat} {E : TypeId} {c0 c1 c2 c3 c4 c5 c6 c7 : Value}
theorem Blk.eight (h : Blk w g E [c0, c1, c2, c3, c4, c5, c6, c7]) : (w.cell? ⟨g, 0, none⟩ = some c0 ∧ w.cell? ⟨g, 1, none⟩ = some c1 ∧ w.cell? ⟨g, 2, none⟩ = some c2 ∧ w.cell? ⟨g, 3, none⟩ = some c3 ∧ w.cell? ⟨g, 4, none⟩ = some c4 ∧ w.cell? ⟨g, 5, none⟩ = some c5 ∧ w.cell? ⟨g, 6, none⟩ = some c6 ∧ w.cell? ⟨g, 7, none⟩ = some c7) ∧ (w.frozen? ⟨g, 0, none⟩ = false ∧ w.frozen? ⟨g, 1, none⟩ = false ∧ w.frozen? ⟨g, 2, none⟩ = false ∧ w.frozen? ⟨g, 3, none⟩ = false ∧ w.frozen? ⟨g, 4, none⟩ = false ∧ w.frozen? ⟨g, 5, none⟩ = false ∧ w.frozen? ⟨g, 6, none⟩ = false ∧ w.frozen? ⟨g, 7, none⟩ = false) :=
  ⟨⟨h.cell rfl, h.cell rfl, h.cell rfl, h.cell rfl, h.cell rfl, h.cell rfl, h.cell rfl, h.cell rfl⟩, ⟨h.free (by simp), h.free (by simp), h.free (by simp), h.free (by simp), h.free (by simp), h.free (by simp), h.free (by simp), h.free (by simp)⟩⟩
theorem set8 {a b : World} {B g : Nat} (h : Below B a b) (hp : B ≤ g) (u0 u1 u2 u3 u4 u5 u6 u7 : Value) :
    Below B a ((((((((b.setCell ⟨g, 0, none⟩ u0).setCell ⟨g, 1, none⟩ u1).setCell ⟨g, 2, none⟩ u2).setCell ⟨g, 3, none⟩ u3).setCell ⟨g, 4, none⟩ u4).setCell ⟨g, 5, none⟩ u5).setCell ⟨g, 6, none⟩ u6).setCell ⟨g, 7, none⟩ u7) :=
  (((((((h.setCell hp u0).setCell hp u1).setCell hp u2).setCell hp u3).setCell hp u4).setCell hp u5).setCell hp u6).setCell hp u7
end
theorem pcs_mem : ∀ {u x : List UInt8}, x ∈ pcs u → x.length ≤ u.length
  | [], x, h => by
    have e : x = [] := by simpa [pcs] using h
    rw [e]
    exact Nat.le_refl _
  | c :: r, x, h => by
    unfold pcs at h
    split at h
    · rcases List.mem_cons.1 h with rfl | h
      · exact Nat.zero_le _
      · have := pcs_mem h
        rw [List.length_cons]; omega
    · split at h
      · rename_i y t e
        rcases List.mem_cons.1 h with rfl | h
        · have := pcs_mem (u := r) (x := y) (by rw [e]; exact List.mem_cons_self)
          simp only [List.length_cons]; omega
        · have := pcs_mem (u := r) (x := x) (by rw [e]; exact List.mem_cons_of_mem _ h)
          rw [List.length_cons]; omega
      · have e : x = [c] := by simpa using h
        rw [e]
        simp
theorem pcsB_mem {s x : ByteArray} {i j : Nat} (h : x ∈ pcsB s i j) : x.size ≤ s.size := by
  unfold pcsB at h
  rw [List.mem_map] at h
  obtain ⟨l, hl, rfl⟩ := h
  have h1 := pcs_mem hl
  rw [← size_list] at h1
  have h2 : (s.extract i j).size ≤ s.size := by rw [ByteArray.size_extract]; omega
  have h3 : (⟨l.toArray⟩ : ByteArray).size = l.length := by show l.toArray.size = _; simp
  omega
theorem noHas {s p0 p1 p2 p3 : ByteArray} {x0 x1 x2 x3 : Int} {o0 o1 o2 o3 : Bool} (hfin : [p0, p1, p2, p3] = pcsB s 1 (s.size - 1))
    (he : parseZ p0 = .tuple #[Z x0, .bool o0] ∧ parseZ p1 = .tuple #[Z x1, .bool o1] ∧ parseZ p2 = .tuple #[Z x2, .bool o2] ∧ parseZ p3 = .tuple #[Z x3, .bool o3])
    (hf : o0 = true → o1 = true → o2 = true → o3 = true → ¬ flatF ⟨x0, x1, x2, x3⟩ → textF (prim ⟨x0, x1, x2, x3⟩) = s → False) : ¬ Has5 s := by
  rintro ⟨q, hq, h⟩
  have e := (textF_within h).2
  rw [← hfin] at e
  simp only [List.cons.injEq, and_true] at e
  obtain ⟨a0, a1, a2, a3⟩ := e
  have k0 := parseZ_is he.1 a0.symm
  have k1 := parseZ_is he.2.1 a1.symm
  have k2 := parseZ_is he.2.2.1 a2.symm
  have k3 := parseZ_is he.2.2.2 a3.symm
  have eq : (⟨x0, x1, x2, x3⟩ : Z4) = q := Z4.ext' k0.1 k1.1 k2.1 k3.1
  exact hf k0.2 k1.2 k2.2 k3.2 (by rw [eq]; exact hq.2) (by rw [eq, hq.1]; exact h)
/-- The first k of four integers, zeros behind them. -/
def row4 (x0 x1 x2 x3 : Int) : Nat → List Value
  | 0 => [.bool false, .string ⟨#[]⟩, .bool false, .string ⟨#[]⟩, .bool false, .string ⟨#[]⟩, .bool false, .string ⟨#[]⟩]
  | 1 => [.bool (sg x0), .string (mg x0), .bool false, .string ⟨#[]⟩, .bool false, .string ⟨#[]⟩, .bool false, .string ⟨#[]⟩]
  | 2 => [.bool (sg x0), .string (mg x0), .bool (sg x1), .string (mg x1), .bool false, .string ⟨#[]⟩, .bool false, .string ⟨#[]⟩]
  | 3 => [.bool (sg x0), .string (mg x0), .bool (sg x1), .string (mg x1), .bool (sg x2), .string (mg x2), .bool false, .string ⟨#[]⟩]
  | _ => [.bool (sg x0), .string (mg x0), .bool (sg x1), .string (mg x1), .bool (sg x2), .string (mg x2), .bool (sg x3), .string (mg x3)]
set_option maxRecDepth 100000 in
set_option maxHeartbeats 4000000 in
theorem r5P_walk (s : ByteArray) (w : World) (hs : s.size ≤ 1000) (h2 : 2 ≤ s.size) :
    Calls Tryz.prog 38 #[.string s] w fun e w' => e = .returned (planeT s) ∧ Below w.heap.size w w' := by
  have HS := Lib.hid (Scan.start h2)
  go_enter Tryz.func38, Tryz.ntmps38
  go_wp2_with fail
  go_loopw [4, 5, 6] (fun l fr i wr => ∃ (k f : Nat) (L : List ByteArray), 1 ≤ k ∧ k ≤ s.size ∧ i = .int .i64 k ∧ fr = .int .i64 f ∧ L.length + 1 ≤ k ∧ OwnS wr (w.heap.size + 1) 9 l L ∧ Scan s k f L ∧ Below (w.heap.size + 1) (w.alloc (.cells #[.bool false, .string ⟨#[]⟩, .bool false, .string ⟨#[]⟩, .bool false, .string ⟨#[]⟩, .bool false, .string ⟨#[]⟩] 25)) wr) (fun _ _ i _ => s.size - (intOf i).toNat)
  case atStart => exact ⟨1, 1, [], Nat.le_refl _, by omega, rfl, rfl, Nat.le_refl _, OwnS.nil _ _ _, HS.out, by simpa using Below.refl _ _⟩
  case round =>
    obtain ⟨k, f, L, k1, k2, rfl, rfl, hL, hown, hsc, hb⟩ := hrel
    have HSc := Lib.hid hsc
    have hbs : w.heap.size + 1 ≤ wr.heap.size := by have := hb.size; simpa using this
    by_cases hlt : k < s.size
    · have hf := hsc.le hlt
      clear hsc
      by_cases h32 : s[k].toNat = 32
      · have e32 : ((s[k].toNat : Int) == 32) = true := by rw [h32]; rfl
        have HC := Lib.hid (Or.inl (UInt8.toNat_inj.1 h32) : s[k] = 32 ∨ k + 1 = s.size)
        clear h32
        · go_wp2_with (at_builtin; refine wpList_pushS _ rfl _ _ 97 rfl (w.heap.size + 1) 9 Tryz.underlying97 row_S _ L rfl (hown.alloc _) _ 1 rfl (s.extract f k) ((Blk.new _ _ _).cell rfl) (by omega) (by simp; omega) ?_; intro v2 w3 hown2 hb3)
          go_roundw
          case rel => exact ⟨k + 1, k + 1, L ++ [s.extract f k], by omega, by omega, by go_num, by go_num, by simp; omega, hown2, HSc.out.cut k1 hlt HC.out, (hb.alloc hbs _).trans hb3⟩
          case measure => simp [intOf]; omega
      · have e32 : ((s[k].toNat : Int) == 32) = false := beq_eq_false_iff_ne.2 (by omega)
        have H32 := Lib.hid (fun e : s[k] = 32 => h32 (by rw [e]; rfl))
        clear h32
        by_cases hl : k + 1 = s.size
        · have el : ((k : Int) == (s.size : Int) - 1) = true := beq_iff_eq.2 (by omega)
          have HC := Lib.hid (Or.inr hl : s[k] = 32 ∨ k + 1 = s.size)
          go_wp2_with (at_builtin; refine wpList_pushS _ rfl _ _ 97 rfl (w.heap.size + 1) 9 Tryz.underlying97 row_S _ L rfl (hown.alloc _) _ 1 rfl (s.extract f k) ((Blk.new _ _ _).cell rfl) (by omega) (by simp; omega) ?_; intro v2 w3 hown2 hb3)
          go_roundw
          case rel => exact ⟨k + 1, k + 1, L ++ [s.extract f k], by omega, by omega, by go_num, by go_num, by simp; omega, hown2, HSc.out.cut k1 hlt HC.out, (hb.alloc hbs _).trans hb3⟩
          case measure => simp [intOf]; omega
        · have el : ((k : Int) == (s.size : Int) - 1) = false := beq_eq_false_iff_ne.2 (by omega)
          go_wp2_with fail
          exact ⟨⟨k + 1, f, L, by omega, by omega, by go_num, rfl, by omega, hown, HSc.out.go k1 hlt hl H32.out, hb⟩, by simp [intOf]; omega⟩
    · obtain rfl : k = s.size := by omega
      have hfin := Scan.fin hsc
      have hne : L ≠ [] := by
        rw [hfin]
        intro e
        have e2 := congrArg List.length e
        unfold pcsB at e2
        rw [List.length_map] at e2
        exact (pcs_len _).1 (List.eq_nil_of_length_eq_zero e2)
      obtain ⟨g, c, rfl, hc, hg, hcells⟩ := hown.read hne
      clear hsc HSc
      have Hfin := Lib.hid hfin
      clear hfin
      have hB := (Blk.new w _ _).below hb (by omega)
      have hb' := bel1 w _ (by simpa using hb)
      by_cases h4 : L.length = 4
      · obtain ⟨p0, p1, p2, p3, hL4⟩ : ∃ p0 p1 p2 p3, L = [p0, p1, p2, p3] := by
          match L, h4 with
          | [a, b, c, d], _ => exact ⟨a, b, c, d, rfl⟩
        subst hL4
        obtain ⟨x0, o0, e0⟩ := parseZ_ex p0
        obtain ⟨x1, o1, e1⟩ := parseZ_ex p1
        obtain ⟨x2, o2, e2⟩ := parseZ_ex p2
        obtain ⟨x3, o3, e3⟩ := parseZ_ex p3
        have d0 := hcells 0 p0 rfl
        have d1 := hcells 1 p1 rfl
        have d2 := hcells 2 p2 rfl
        have d3 := hcells 3 p3 rfl
        clear hcells
        have Hd := Lib.hid (And.intro d0 (And.intro d1 (And.intro d2 d3)))
        have He := Lib.hid (And.intro e0 (And.intro e1 (And.intro e2 e3)))
        have Hp := Lib.hid (fun (x : ByteArray) (hx : x ∈ [p0, p1, p2, p3]) => pcsB_mem (Hfin.out ▸ hx))
        clear d0 d1 d2 d3 e0 e1 e2 e3
        go_wp2_with fail
        go_loopw [8] (fun i ws => ∃ k : Nat, k ≤ 4 ∧ i = .int .i64 k ∧ (0 < k → o0 = true) ∧ (1 < k → o1 = true) ∧ (2 < k → o2 = true) ∧ (3 < k → o3 = true) ∧ Blk ws wr.heap.size 67 (row4 x0 x1 x2 x3 k) ∧ Below wr.heap.size wr ws) (fun i _ => 4 - (intOf i).toNat)
        case atStart => exact ⟨0, Nat.zero_le _, rfl, by omega, by omega, by omega, by omega, Blk.new _ _ _, below_alloc _ _⟩
        case round =>
          obtain ⟨k, hk, rfl, q0, q1, q2, q3, hBn, hbw⟩ := hrel
          have hws := hbw.size
          rcases (show k = 0 ∨ k = 1 ∨ k = 2 ∨ k = 3 ∨ k = 4 by omega) with rfl | rfl | rfl | rfl | rfl
          · have d0 := (hbw.cell (p := ⟨g, 0, none⟩) hg).trans Hd.out.1
            go_wp2_with fail
            refine (refParse2_any p0 _ (by have := Hp.out p0 (by simp); omega)).mono ?_
            rw [He.out.1]
            rintro e w1 ⟨rfl, hb1⟩
            cases o0 with
            | false =>
              have hno : ¬ Has5 s := noHas Hfin.out He.out (fun h => by cases h)
              have hb2 := then_ hb' (then_ hbw (then_ hb1 (below_alloc w1 (.cells #[.bool (sg x0), .string (mg x0)] 23))))
              obtain ⟨⟨x_0, x_1, x_2, x_3, x_4, x_5, x_6, x_7⟩, y_0, y_1, y_2, y_3, y_4, y_5, y_6, y_7⟩ := (((hB.keep hbw).keep hb1).alloc (.cells #[.bool (sg x0), .string (mg x0)] 23)).eight
              go_wp2_with fail
              exact bodyPost_ret (v := .tuple #[P0, .bool false]) (by simp [results, Tryz.results38, go_sem, x_0, x_1, x_2, x_3, x_4, x_5, x_6, x_7]) rfl ⟨by rw [planeT_no hno], set8 hb2 (Nat.le_refl _) _ _ _ _ _ _ _ _⟩
            | true =>
              have hBa := (hBn.keep hb1).alloc (.cells #[.bool (sg x0), .string (mg x0)] 23)
              have hb2 := then_ hbw (then_ hb1 (below_alloc w1 (.cells #[.bool (sg x0), .string (mg x0)] 23)))
              obtain ⟨⟨x_0, x_1, x_2, x_3, x_4, x_5, x_6, x_7⟩, y_0, y_1, y_2, y_3, y_4, y_5, y_6, y_7⟩ := hBa.eight
              go_wp2_with fail
              exact ⟨⟨1, by omega, by go_num, by simp, by omega, by omega, by omega, (hBa.set 0 _).set 1 _, (hb2.setCell (Nat.le_refl _) _).setCell (Nat.le_refl _) _⟩, by simp [intOf]⟩
          · have d0 := (hbw.cell (p := ⟨g, 1, none⟩) hg).trans Hd.out.2.1
            go_wp2_with fail
            refine (refParse2_any p1 _ (by have := Hp.out p1 (by simp); omega)).mono ?_
            rw [He.out.2.1]
            rintro e w1 ⟨rfl, hb1⟩
            cases o1 with
            | false =>
              have hno : ¬ Has5 s := noHas Hfin.out He.out (fun _ h => by cases h)
              have hb2 := then_ hb' (then_ hbw (then_ hb1 (below_alloc w1 (.cells #[.bool (sg x1), .string (mg x1)] 23))))
              obtain ⟨⟨x_0, x_1, x_2, x_3, x_4, x_5, x_6, x_7⟩, y_0, y_1, y_2, y_3, y_4, y_5, y_6, y_7⟩ := (((hB.keep hbw).keep hb1).alloc (.cells #[.bool (sg x1), .string (mg x1)] 23)).eight
              go_wp2_with fail
              exact bodyPost_ret (v := .tuple #[P0, .bool false]) (by simp [results, Tryz.results38, go_sem, x_0, x_1, x_2, x_3, x_4, x_5, x_6, x_7]) rfl ⟨by rw [planeT_no hno], set8 hb2 (Nat.le_refl _) _ _ _ _ _ _ _ _⟩
            | true =>
              have hBa := (hBn.keep hb1).alloc (.cells #[.bool (sg x1), .string (mg x1)] 23)
              have hb2 := then_ hbw (then_ hb1 (below_alloc w1 (.cells #[.bool (sg x1), .string (mg x1)] 23)))
              obtain ⟨⟨x_0, x_1, x_2, x_3, x_4, x_5, x_6, x_7⟩, y_0, y_1, y_2, y_3, y_4, y_5, y_6, y_7⟩ := hBa.eight
              go_wp2_with fail
              exact ⟨⟨2, by omega, by go_num, fun _ => q0 (by omega), by simp, by omega, by omega, (hBa.set 2 _).set 3 _, (hb2.setCell (Nat.le_refl _) _).setCell (Nat.le_refl _) _⟩, by simp [intOf]⟩
          · have d0 := (hbw.cell (p := ⟨g, 2, none⟩) hg).trans Hd.out.2.2.1
            go_wp2_with fail
            refine (refParse2_any p2 _ (by have := Hp.out p2 (by simp); omega)).mono ?_
            rw [He.out.2.2.1]
            rintro e w1 ⟨rfl, hb1⟩
            cases o2 with
            | false =>
              have hno : ¬ Has5 s := noHas Hfin.out He.out (fun _ _ h => by cases h)
              have hb2 := then_ hb' (then_ hbw (then_ hb1 (below_alloc w1 (.cells #[.bool (sg x2), .string (mg x2)] 23))))
              obtain ⟨⟨x_0, x_1, x_2, x_3, x_4, x_5, x_6, x_7⟩, y_0, y_1, y_2, y_3, y_4, y_5, y_6, y_7⟩ := (((hB.keep hbw).keep hb1).alloc (.cells #[.bool (sg x2), .string (mg x2)] 23)).eight
              go_wp2_with fail
              exact bodyPost_ret (v := .tuple #[P0, .bool false]) (by simp [results, Tryz.results38, go_sem, x_0, x_1, x_2, x_3, x_4, x_5, x_6, x_7]) rfl ⟨by rw [planeT_no hno], set8 hb2 (Nat.le_refl _) _ _ _ _ _ _ _ _⟩
            | true =>
              have hBa := (hBn.keep hb1).alloc (.cells #[.bool (sg x2), .string (mg x2)] 23)
              have hb2 := then_ hbw (then_ hb1 (below_alloc w1 (.cells #[.bool (sg x2), .string (mg x2)] 23)))
              obtain ⟨⟨x_0, x_1, x_2, x_3, x_4, x_5, x_6, x_7⟩, y_0, y_1, y_2, y_3, y_4, y_5, y_6, y_7⟩ := hBa.eight
              go_wp2_with fail
              exact ⟨⟨3, by omega, by go_num, fun _ => q0 (by omega), fun _ => q1 (by omega), by simp, by omega, (hBa.set 4 _).set 5 _, (hb2.setCell (Nat.le_refl _) _).setCell (Nat.le_refl _) _⟩, by simp [intOf]⟩
          · have d0 := (hbw.cell (p := ⟨g, 3, none⟩) hg).trans Hd.out.2.2.2
            go_wp2_with fail
            refine (refParse2_any p3 _ (by have := Hp.out p3 (by simp); omega)).mono ?_
            rw [He.out.2.2.2]
            rintro e w1 ⟨rfl, hb1⟩
            cases o3 with
            | false =>
              have hno : ¬ Has5 s := noHas Hfin.out He.out (fun _ _ _ h => by cases h)
              have hb2 := then_ hb' (then_ hbw (then_ hb1 (below_alloc w1 (.cells #[.bool (sg x3), .string (mg x3)] 23))))
              obtain ⟨⟨x_0, x_1, x_2, x_3, x_4, x_5, x_6, x_7⟩, y_0, y_1, y_2, y_3, y_4, y_5, y_6, y_7⟩ := (((hB.keep hbw).keep hb1).alloc (.cells #[.bool (sg x3), .string (mg x3)] 23)).eight
              go_wp2_with fail
              exact bodyPost_ret (v := .tuple #[P0, .bool false]) (by simp [results, Tryz.results38, go_sem, x_0, x_1, x_2, x_3, x_4, x_5, x_6, x_7]) rfl ⟨by rw [planeT_no hno], set8 hb2 (Nat.le_refl _) _ _ _ _ _ _ _ _⟩
            | true =>
              have hBa := (hBn.keep hb1).alloc (.cells #[.bool (sg x3), .string (mg x3)] 23)
              have hb2 := then_ hbw (then_ hb1 (below_alloc w1 (.cells #[.bool (sg x3), .string (mg x3)] 23)))
              obtain ⟨⟨x_0, x_1, x_2, x_3, x_4, x_5, x_6, x_7⟩, y_0, y_1, y_2, y_3, y_4, y_5, y_6, y_7⟩ := hBa.eight
              go_wp2_with fail
              exact ⟨⟨4, by omega, by go_num, fun _ => q0 (by omega), fun _ => q1 (by omega), fun _ => q2 (by omega), by simp, (hBa.set 6 _).set 7 _, (hb2.setCell (Nat.le_refl _) _).setCell (Nat.le_refl _) _⟩, by simp [intOf]⟩
          · have t0 := q0 (by omega)
            have t1 := q1 (by omega)
            have t2 := q2 (by omega)
            have t3 := q3 (by omega)
            subst t0 t1 t2 t3
            clear q0 q1 q2 q3
            have z0 := (parseZ_size He.out.1).up (Nat.le_trans (Hp.out p0 (by simp)) hs)
            have z1 := (parseZ_size He.out.2.1).up (Nat.le_trans (Hp.out p1 (by simp)) hs)
            have z2 := (parseZ_size He.out.2.2.1).up (Nat.le_trans (Hp.out p2 (by simp)) hs)
            have z3 := (parseZ_size He.out.2.2.2).up (Nat.le_trans (Hp.out p3 (by simp)) hs)
            have hcan : IsF (FV ⟨x0, x1, x2, x3⟩) ⟨x0, x1, x2, x3⟩ 1000 := IsF.can ⟨z0, z1, z2, z3⟩
            have zp : Fk (prim ⟨x0, x1, x2, x3⟩) 1000 := Fk.prim ⟨z0, z1, z2, z3⟩
            obtain ⟨⟨x_0, x_1, x_2, x_3, x_4, x_5, x_6, x_7⟩, y_0, y_1, y_2, y_3, y_4, y_5, y_6, y_7⟩ := hBn.eight
            go_wp2_with fail
            refine (v5Norm_any hcan (by decide) _).mono ?_
            clear x_0 x_1 x_2 x_3 x_4 x_5 x_6 x_7 y_0 y_1 y_2 y_3 y_4 y_5 y_6 y_7
            by_cases hf : flatF ⟨x0, x1, x2, x3⟩
            · have hno : ¬ Has5 s := noHas Hfin.out He.out (fun _ _ _ _ h => absurd hf h)
              rw [normV, if_pos hf]
              rintro e w1 ⟨rfl, hb1⟩
              have hb2 := then_ hb' (then_ hbw (then_ hb1 (below_alloc w1 (.cells #[.bool false, .string ⟨#[]⟩, .bool false, .string ⟨#[]⟩, .bool false, .string ⟨#[]⟩, .bool false, .string ⟨#[]⟩] 25))))
              obtain ⟨⟨x_0, x_1, x_2, x_3, x_4, x_5, x_6, x_7⟩, y_0, y_1, y_2, y_3, y_4, y_5, y_6, y_7⟩ := (((hB.keep hbw).keep hb1).alloc (.cells #[.bool false, .string ⟨#[]⟩, .bool false, .string ⟨#[]⟩, .bool false, .string ⟨#[]⟩, .bool false, .string ⟨#[]⟩] 25)).eight
              go_wp2_with fail
              exact bodyPost_ret (v := .tuple #[P0, .bool false]) (by simp [results, Tryz.results38, go_sem, x_0, x_1, x_2, x_3, x_4, x_5, x_6, x_7]) rfl ⟨by rw [planeT_no hno], set8 hb2 (Nat.le_refl _) _ _ _ _ _ _ _ _⟩
            · have hcn : Can5 (prim ⟨x0, x1, x2, x3⟩) := ⟨prim_prim (g4_flat hf), prim_flat hf⟩
              have hnot : textF (prim ⟨x0, x1, x2, x3⟩) ≠ s → ¬ Has5 s := fun ht => noHas Hfin.out He.out (fun _ _ _ _ _ h => ht h)
              rw [normV, if_neg hf]
              have Hcn := Lib.hid (And.intro hcn hnot)
              clear hcn hnot hf hcan
              generalize prim ⟨x0, x1, x2, x3⟩ = q at *
              rintro e w1 ⟨rfl, hb1⟩
              go_wp2_with fail
              refine (v5Text (IsF.can zp) (by decide) _).mono ?_
              rintro e w2 ⟨rfl, hb3⟩
              have hb4 := bel1 _ _ hb3
              have hb5 := then_ hb' (then_ hbw (then_ hb1 hb4))
              obtain ⟨⟨x_0, x_1, x_2, x_3, x_4, x_5, x_6, x_7⟩, y_0, y_1, y_2, y_3, y_4, y_5, y_6, y_7⟩ := (((hB.keep hbw).keep hb1).keep hb4).eight
              obtain ⟨⟨z_0, z_1, z_2, z_3, z_4, z_5, z_6, z_7⟩, -⟩ := ((Blk.new w1 _ _).keep hb3).eight
              by_cases ht : textF q = s
              · have he : ((textF q).toList == s.toList) = true := by rw [ht]; exact beq_self_eq_true _
                have Ht := Lib.hid ht
                clear ht
                go_wp2_with fail
                exact bodyPost_ret (v := .tuple #[FV q, .bool true]) (by simp [results, Tryz.results38, go_sem, x_0, x_1, x_2, x_3, x_4, x_5, x_6, x_7]) rfl ⟨by rw [planeT_yes Hcn.out.1 Ht.out], set8 hb5 (Nat.le_refl _) _ _ _ _ _ _ _ _⟩
              · have he : ((textF q).toList == s.toList) = false := beq_eq_false_iff_ne.2 (fun e => ht (toList_inj e))
                have hno := Hcn.out.2 ht
                go_wp2_with fail
                exact bodyPost_ret (v := .tuple #[P0, .bool false]) (by simp [results, Tryz.results38, go_sem, x_0, x_1, x_2, x_3, x_4, x_5, x_6, x_7]) rfl ⟨by rw [planeT_no hno], set8 hb5 (Nat.le_refl _) _ _ _ _ _ _ _ _⟩
      · have hk2 : ¬ ((L.length : Int) = 4) := by omega
        obtain ⟨⟨x0, x1, x2, x3, x4, x5, x6, x7⟩, y0, y1, y2, y3, y4, y5, y6, y7⟩ := hB.eight
        have hno : ¬ Has5 s := by
          rintro ⟨q, _, hq⟩
          have e := (textF_within hq).2
          rw [← Hfin.out] at e
          rw [e] at h4
          exact h4 rfl
        go_wp2_with fail
        exact bodyPost_ret (v := .tuple #[P0, .bool false]) (by simp [results, Tryz.results38, go_sem, x0, x1, x2, x3, x4, x5, x6, x7]) rfl ⟨by rw [planeT_no hno], set8 hb' (Nat.le_refl _) _ _ _ _ _ _ _ _⟩
set_option maxRecDepth 100000 in
theorem r5P_short (s : ByteArray) (w : World) (h2 : ¬ 2 ≤ s.size) :
    Calls Tryz.prog 38 #[.string s] w fun e w' => e = .returned (planeT s) ∧ Below w.heap.size w w' := by
  have hno : ¬ Has5 s := fun ⟨q, _, h⟩ => h2 (textF_within h).1
  go_enter Tryz.func38, Tryz.ntmps38
  go_wp2_with fail
  refine bodyPost_ret (v := .tuple #[P0, .bool false]) (by simp [results, Tryz.results38, go_sem]) rfl ⟨by rw [planeT_no hno], ?_⟩
  exact below_alloc _ _
theorem rParse5_any (s : ByteArray) (w : World) (hs : s.size ≤ 1000) :
    Calls Tryz.prog 38 #[.string s] w fun e w' => e = .returned (planeT s) ∧ Below w.heap.size w w' := by
  by_cases h2 : 2 ≤ s.size
  · exact r5P_walk s w hs h2
  · exact r5P_short s w h2
end Go.Proofs.YtpmfaommooneiaaGreatDoor
