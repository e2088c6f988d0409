/- Types that are made of bools, numbers and strings: a value of such a type, opened and handed on. -/
import Derived.Test.YtodcomijjmobdaaGreatDoorSx
import Derived.Lib.SmallJoins
set_option linter.unusedVariables false
set_option linter.unusedSimpArgs false
namespace Go.Proofs.YtodcomijjmobdaaGreatDoor.SX
open Go.RowKit
/-- Cells of these kinds. -/
def Fit : List FK → List Value → Prop
  | [], cs => cs = []
  | .b :: ks, cs => ∃ b r, cs = .bool b :: r ∧ Fit ks r
  | .i k :: ks, cs => ∃ n r, cs = .int k n :: r ∧ (Lit.int k n).wf = true ∧ Fit ks r
  | .s :: ks, cs => ∃ s r, cs = .string s :: r ∧ s.size ≤ maxLen ∧ Fit ks r
theorem Fit.length : ∀ {ks : List FK} {cs : List Value}, Fit ks cs → cs.length = ks.length
  | [], _, h => by cases h; rfl
  | .b :: ks, _, ⟨_, _, rfl, h⟩ => by simp [Fit.length h]
  | .i _ :: ks, _, ⟨_, _, rfl, _, h⟩ => by simp [Fit.length h]
  | .s :: ks, _, ⟨_, _, rfl, _, h⟩ => by simp [Fit.length h]
theorem Fit.append : ∀ {k1 k2 : List FK} {a b : List Value}, Fit k1 a → Fit k2 b → Fit (k1 ++ k2) (a ++ b)
  | [], _, _, _, h, h2 => by cases h; exact h2
  | .b :: _, _, _, _, ⟨x, r, rfl, h⟩, h2 => ⟨x, _, rfl, Fit.append h h2⟩
  | .i _ :: _, _, _, _, ⟨x, r, rfl, e, h⟩, h2 => ⟨x, _, rfl, e, Fit.append h h2⟩
  | .s :: _, _, _, _, ⟨x, r, rfl, e, h⟩, h2 => ⟨x, _, rfl, e, Fit.append h h2⟩
section
variable {H : Type} {enc : TypeId × Value → H} {P : Program}
theorem tSize_cells {t : TypeId} {n : Nat} (h : tSize P t = some n) : P.cellsOf t = n := by
  unfold tSize at h
  split at h
  · rename_i i hi
    cases h
    simp [Program.cellsOf, hi]
  · simp at h
theorem cells_flat {d : Nat} {t : TypeId} {ks : List FK} (h : flat P d t = some ks) : P.cellsOf t = ks.length := by
  cases d with
  | zero => simp [flat] at h
  | succ d =>
    unfold flat at h
    split at h
    · obtain ⟨rfl, e⟩ := uno_some h; exact tSize_cells e
    · obtain ⟨rfl, e⟩ := uno_some h; exact tSize_cells e
    · obtain ⟨rfl, e⟩ := uno_some h; exact tSize_cells e
    · rename_i fs hd
      have : flat P (d + 1) t = some ks := by unfold flat; rw [hd]; exact h
      rcases flat_agg this with ⟨_, h2⟩ | ⟨h1, _⟩
      · exact tSize_cells h2
      · simp [tAgg, hd, isAggD] at h1
    · rename_i n e hd
      have : flat P (d + 1) t = some ks := by unfold flat; rw [hd]; exact h
      rcases flat_agg this with ⟨_, h2⟩ | ⟨h1, _⟩
      · exact tSize_cells h2
      · simp [tAgg, hd, isAggD] at h1
    · simp at h
/-- What is read at a type of bools, numbers and strings: its cells are of these kinds, and every memory reads it so. -/
theorem flat_trod : ∀ (d : Nat) {t : TypeId} {ks : List FK}, flat P d t = some ks → ∀ {w : World} {base : Nat} {spare : Nat → Bool} {held : Bool} {fuel : Nat} {cs : List Value} {x : DataW H} {p : List MemPlace}, cs.length = ks.length →
    DataW.trod enc P w base spare held fuel t cs = some (x, p) → Fit ks cs ∧ p = [] ∧ ∀ (w' : World) (base' : Nat) (spare' : Nat → Bool) (held' : Bool), DataW.trod enc P w' base' spare' held' fuel t cs = some (x, [])
  | 0, t, ks, h, _, _, _, _, _, _, _, _, _, _ => by simp [flat] at h
  | d + 1, t, ks, h, w, base, spare, held, fuel, cs, x, p, hlen, hx => by
    cases fuel with
    | zero => simp [DataW.trod] at hx
    | succ n =>
    unfold flat at h
    split at h
    · rename_i hd
      obtain ⟨rfl, _⟩ := uno_some h
      unfold DataW.trod at hx ⊢
      simp only [hd] at hx ⊢
      split at hx <;> simp_all
      exact ⟨_, _, rfl, rfl⟩
    · rename_i k hd
      obtain ⟨rfl, _⟩ := uno_some h
      unfold DataW.trod at hx ⊢
      simp only [hd] at hx ⊢
      split at hx <;> simp_all
      obtain ⟨⟨h1, h2⟩, h3, h4⟩ := hx
      subst h1
      exact ⟨_, _, rfl, h2, rfl⟩
    · rename_i hd
      obtain ⟨rfl, _⟩ := uno_some h
      unfold DataW.trod at hx ⊢
      simp only [hd] at hx ⊢
      split at hx <;> simp_all
      obtain ⟨h2, h3, h4⟩ := hx
      exact ⟨_, _, rfl, h2, rfl⟩
    · rename_i fs hd
      split at h
      · simp at h
      · split at h
        · rename_i ks' hks
          split at h
          · rename_i m hm
            split at h
            · rename_i hb
              cases h
              have key : ∀ (fs : List Field) (o : Nat) (ks : List FK) (xs : List (DataW H × List MemPlace)), flatFs (flat P d) o fs = some ks → cs.length = o + ks.length →
                  fs.mapM (fun f => DataW.trod enc P w base spare held n f.type ((cs.drop f.offset).take (P.cellsOf f.type))) = some xs →
                  Fit ks (cs.drop o) ∧ xs.flatMap (·.2) = [] ∧ ∀ (w' : World) (base' : Nat) (spare' : Nat → Bool) (held' : Bool), fs.mapM (fun f => DataW.trod enc P w' base' spare' held' n f.type ((cs.drop f.offset).take (P.cellsOf f.type))) = some xs := by
                intro fs
                induction fs with
                | nil =>
                  intro o ks xs hk hl hm
                  cases hk
                  simp only [List.mapM_nil, Option.pure_def, Option.some.injEq] at hm
                  subst hm
                  refine ⟨?_, rfl, fun _ _ _ _ => rfl⟩
                  show cs.drop o = []
                  exact List.drop_eq_nil_of_le (by simp at hl; omega)
                | cons f fs ih =>
                  intro o ks xs hk hl hm
                  unfold flatFs at hk
                  split at hk
                  · rename_i hc
                    simp only [Bool.and_eq_true, bne_iff_ne, ne_eq] at hc
                    have hc2 := Nat.eq_of_beq_eq_true hc.2
                    split at hk
                    · rename_i kf hkf
                      split at hk
                      · rename_i r hr
                        cases hk
                        rw [List.mapM_cons] at hm
                        simp only [Option.pure_def, Option.bind_eq_bind, Option.bind_eq_some_iff, Option.some.injEq] at hm
                        obtain ⟨y, h1, ys, h2, rfl⟩ := hm
                        rw [List.length_append] at hl
                        obtain ⟨a1, a2, a3⟩ := ih (o + kf.length) r ys hr (by omega) h2
                        rw [hc2] at h1
                        have hcf : P.cellsOf f.type = kf.length := cells_flat hkf
                        rw [hcf] at h1
                        obtain ⟨b1, b2, b3⟩ := flat_trod d hkf (by rw [List.length_take, List.length_drop]; omega) h1
                        refine ⟨?_, ?_, fun w' base' spare' held' => ?_⟩
                        · have := b1.append a1
                          rwa [← List.drop_drop, List.take_append_drop] at this
                        · rw [List.flatMap_cons, a2, b2]; rfl
                        · rw [List.mapM_cons, a3 w' base' spare' held', hc2, hcf, b3 w' base' spare' held']
                          obtain ⟨y1, y2⟩ := y
                          cases b2
                          rfl
                      · simp at hk
                    · simp at hk
                  · simp at hk
              have hstep : ∀ (w : World) (base : Nat) (spare : Nat → Bool) (held : Bool), DataW.trod enc P w base spare held (n + 1) t cs = if cs.length = P.cellsOf t then (fs.toList.mapM fun f => DataW.trod enc P w base spare held n f.type ((cs.drop f.offset).take (P.cellsOf f.type))).map fun xs => (.agg (xs.map (·.1)), xs.flatMap (·.2)) else none := by
                intro w base spare held
                rw [DataW.trod.eq_def]
                simp only [hd]
              rw [hstep, if_pos (hlen.trans (cells_flat (d := d + 1) (by unfold flat; rw [hd]; simp [*])).symm)] at hx
              obtain ⟨xs, h1, h2⟩ := Option.map_eq_some_iff.1 hx
              obtain ⟨g1, g2, g3⟩ := key fs.toList 0 ks xs hks (by simpa using hlen) h1
              cases h2
              refine ⟨by simpa using g1, g2, fun w' base' spare' held' => ?_⟩
              rw [hstep, if_pos (hlen.trans (cells_flat (d := d + 1) (by unfold flat; rw [hd]; simp [*])).symm), g3 w' base' spare' held', Option.map_some, g2]
            · simp at h
          · simp at h
        · simp at h
    · rename_i m e hd
      have hF : flat P (d + 1) t = some ks := by unfold flat; rw [hd]; exact h
      split at h
      · rename_i kf hkf
        split at h
        · rename_i k m' hk hm'
          split at h
          · rename_i hb
            cases h
            have key : ∀ (m a : Nat) (xs : List (DataW H × List MemPlace)), cs.length = (a + m) * kf.length →
                (List.range' a m).mapM (fun i => DataW.trod enc P w base spare held n e ((cs.drop (i * P.cellsOf e)).take (P.cellsOf e))) = some xs →
                Fit (rep m kf) (cs.drop (a * kf.length)) ∧ xs.flatMap (·.2) = [] ∧ ∀ (w' : World) (base' : Nat) (spare' : Nat → Bool) (held' : Bool), (List.range' a m).mapM (fun i => DataW.trod enc P w' base' spare' held' n e ((cs.drop (i * P.cellsOf e)).take (P.cellsOf e))) = some xs := by
              intro m
              induction m with
              | zero =>
                intro a xs hl hm
                simp only [List.range'_zero, List.mapM_nil, Option.pure_def, Option.some.injEq] at hm
                subst hm
                refine ⟨?_, rfl, fun _ _ _ _ => rfl⟩
                show cs.drop (a * kf.length) = []
                exact List.drop_eq_nil_of_le (by rw [hl]; exact Nat.le_refl _)
              | succ m ih =>
                intro a xs hl hm
                rw [List.range'_succ, List.mapM_cons] at hm
                simp only [Option.pure_def, Option.bind_eq_bind, Option.bind_eq_some_iff, Option.some.injEq] at hm
                obtain ⟨y, h1, ys, h2, rfl⟩ := hm
                have hcf : P.cellsOf e = kf.length := cells_flat hkf
                have es : (a + (m + 1)) * kf.length = a * kf.length + kf.length + m * kf.length := by rw [Nat.add_mul, Nat.add_mul]; omega
                have et : (a + 1) * kf.length = a * kf.length + kf.length := by rw [Nat.add_mul]; omega
                have eu : (a + 1 + m) * kf.length = a * kf.length + kf.length + m * kf.length := by rw [Nat.add_mul, Nat.add_mul]; omega
                rw [es] at hl
                obtain ⟨a1, a2, a3⟩ := ih (a + 1) ys (by omega) h2
                rw [hcf] at h1
                obtain ⟨b1, b2, b3⟩ := flat_trod d hkf (by rw [List.length_take, List.length_drop]; omega) h1
                refine ⟨?_, ?_, fun w' base' spare' held' => ?_⟩
                · have := b1.append a1
                  rwa [et, ← List.drop_drop, List.take_append_drop] at this
                · rw [List.flatMap_cons, a2, b2]; rfl
                · rw [List.range'_succ, List.mapM_cons, a3 w' base' spare' held', hcf, b3 w' base' spare' held']
                  obtain ⟨y1, y2⟩ := y
                  cases b2
                  rfl
            have hstep : ∀ (w : World) (base : Nat) (spare : Nat → Bool) (held : Bool), DataW.trod enc P w base spare held (n + 1) t cs = if cs.length = P.cellsOf t then ((List.range m).mapM fun i => DataW.trod enc P w base spare held n e ((cs.drop (i * P.cellsOf e)).take (P.cellsOf e))).map fun xs => (.agg (xs.map (·.1)), xs.flatMap (·.2)) else none := by
              intro w base spare held
              rw [DataW.trod.eq_def]
              simp only [hd]
            rw [hstep, if_pos (hlen.trans (cells_flat hF).symm)] at hx
            obtain ⟨xs, h1, h2⟩ := Option.map_eq_some_iff.1 hx
            rw [List.range_eq_range'] at h1
            obtain ⟨g1, g2, g3⟩ := key m 0 xs (by rw [hlen, rep_length, Nat.zero_add]) h1
            cases h2
            refine ⟨by simpa using g1, g2, fun w' base' spare' held' => ?_⟩
            rw [hstep, if_pos (hlen.trans (cells_flat hF).symm), List.range_eq_range', g3 w' base' spare' held', Option.map_some, g2]
          · simp at h
        · simp at h
      · simp at h
    · simp at h
/-- A row's argument of such a type: its cells, and how it reads in every memory. -/
theorem flat_open {d : Nat} {t : TypeId} {ks : List FK} (hf : flat P d t = some ks) (ha : tAgg P t = some true) {W w : World} {r : Reach} {b0 base : Nat} {spare : Nat → Bool} {held : Bool} {v : Value} {x : DataW H} {p : List MemPlace}
    (hv : Value.okWide P W r b0 t v) (h : DataW.Trod enc P w base spare held t v x p) :
    ∃ cs : List Value, v = .agg cs.toArray ∧ Fit ks cs ∧ p = [] ∧ ∀ (w' : World) (base' : Nat) (spare' : Nat → Bool) (held' : Bool), DataW.Trod enc P w' base' spare' held' t v x [] := by
  obtain ⟨cs, rfl, hsz⟩ : ∃ cs, v = .agg cs ∧ cs.size = P.cellsOf t := by
    unfold Value.okWide at hv
    unfold tAgg at ha
    split at hv
    · obtain ⟨cs, h1, h2, _⟩ := hv; exact ⟨cs, h1, h2⟩
    · obtain ⟨cs, h1, h2, _⟩ := hv; exact ⟨cs, h1, h2⟩
    · rename_i h1 h2
      split at ha
      · rename_i d hd
        cases d <;> simp [isAggD] at ha
        · exact absurd hd (h2 _ _)
        · exact absurd hd (h1 _)
      · simp at ha
  obtain ⟨fuel, hx⟩ := h
  obtain ⟨h1, h2, h3⟩ := flat_trod d hf (by rw [← cells_flat hf, ← hsz]; simp [Value.cells]) hx
  exact ⟨cs.toList, by simp, h1, h2, fun w' base' spare' held' => ⟨fuel, h3 w' base' spare' held'⟩⟩
end
end Go.Proofs.YtodcomijjmobdaaGreatDoor.SX
