/- A map as a card's argument: its cells by two letters. -/
import Derived.Test.YtodcomijjmobdaaGreatDoorYf
import Derived.Test.YtodcomijjmobdaaGreatDoorFlat
set_option linter.unusedVariables false
set_option linter.unusedSimpArgs false
namespace Go.Proofs.YtodcomijjmobdaaGreatDoor
open Go.RowKit NM SX
theorem fit_q {ks : List FK} {cs : List Value} (h : Fit (.b :: .s :: .s :: ks) cs) : ∃ n s t r, cs = .bool n :: .string s :: .string t :: r ∧ Fit ks r := by
  obtain ⟨n, _, rfl, s, _, rfl, _, t, r, rfl, _, h⟩ := h
  exact ⟨n, s, t, r, rfl, h⟩
theorem fit_map {cs : List Value} (h : Fit [.b, .s, .s, .b, .s, .s, .b, .s, .s, .b, .s, .s, .b, .s, .s, .b, .s, .s, .b, .s, .s, .b, .s, .s, .b, .s, .s, .b, .s, .s, .b, .s, .s, .b, .s, .s] cs) : ∃ (b : Nat → Bool) (s : Nat → ByteArray), cs = mraw b s := by
  obtain ⟨n0, s0, t0, r0, rfl, h0⟩ := fit_q h
  obtain ⟨n1, s1, t1, r1, rfl, h1⟩ := fit_q h0
  obtain ⟨n2, s2, t2, r2, rfl, h2⟩ := fit_q h1
  obtain ⟨n3, s3, t3, r3, rfl, h3⟩ := fit_q h2
  obtain ⟨n4, s4, t4, r4, rfl, h4⟩ := fit_q h3
  obtain ⟨n5, s5, t5, r5, rfl, h5⟩ := fit_q h4
  obtain ⟨n6, s6, t6, r6, rfl, h6⟩ := fit_q h5
  obtain ⟨n7, s7, t7, r7, rfl, h7⟩ := fit_q h6
  obtain ⟨n8, s8, t8, r8, rfl, h8⟩ := fit_q h7
  obtain ⟨n9, s9, t9, r9, rfl, h9⟩ := fit_q h8
  obtain ⟨n10, s10, t10, r10, rfl, h10⟩ := fit_q h9
  obtain ⟨n11, s11, t11, r11, rfl, h11⟩ := fit_q h10
  obtain rfl : r11 = [] := h11
  exact ⟨fun i => [n0, n1, n2, n3, n4, n5, n6, n7, n8, n9, n10, n11].getD i false, fun i => [s0, t0, s1, t1, s2, t2, s3, t3, s4, t4, s5, t5, s6, t6, s7, t7, s8, t8, s9, t9, s10, t10, s11, t11].getD i ⟨#[]⟩, rfl⟩
def zeroMap : Value := .agg #[.bool false, .string ⟨#[]⟩, .string ⟨#[]⟩, .bool false, .string ⟨#[]⟩, .string ⟨#[]⟩, .bool false, .string ⟨#[]⟩, .string ⟨#[]⟩, .bool false, .string ⟨#[]⟩, .string ⟨#[]⟩, .bool false, .string ⟨#[]⟩, .string ⟨#[]⟩, .bool false, .string ⟨#[]⟩, .string ⟨#[]⟩, .bool false, .string ⟨#[]⟩, .string ⟨#[]⟩, .bool false, .string ⟨#[]⟩, .string ⟨#[]⟩, .bool false, .string ⟨#[]⟩, .string ⟨#[]⟩, .bool false, .string ⟨#[]⟩, .string ⟨#[]⟩, .bool false, .string ⟨#[]⟩, .string ⟨#[]⟩, .bool false, .string ⟨#[]⟩, .string ⟨#[]⟩]
end Go.Proofs.YtodcomijjmobdaaGreatDoor
