/- plane.Parse. -/
import Derived.Test.YtpmfaommooneiaaGreatDoorVy
import Derived.Test.YtpmfaommooneiaaGreatDoorVd
set_option linter.unusedVariables false
set_option linter.unusedSimpArgs false
namespace Go.Proofs.YtpmfaommooneiaaGreatDoor
open Go.RowKit NM SX
theorem plP_ok0 (s a b c d : ByteArray) (x0 x1 x2 x3 : Int) (m : Int) (w : World) (hs : s.size ≤ 1000) (hT : TabC w) (hM : MaxL m w) (ho : opened5 s = true) (hc : closed5 s = true) (hn : Lib.countB (inner5 s) spB = 3) (hsp : Lib.splitB spB 0 3 (inner5 s) = [a, b, c, d]) (ha : a.size ≤ 1000) (hb : b.size ≤ 1000) (hcz : c.size ≤ 1000) (hdz : d.size ≤ 1000) (zx0 : Zk x0 1000) (zx1 : Zk x1 1000) (zx2 : Zk x2 1000) (zx3 : Zk x3 1000) (p0 : parseZ a = .tuple #[Z x0, .bool false]) :
    Calls Tryz.prog 37 #[.string s] w fun e w' => e = .returned (.tuple #[.agg #[.bool false, .string ⟨#[]⟩, .bool false, .string ⟨#[]⟩, .bool false, .string ⟨#[]⟩, .bool false, .string ⟨#[]⟩], .bool false]) ∧ Below w.heap.size w w' := by
  obtain ⟨z1, z2⟩ := inner5_size s
  have f1 : Zk x0 1000 := Zk.up (zx0) (by decide)
  exact SX.run (w := w) [.string s, .string (behind5 s), .bool true, .string (inner5 s), .bool true, .string a, .string b, .string c, .string d, .bool false, .bool false, .bool (sg x0), .string (mg x0), .bool false, .bool true] [.fr 4, .b false, .b false, .b true] [.c (.p (.at 0))] 1 (.tup [.agg [.p (.lit (.bool false)), .p (.lit (.string ⟨#[]⟩)), .p (.lit (.bool false)), .p (.lit (.string ⟨#[]⟩)), .p (.lit (.bool false)), .p (.lit (.string ⟨#[]⟩)), .p (.lit (.bool false)), .p (.lit (.string ⟨#[]⟩))], .c (.p (.lit (.bool false)))]) [.call 87 [.c (.p (.at 0)), .c (.p (.lit (.string ⟨#[91]⟩)))] (.tup [.c (.p (.at 1)), .c (.p (.at 2))]) [], .call 88 [.c (.p (.at 1)), .c (.p (.lit (.string ⟨#[93]⟩)))] (.tup [.c (.p (.at 3)), .c (.p (.at 4))]) [], .callF 89 [.c (.p (.at 3)), .c (.p (.lit (.string ⟨#[32]⟩)))] 9 [.p (.at 5), .p (.at 6), .p (.at 7), .p (.at 8)] 4 [], .op1 .not (.p (.at 2)) 9, .isB 9 false, .op1 .not (.p (.at 4)) 10, .isB 10 false, .call 90 [.c (.p (.at 5))] (.tup [.agg [.p (.at 11), .p (.at 12)], .c (.p (.at 13))]) [], .op1 .not (.p (.at 13)) 14, .isB 14 true] Tryz.func37 (by kernel_rfl) rfl (by kernel_rfl) rfl (by kernel_rfl)
    ⟨fun γ w' _ _ => by have h := Tryz.strings_CutPrefix s ⟨#[91]⟩ w'; rw [show Lib.hasPrefix s.data.toList (⟨#[91]⟩ : ByteArray).data.toList = true from ho] at h; exact h.mono fun _ _ k => ⟨k.1, k.2 ▸ Below.refl _ _⟩,
     fun γ w' _ _ => by have h := Tryz.strings_CutSuffix (behind5 s) ⟨#[93]⟩ w' (by omega); rw [show Lib.hasSuffix (behind5 s).data.toList (⟨#[93]⟩ : ByteArray).data.toList = true from hc] at h; exact h.mono fun _ _ k => ⟨k.1, k.2 ▸ Below.refl _ _⟩,
     fun γ w' bw _ => by have h := Tryz.strings_Split (inner5 s) ⟨#[32]⟩ m w' (by omega) (hM.later bw) (by decide); rw [show Lib.countB (inner5 s) ⟨#[32]⟩ = 3 from hn, show Lib.splitB ⟨#[32]⟩ 0 3 (inner5 s) = [a, b, c, d] from hsp] at h; exact h,
     congrArg (fun z => some (Value.bool z)) (by first | rfl | assumption | decide | simp [*] : (!true) = false),
     rfl,
     congrArg (fun z => some (Value.bool z)) (by first | rfl | assumption | decide | simp [*] : (!true) = false),
     rfl,
     fun γ w' bw _ => by have h := Parse2_any a w' (by omega); rw [p0] at h; exact h,
     congrArg (fun z => some (Value.bool z)) (by first | rfl | assumption | decide | simp [*] : (!false) = true),
     rfl⟩
theorem plP_ok1 (s a b c d : ByteArray) (x0 x1 x2 x3 : Int) (m : Int) (w : World) (hs : s.size ≤ 1000) (hT : TabC w) (hM : MaxL m w) (ho : opened5 s = true) (hc : closed5 s = true) (hn : Lib.countB (inner5 s) spB = 3) (hsp : Lib.splitB spB 0 3 (inner5 s) = [a, b, c, d]) (ha : a.size ≤ 1000) (hb : b.size ≤ 1000) (hcz : c.size ≤ 1000) (hdz : d.size ≤ 1000) (zx0 : Zk x0 1000) (zx1 : Zk x1 1000) (zx2 : Zk x2 1000) (zx3 : Zk x3 1000) (p0 : parseZ a = .tuple #[Z x0, .bool true]) (p1 : parseZ b = .tuple #[Z x1, .bool false]) :
    Calls Tryz.prog 37 #[.string s] w fun e w' => e = .returned (.tuple #[.agg #[.bool false, .string ⟨#[]⟩, .bool false, .string ⟨#[]⟩, .bool false, .string ⟨#[]⟩, .bool false, .string ⟨#[]⟩], .bool false]) ∧ Below w.heap.size w w' := by
  obtain ⟨z1, z2⟩ := inner5_size s
  have f1 : Zk x0 1000 := Zk.up (zx0) (by decide)
  have f2 : Zk x1 1000 := Zk.up (zx1) (by decide)
  exact SX.run (w := w) [.string s, .string (behind5 s), .bool true, .string (inner5 s), .bool true, .string a, .string b, .string c, .string d, .bool false, .bool false, .bool (sg x0), .string (mg x0), .bool true, .bool false, .bool (sg x1), .string (mg x1), .bool false, .bool true] [.fr 4, .b false, .b false, .b false, .b true] [.c (.p (.at 0))] 1 (.tup [.agg [.p (.lit (.bool false)), .p (.lit (.string ⟨#[]⟩)), .p (.lit (.bool false)), .p (.lit (.string ⟨#[]⟩)), .p (.lit (.bool false)), .p (.lit (.string ⟨#[]⟩)), .p (.lit (.bool false)), .p (.lit (.string ⟨#[]⟩))], .c (.p (.lit (.bool false)))]) [.call 87 [.c (.p (.at 0)), .c (.p (.lit (.string ⟨#[91]⟩)))] (.tup [.c (.p (.at 1)), .c (.p (.at 2))]) [], .call 88 [.c (.p (.at 1)), .c (.p (.lit (.string ⟨#[93]⟩)))] (.tup [.c (.p (.at 3)), .c (.p (.at 4))]) [], .callF 89 [.c (.p (.at 3)), .c (.p (.lit (.string ⟨#[32]⟩)))] 9 [.p (.at 5), .p (.at 6), .p (.at 7), .p (.at 8)] 4 [], .op1 .not (.p (.at 2)) 9, .isB 9 false, .op1 .not (.p (.at 4)) 10, .isB 10 false, .call 90 [.c (.p (.at 5))] (.tup [.agg [.p (.at 11), .p (.at 12)], .c (.p (.at 13))]) [], .op1 .not (.p (.at 13)) 14, .isB 14 false, .call 90 [.c (.p (.at 6))] (.tup [.agg [.p (.at 15), .p (.at 16)], .c (.p (.at 17))]) [], .op1 .not (.p (.at 17)) 18, .isB 18 true] Tryz.func37 (by kernel_rfl) rfl (by kernel_rfl) rfl (by kernel_rfl)
    ⟨fun γ w' _ _ => by have h := Tryz.strings_CutPrefix s ⟨#[91]⟩ w'; rw [show Lib.hasPrefix s.data.toList (⟨#[91]⟩ : ByteArray).data.toList = true from ho] at h; exact h.mono fun _ _ k => ⟨k.1, k.2 ▸ Below.refl _ _⟩,
     fun γ w' _ _ => by have h := Tryz.strings_CutSuffix (behind5 s) ⟨#[93]⟩ w' (by omega); rw [show Lib.hasSuffix (behind5 s).data.toList (⟨#[93]⟩ : ByteArray).data.toList = true from hc] at h; exact h.mono fun _ _ k => ⟨k.1, k.2 ▸ Below.refl _ _⟩,
     fun γ w' bw _ => by have h := Tryz.strings_Split (inner5 s) ⟨#[32]⟩ m w' (by omega) (hM.later bw) (by decide); rw [show Lib.countB (inner5 s) ⟨#[32]⟩ = 3 from hn, show Lib.splitB ⟨#[32]⟩ 0 3 (inner5 s) = [a, b, c, d] from hsp] at h; exact h,
     congrArg (fun z => some (Value.bool z)) (by first | rfl | assumption | decide | simp [*] : (!true) = false),
     rfl,
     congrArg (fun z => some (Value.bool z)) (by first | rfl | assumption | decide | simp [*] : (!true) = false),
     rfl,
     fun γ w' bw _ => by have h := Parse2_any a w' (by omega); rw [p0] at h; exact h,
     congrArg (fun z => some (Value.bool z)) (by first | rfl | assumption | decide | simp [*] : (!true) = false),
     rfl,
     fun γ w' bw _ => by have h := Parse2_any b w' (by omega); rw [p1] at h; exact h,
     congrArg (fun z => some (Value.bool z)) (by first | rfl | assumption | decide | simp [*] : (!false) = true),
     rfl⟩
theorem plP_ok2 (s a b c d : ByteArray) (x0 x1 x2 x3 : Int) (m : Int) (w : World) (hs : s.size ≤ 1000) (hT : TabC w) (hM : MaxL m w) (ho : opened5 s = true) (hc : closed5 s = true) (hn : Lib.countB (inner5 s) spB = 3) (hsp : Lib.splitB spB 0 3 (inner5 s) = [a, b, c, d]) (ha : a.size ≤ 1000) (hb : b.size ≤ 1000) (hcz : c.size ≤ 1000) (hdz : d.size ≤ 1000) (zx0 : Zk x0 1000) (zx1 : Zk x1 1000) (zx2 : Zk x2 1000) (zx3 : Zk x3 1000) (p0 : parseZ a = .tuple #[Z x0, .bool true]) (p1 : parseZ b = .tuple #[Z x1, .bool true]) (p2 : parseZ c = .tuple #[Z x2, .bool false]) :
    Calls Tryz.prog 37 #[.string s] w fun e w' => e = .returned (.tuple #[.agg #[.bool false, .string ⟨#[]⟩, .bool false, .string ⟨#[]⟩, .bool false, .string ⟨#[]⟩, .bool false, .string ⟨#[]⟩], .bool false]) ∧ Below w.heap.size w w' := by
  obtain ⟨z1, z2⟩ := inner5_size s
  have f1 : Zk x0 1000 := Zk.up (zx0) (by decide)
  have f2 : Zk x1 1000 := Zk.up (zx1) (by decide)
  have f3 : Zk x2 1000 := Zk.up (zx2) (by decide)
  exact SX.run (w := w) [.string s, .string (behind5 s), .bool true, .string (inner5 s), .bool true, .string a, .string b, .string c, .string d, .bool false, .bool false, .bool (sg x0), .string (mg x0), .bool true, .bool false, .bool (sg x1), .string (mg x1), .bool true, .bool false, .bool (sg x2), .string (mg x2), .bool false, .bool true] [.fr 4, .b false, .b false, .b false, .b false, .b true] [.c (.p (.at 0))] 1 (.tup [.agg [.p (.lit (.bool false)), .p (.lit (.string ⟨#[]⟩)), .p (.lit (.bool false)), .p (.lit (.string ⟨#[]⟩)), .p (.lit (.bool false)), .p (.lit (.string ⟨#[]⟩)), .p (.lit (.bool false)), .p (.lit (.string ⟨#[]⟩))], .c (.p (.lit (.bool false)))]) [.call 87 [.c (.p (.at 0)), .c (.p (.lit (.string ⟨#[91]⟩)))] (.tup [.c (.p (.at 1)), .c (.p (.at 2))]) [], .call 88 [.c (.p (.at 1)), .c (.p (.lit (.string ⟨#[93]⟩)))] (.tup [.c (.p (.at 3)), .c (.p (.at 4))]) [], .callF 89 [.c (.p (.at 3)), .c (.p (.lit (.string ⟨#[32]⟩)))] 9 [.p (.at 5), .p (.at 6), .p (.at 7), .p (.at 8)] 4 [], .op1 .not (.p (.at 2)) 9, .isB 9 false, .op1 .not (.p (.at 4)) 10, .isB 10 false, .call 90 [.c (.p (.at 5))] (.tup [.agg [.p (.at 11), .p (.at 12)], .c (.p (.at 13))]) [], .op1 .not (.p (.at 13)) 14, .isB 14 false, .call 90 [.c (.p (.at 6))] (.tup [.agg [.p (.at 15), .p (.at 16)], .c (.p (.at 17))]) [], .op1 .not (.p (.at 17)) 18, .isB 18 false, .call 90 [.c (.p (.at 7))] (.tup [.agg [.p (.at 19), .p (.at 20)], .c (.p (.at 21))]) [], .op1 .not (.p (.at 21)) 22, .isB 22 true] Tryz.func37 (by kernel_rfl) rfl (by kernel_rfl) rfl (by kernel_rfl)
    ⟨fun γ w' _ _ => by have h := Tryz.strings_CutPrefix s ⟨#[91]⟩ w'; rw [show Lib.hasPrefix s.data.toList (⟨#[91]⟩ : ByteArray).data.toList = true from ho] at h; exact h.mono fun _ _ k => ⟨k.1, k.2 ▸ Below.refl _ _⟩,
     fun γ w' _ _ => by have h := Tryz.strings_CutSuffix (behind5 s) ⟨#[93]⟩ w' (by omega); rw [show Lib.hasSuffix (behind5 s).data.toList (⟨#[93]⟩ : ByteArray).data.toList = true from hc] at h; exact h.mono fun _ _ k => ⟨k.1, k.2 ▸ Below.refl _ _⟩,
     fun γ w' bw _ => by have h := Tryz.strings_Split (inner5 s) ⟨#[32]⟩ m w' (by omega) (hM.later bw) (by decide); rw [show Lib.countB (inner5 s) ⟨#[32]⟩ = 3 from hn, show Lib.splitB ⟨#[32]⟩ 0 3 (inner5 s) = [a, b, c, d] from hsp] at h; exact h,
     congrArg (fun z => some (Value.bool z)) (by first | rfl | assumption | decide | simp [*] : (!true) = false),
     rfl,
     congrArg (fun z => some (Value.bool z)) (by first | rfl | assumption | decide | simp [*] : (!true) = false),
     rfl,
     fun γ w' bw _ => by have h := Parse2_any a w' (by omega); rw [p0] at h; exact h,
     congrArg (fun z => some (Value.bool z)) (by first | rfl | assumption | decide | simp [*] : (!true) = false),
     rfl,
     fun γ w' bw _ => by have h := Parse2_any b w' (by omega); rw [p1] at h; exact h,
     congrArg (fun z => some (Value.bool z)) (by first | rfl | assumption | decide | simp [*] : (!true) = false),
     rfl,
     fun γ w' bw _ => by have h := Parse2_any c w' (by omega); rw [p2] at h; exact h,
     congrArg (fun z => some (Value.bool z)) (by first | rfl | assumption | decide | simp [*] : (!false) = true),
     rfl⟩
theorem plP_ok3 (s a b c d : ByteArray) (x0 x1 x2 x3 : Int) (m : Int) (w : World) (hs : s.size ≤ 1000) (hT : TabC w) (hM : MaxL m w) (ho : opened5 s = true) (hc : closed5 s = true) (hn : Lib.countB (inner5 s) spB = 3) (hsp : Lib.splitB spB 0 3 (inner5 s) = [a, b, c, d]) (ha : a.size ≤ 1000) (hb : b.size ≤ 1000) (hcz : c.size ≤ 1000) (hdz : d.size ≤ 1000) (zx0 : Zk x0 1000) (zx1 : Zk x1 1000) (zx2 : Zk x2 1000) (zx3 : Zk x3 1000) (p0 : parseZ a = .tuple #[Z x0, .bool true]) (p1 : parseZ b = .tuple #[Z x1, .bool true]) (p2 : parseZ c = .tuple #[Z x2, .bool true]) (p3 : parseZ d = .tuple #[Z x3, .bool false]) :
    Calls Tryz.prog 37 #[.string s] w fun e w' => e = .returned (.tuple #[.agg #[.bool false, .string ⟨#[]⟩, .bool false, .string ⟨#[]⟩, .bool false, .string ⟨#[]⟩, .bool false, .string ⟨#[]⟩], .bool false]) ∧ Below w.heap.size w w' := by
  obtain ⟨z1, z2⟩ := inner5_size s
  have f1 : Zk x0 1000 := Zk.up (zx0) (by decide)
  have f2 : Zk x1 1000 := Zk.up (zx1) (by decide)
  have f3 : Zk x2 1000 := Zk.up (zx2) (by decide)
  have f4 : Zk x3 1000 := Zk.up (zx3) (by decide)
  exact SX.run (w := w) [.string s, .string (behind5 s), .bool true, .string (inner5 s), .bool true, .string a, .string b, .string c, .string d, .bool false, .bool false, .bool (sg x0), .string (mg x0), .bool true, .bool false, .bool (sg x1), .string (mg x1), .bool true, .bool false, .bool (sg x2), .string (mg x2), .bool true, .bool false, .bool (sg x3), .string (mg x3), .bool false, .bool true] [.fr 4, .b false, .b false, .b false, .b false, .b false, .b true] [.c (.p (.at 0))] 1 (.tup [.agg [.p (.lit (.bool false)), .p (.lit (.string ⟨#[]⟩)), .p (.lit (.bool false)), .p (.lit (.string ⟨#[]⟩)), .p (.lit (.bool false)), .p (.lit (.string ⟨#[]⟩)), .p (.lit (.bool false)), .p (.lit (.string ⟨#[]⟩))], .c (.p (.lit (.bool false)))]) [.call 87 [.c (.p (.at 0)), .c (.p (.lit (.string ⟨#[91]⟩)))] (.tup [.c (.p (.at 1)), .c (.p (.at 2))]) [], .call 88 [.c (.p (.at 1)), .c (.p (.lit (.string ⟨#[93]⟩)))] (.tup [.c (.p (.at 3)), .c (.p (.at 4))]) [], .callF 89 [.c (.p (.at 3)), .c (.p (.lit (.string ⟨#[32]⟩)))] 9 [.p (.at 5), .p (.at 6), .p (.at 7), .p (.at 8)] 4 [], .op1 .not (.p (.at 2)) 9, .isB 9 false, .op1 .not (.p (.at 4)) 10, .isB 10 false, .call 90 [.c (.p (.at 5))] (.tup [.agg [.p (.at 11), .p (.at 12)], .c (.p (.at 13))]) [], .op1 .not (.p (.at 13)) 14, .isB 14 false, .call 90 [.c (.p (.at 6))] (.tup [.agg [.p (.at 15), .p (.at 16)], .c (.p (.at 17))]) [], .op1 .not (.p (.at 17)) 18, .isB 18 false, .call 90 [.c (.p (.at 7))] (.tup [.agg [.p (.at 19), .p (.at 20)], .c (.p (.at 21))]) [], .op1 .not (.p (.at 21)) 22, .isB 22 false, .call 90 [.c (.p (.at 8))] (.tup [.agg [.p (.at 23), .p (.at 24)], .c (.p (.at 25))]) [], .op1 .not (.p (.at 25)) 26, .isB 26 true] Tryz.func37 (by kernel_rfl) rfl (by kernel_rfl) rfl (by kernel_rfl)
    ⟨fun γ w' _ _ => by have h := Tryz.strings_CutPrefix s ⟨#[91]⟩ w'; rw [show Lib.hasPrefix s.data.toList (⟨#[91]⟩ : ByteArray).data.toList = true from ho] at h; exact h.mono fun _ _ k => ⟨k.1, k.2 ▸ Below.refl _ _⟩,
     fun γ w' _ _ => by have h := Tryz.strings_CutSuffix (behind5 s) ⟨#[93]⟩ w' (by omega); rw [show Lib.hasSuffix (behind5 s).data.toList (⟨#[93]⟩ : ByteArray).data.toList = true from hc] at h; exact h.mono fun _ _ k => ⟨k.1, k.2 ▸ Below.refl _ _⟩,
     fun γ w' bw _ => by have h := Tryz.strings_Split (inner5 s) ⟨#[32]⟩ m w' (by omega) (hM.later bw) (by decide); rw [show Lib.countB (inner5 s) ⟨#[32]⟩ = 3 from hn, show Lib.splitB ⟨#[32]⟩ 0 3 (inner5 s) = [a, b, c, d] from hsp] at h; exact h,
     congrArg (fun z => some (Value.bool z)) (by first | rfl | assumption | decide | simp [*] : (!true) = false),
     rfl,
     congrArg (fun z => some (Value.bool z)) (by first | rfl | assumption | decide | simp [*] : (!true) = false),
     rfl,
     fun γ w' bw _ => by have h := Parse2_any a w' (by omega); rw [p0] at h; exact h,
     congrArg (fun z => some (Value.bool z)) (by first | rfl | assumption | decide | simp [*] : (!true) = false),
     rfl,
     fun γ w' bw _ => by have h := Parse2_any b w' (by omega); rw [p1] at h; exact h,
     congrArg (fun z => some (Value.bool z)) (by first | rfl | assumption | decide | simp [*] : (!true) = false),
     rfl,
     fun γ w' bw _ => by have h := Parse2_any c w' (by omega); rw [p2] at h; exact h,
     congrArg (fun z => some (Value.bool z)) (by first | rfl | assumption | decide | simp [*] : (!true) = false),
     rfl,
     fun γ w' bw _ => by have h := Parse2_any d w' (by omega); rw [p3] at h; exact h,
     congrArg (fun z => some (Value.bool z)) (by first | rfl | assumption | decide | simp [*] : (!false) = true),
     rfl⟩
theorem plP_flat (s a b c d : ByteArray) (x0 x1 x2 x3 : Int) (m : Int) (w : World) (hs : s.size ≤ 1000) (hT : TabC w) (hM : MaxL m w) (ho : opened5 s = true) (hc : closed5 s = true) (hn : Lib.countB (inner5 s) spB = 3) (hsp : Lib.splitB spB 0 3 (inner5 s) = [a, b, c, d]) (ha : a.size ≤ 1000) (hb : b.size ≤ 1000) (hcz : c.size ≤ 1000) (hdz : d.size ≤ 1000) (zx0 : Zk x0 1000) (zx1 : Zk x1 1000) (zx2 : Zk x2 1000) (zx3 : Zk x3 1000) (p0 : parseZ a = .tuple #[Z x0, .bool true]) (p1 : parseZ b = .tuple #[Z x1, .bool true]) (p2 : parseZ c = .tuple #[Z x2, .bool true]) (p3 : parseZ d = .tuple #[Z x3, .bool true]) (hf : flatF (Z4.mk x0 x1 x2 x3)) :
    Calls Tryz.prog 37 #[.string s] w fun e w' => e = .returned (.tuple #[.agg #[.bool false, .string ⟨#[]⟩, .bool false, .string ⟨#[]⟩, .bool false, .string ⟨#[]⟩, .bool false, .string ⟨#[]⟩], .bool false]) ∧ Below w.heap.size w w' := by
  obtain ⟨z1, z2⟩ := inner5_size s
  have f1 : Zk x0 1000 := Zk.up (zx0) (by decide)
  have f2 : Zk x1 1000 := Zk.up (zx1) (by decide)
  have f3 : Zk x2 1000 := Zk.up (zx2) (by decide)
  have f4 : Zk x3 1000 := Zk.up (zx3) (by decide)
  exact SX.run (w := w) (.string s :: .string (behind5 s) :: .bool true :: .string (inner5 s) :: .bool true :: .string a :: .string b :: .string c :: .string d :: .bool false :: .bool false :: .bool (sg x0) :: .string (mg x0) :: .bool true :: .bool false :: .bool (sg x1) :: .string (mg x1) :: .bool true :: .bool false :: .bool (sg x2) :: .string (mg x2) :: .bool true :: .bool false :: .bool (sg x3) :: .string (mg x3) :: .bool true :: .bool false :: .bool false :: .string ⟨#[]⟩ :: .bool false :: .string ⟨#[]⟩ :: .bool false :: .string ⟨#[]⟩ :: .bool false :: .string ⟨#[]⟩ :: .bool false :: .bool true :: []) [.fr 4, .b false, .b false, .b false, .b false, .b false, .b false, .b true] [.c (.p (.at 0))] 1 (.tup [.agg [.p (.lit (.bool false)), .p (.lit (.string ⟨#[]⟩)), .p (.lit (.bool false)), .p (.lit (.string ⟨#[]⟩)), .p (.lit (.bool false)), .p (.lit (.string ⟨#[]⟩)), .p (.lit (.bool false)), .p (.lit (.string ⟨#[]⟩))], .c (.p (.lit (.bool false)))]) [.call 87 [.c (.p (.at 0)), .c (.p (.lit (.string ⟨#[91]⟩)))] (.tup [.c (.p (.at 1)), .c (.p (.at 2))]) [], .call 88 [.c (.p (.at 1)), .c (.p (.lit (.string ⟨#[93]⟩)))] (.tup [.c (.p (.at 3)), .c (.p (.at 4))]) [], .callF 89 [.c (.p (.at 3)), .c (.p (.lit (.string ⟨#[32]⟩)))] 9 [.p (.at 5), .p (.at 6), .p (.at 7), .p (.at 8)] 4 [], .op1 .not (.p (.at 2)) 9, .isB 9 false, .op1 .not (.p (.at 4)) 10, .isB 10 false, .call 90 [.c (.p (.at 5))] (.tup [.agg [.p (.at 11), .p (.at 12)], .c (.p (.at 13))]) [], .op1 .not (.p (.at 13)) 14, .isB 14 false, .call 90 [.c (.p (.at 6))] (.tup [.agg [.p (.at 15), .p (.at 16)], .c (.p (.at 17))]) [], .op1 .not (.p (.at 17)) 18, .isB 18 false, .call 90 [.c (.p (.at 7))] (.tup [.agg [.p (.at 19), .p (.at 20)], .c (.p (.at 21))]) [], .op1 .not (.p (.at 21)) 22, .isB 22 false, .call 90 [.c (.p (.at 8))] (.tup [.agg [.p (.at 23), .p (.at 24)], .c (.p (.at 25))]) [], .op1 .not (.p (.at 25)) 26, .isB 26 false, .call 47 [.agg [.p (.at 11), .p (.at 12), .p (.at 15), .p (.at 16), .p (.at 19), .p (.at 20), .p (.at 23), .p (.at 24)]] (.tup [.agg [.p (.at 27), .p (.at 28), .p (.at 29), .p (.at 30), .p (.at 31), .p (.at 32), .p (.at 33), .p (.at 34)], .c (.p (.at 35))]) [], .op1 .not (.p (.at 35)) 36, .isB 36 true] Tryz.func37 (by kernel_rfl) rfl (by kernel_rfl) rfl (by kernel_rfl)
    ⟨fun γ w' _ _ => by have h := Tryz.strings_CutPrefix s ⟨#[91]⟩ w'; rw [show Lib.hasPrefix s.data.toList (⟨#[91]⟩ : ByteArray).data.toList = true from ho] at h; exact h.mono fun _ _ k => ⟨k.1, k.2 ▸ Below.refl _ _⟩,
     fun γ w' _ _ => by have h := Tryz.strings_CutSuffix (behind5 s) ⟨#[93]⟩ w' (by omega); rw [show Lib.hasSuffix (behind5 s).data.toList (⟨#[93]⟩ : ByteArray).data.toList = true from hc] at h; exact h.mono fun _ _ k => ⟨k.1, k.2 ▸ Below.refl _ _⟩,
     fun γ w' bw _ => by have h := Tryz.strings_Split (inner5 s) ⟨#[32]⟩ m w' (by omega) (hM.later bw) (by decide); rw [show Lib.countB (inner5 s) ⟨#[32]⟩ = 3 from hn, show Lib.splitB ⟨#[32]⟩ 0 3 (inner5 s) = [a, b, c, d] from hsp] at h; exact h,
     congrArg (fun z => some (Value.bool z)) (by first | rfl | assumption | decide | simp [*] : (!true) = false),
     rfl,
     congrArg (fun z => some (Value.bool z)) (by first | rfl | assumption | decide | simp [*] : (!true) = false),
     rfl,
     fun γ w' bw _ => by have h := Parse2_any a w' (by omega); rw [p0] at h; exact h,
     congrArg (fun z => some (Value.bool z)) (by first | rfl | assumption | decide | simp [*] : (!true) = false),
     rfl,
     fun γ w' bw _ => by have h := Parse2_any b w' (by omega); rw [p1] at h; exact h,
     congrArg (fun z => some (Value.bool z)) (by first | rfl | assumption | decide | simp [*] : (!true) = false),
     rfl,
     fun γ w' bw _ => by have h := Parse2_any c w' (by omega); rw [p2] at h; exact h,
     congrArg (fun z => some (Value.bool z)) (by first | rfl | assumption | decide | simp [*] : (!true) = false),
     rfl,
     fun γ w' bw _ => by have h := Parse2_any d w' (by omega); rw [p3] at h; exact h,
     congrArg (fun z => some (Value.bool z)) (by first | rfl | assumption | decide | simp [*] : (!true) = false),
     rfl,
     fun γ w' hb _ => by have h := plReduced_any (IsF.mk (IsZ.can f1) (IsZ.can f2) (IsZ.can f3) (IsZ.can f4)) (by decide) w' (hT.later hb); rw [normV, if_pos hf] at h; exact h,
     congrArg (fun z => some (Value.bool z)) (by first | rfl | assumption | decide | simp [*] : (!false) = true),
     rfl⟩
theorem plP_loose (s a b c d : ByteArray) (x0 x1 x2 x3 : Int) (m : Int) (w : World) (hs : s.size ≤ 1000) (hT : TabC w) (hM : MaxL m w) (ho : opened5 s = true) (hc : closed5 s = true) (hn : Lib.countB (inner5 s) spB = 3) (hsp : Lib.splitB spB 0 3 (inner5 s) = [a, b, c, d]) (ha : a.size ≤ 1000) (hb : b.size ≤ 1000) (hcz : c.size ≤ 1000) (hdz : d.size ≤ 1000) (zx0 : Zk x0 1000) (zx1 : Zk x1 1000) (zx2 : Zk x2 1000) (zx3 : Zk x3 1000) (p0 : parseZ a = .tuple #[Z x0, .bool true]) (p1 : parseZ b = .tuple #[Z x1, .bool true]) (p2 : parseZ c = .tuple #[Z x2, .bool true]) (p3 : parseZ d = .tuple #[Z x3, .bool true]) (hf : ¬ flatF (Z4.mk x0 x1 x2 x3)) (hq : prim (Z4.mk x0 x1 x2 x3) ≠ (Z4.mk x0 x1 x2 x3)) :
    Calls Tryz.prog 37 #[.string s] w fun e w' => e = .returned (.tuple #[.agg #[.bool false, .string ⟨#[]⟩, .bool false, .string ⟨#[]⟩, .bool false, .string ⟨#[]⟩, .bool false, .string ⟨#[]⟩], .bool false]) ∧ Below w.heap.size w w' := by
  obtain ⟨z1, z2⟩ := inner5_size s
  have f1 : Zk x0 1000 := Zk.up (zx0) (by decide)
  have f2 : Zk x1 1000 := Zk.up (zx1) (by decide)
  have f3 : Zk x2 1000 := Zk.up (zx2) (by decide)
  have f4 : Zk x3 1000 := Zk.up (zx3) (by decide)
  have f5 : Fk (prim (Z4.mk x0 x1 x2 x3)) 1000 := Fk.up ((Fk.prim (Fk.mk f1 f2 f3 f4))) (by decide)
  exact SX.run (w := w) (.string s :: .string (behind5 s) :: .bool true :: .string (inner5 s) :: .bool true :: .string a :: .string b :: .string c :: .string d :: .bool false :: .bool false :: .bool (sg x0) :: .string (mg x0) :: .bool true :: .bool false :: .bool (sg x1) :: .string (mg x1) :: .bool true :: .bool false :: .bool (sg x2) :: .string (mg x2) :: .bool true :: .bool false :: .bool (sg x3) :: .string (mg x3) :: .bool true :: .bool false :: .bool (sg (prim (Z4.mk x0 x1 x2 x3)).a) :: .string (mg (prim (Z4.mk x0 x1 x2 x3)).a) :: .bool (sg (prim (Z4.mk x0 x1 x2 x3)).b) :: .string (mg (prim (Z4.mk x0 x1 x2 x3)).b) :: .bool (sg (prim (Z4.mk x0 x1 x2 x3)).c) :: .string (mg (prim (Z4.mk x0 x1 x2 x3)).c) :: .bool (sg (prim (Z4.mk x0 x1 x2 x3)).d) :: .string (mg (prim (Z4.mk x0 x1 x2 x3)).d) :: .bool true :: .bool false :: .bool (sg x0) :: .string (mg x0) :: .bool (sg x1) :: .string (mg x1) :: .bool (sg x2) :: .string (mg x2) :: .bool (sg x3) :: .string (mg x3) :: .bool true :: []) [.fr 4, .b false, .b false, .b false, .b false, .b false, .b false, .b false, .b true] [.c (.p (.at 0))] 1 (.tup [.agg [.p (.lit (.bool false)), .p (.lit (.string ⟨#[]⟩)), .p (.lit (.bool false)), .p (.lit (.string ⟨#[]⟩)), .p (.lit (.bool false)), .p (.lit (.string ⟨#[]⟩)), .p (.lit (.bool false)), .p (.lit (.string ⟨#[]⟩))], .c (.p (.lit (.bool false)))]) [.call 87 [.c (.p (.at 0)), .c (.p (.lit (.string ⟨#[91]⟩)))] (.tup [.c (.p (.at 1)), .c (.p (.at 2))]) [], .call 88 [.c (.p (.at 1)), .c (.p (.lit (.string ⟨#[93]⟩)))] (.tup [.c (.p (.at 3)), .c (.p (.at 4))]) [], .callF 89 [.c (.p (.at 3)), .c (.p (.lit (.string ⟨#[32]⟩)))] 9 [.p (.at 5), .p (.at 6), .p (.at 7), .p (.at 8)] 4 [], .op1 .not (.p (.at 2)) 9, .isB 9 false, .op1 .not (.p (.at 4)) 10, .isB 10 false, .call 90 [.c (.p (.at 5))] (.tup [.agg [.p (.at 11), .p (.at 12)], .c (.p (.at 13))]) [], .op1 .not (.p (.at 13)) 14, .isB 14 false, .call 90 [.c (.p (.at 6))] (.tup [.agg [.p (.at 15), .p (.at 16)], .c (.p (.at 17))]) [], .op1 .not (.p (.at 17)) 18, .isB 18 false, .call 90 [.c (.p (.at 7))] (.tup [.agg [.p (.at 19), .p (.at 20)], .c (.p (.at 21))]) [], .op1 .not (.p (.at 21)) 22, .isB 22 false, .call 90 [.c (.p (.at 8))] (.tup [.agg [.p (.at 23), .p (.at 24)], .c (.p (.at 25))]) [], .op1 .not (.p (.at 25)) 26, .isB 26 false, .call 47 [.agg [.p (.at 11), .p (.at 12), .p (.at 15), .p (.at 16), .p (.at 19), .p (.at 20), .p (.at 23), .p (.at 24)]] (.tup [.agg [.p (.at 27), .p (.at 28), .p (.at 29), .p (.at 30), .p (.at 31), .p (.at 32), .p (.at 33), .p (.at 34)], .c (.p (.at 35))]) [], .op1 .not (.p (.at 35)) 36, .isB 36 false, .call 69 [.agg [.p (.at 11), .p (.at 12), .p (.at 15), .p (.at 16), .p (.at 19), .p (.at 20), .p (.at 23), .p (.at 24)]] (.one (.agg [.p (.at 37), .p (.at 38), .p (.at 39), .p (.at 40), .p (.at 41), .p (.at 42), .p (.at 43), .p (.at 44)])) [], .eqs true [.b, .s, .b, .s, .b, .s, .b, .s] [.p (.at 27), .p (.at 28), .p (.at 29), .p (.at 30), .p (.at 31), .p (.at 32), .p (.at 33), .p (.at 34)] [.p (.at 37), .p (.at 38), .p (.at 39), .p (.at 40), .p (.at 41), .p (.at 42), .p (.at 43), .p (.at 44)] 45, .isB 45 true] Tryz.func37 (by kernel_rfl) rfl (by kernel_rfl) rfl (by kernel_rfl)
    ⟨fun γ w' _ _ => by have h := Tryz.strings_CutPrefix s ⟨#[91]⟩ w'; rw [show Lib.hasPrefix s.data.toList (⟨#[91]⟩ : ByteArray).data.toList = true from ho] at h; exact h.mono fun _ _ k => ⟨k.1, k.2 ▸ Below.refl _ _⟩,
     fun γ w' _ _ => by have h := Tryz.strings_CutSuffix (behind5 s) ⟨#[93]⟩ w' (by omega); rw [show Lib.hasSuffix (behind5 s).data.toList (⟨#[93]⟩ : ByteArray).data.toList = true from hc] at h; exact h.mono fun _ _ k => ⟨k.1, k.2 ▸ Below.refl _ _⟩,
     fun γ w' bw _ => by have h := Tryz.strings_Split (inner5 s) ⟨#[32]⟩ m w' (by omega) (hM.later bw) (by decide); rw [show Lib.countB (inner5 s) ⟨#[32]⟩ = 3 from hn, show Lib.splitB ⟨#[32]⟩ 0 3 (inner5 s) = [a, b, c, d] from hsp] at h; exact h,
     congrArg (fun z => some (Value.bool z)) (by first | rfl | assumption | decide | simp [*] : (!true) = false),
     rfl,
     congrArg (fun z => some (Value.bool z)) (by first | rfl | assumption | decide | simp [*] : (!true) = false),
     rfl,
     fun γ w' bw _ => by have h := Parse2_any a w' (by omega); rw [p0] at h; exact h,
     congrArg (fun z => some (Value.bool z)) (by first | rfl | assumption | decide | simp [*] : (!true) = false),
     rfl,
     fun γ w' bw _ => by have h := Parse2_any b w' (by omega); rw [p1] at h; exact h,
     congrArg (fun z => some (Value.bool z)) (by first | rfl | assumption | decide | simp [*] : (!true) = false),
     rfl,
     fun γ w' bw _ => by have h := Parse2_any c w' (by omega); rw [p2] at h; exact h,
     congrArg (fun z => some (Value.bool z)) (by first | rfl | assumption | decide | simp [*] : (!true) = false),
     rfl,
     fun γ w' bw _ => by have h := Parse2_any d w' (by omega); rw [p3] at h; exact h,
     congrArg (fun z => some (Value.bool z)) (by first | rfl | assumption | decide | simp [*] : (!true) = false),
     rfl,
     fun γ w' hb _ => by have h := plReduced_any (IsF.mk (IsZ.can f1) (IsZ.can f2) (IsZ.can f3) (IsZ.can f4)) (by decide) w' (hT.later hb); rw [normV, if_neg hf] at h; exact h,
     congrArg (fun z => some (Value.bool z)) (by first | rfl | assumption | decide | simp [*] : (!true) = false),
     rfl,
     fun γ w' _ _ => plFc (sg x0) (mg x0) (sg x1) (mg x1) (sg x2) (mg x2) (sg x3) (mg x3) w',
     ⟨rfl, rfl, eqv_no (eqL_F (prim (Z4.mk x0 x1 x2 x3)) (Z4.mk x0 x1 x2 x3)) (hq) rfl⟩,
     rfl⟩
theorem plP_yes (s a b c d : ByteArray) (x0 x1 x2 x3 : Int) (m : Int) (w : World) (hs : s.size ≤ 1000) (hT : TabC w) (hM : MaxL m w) (ho : opened5 s = true) (hc : closed5 s = true) (hn : Lib.countB (inner5 s) spB = 3) (hsp : Lib.splitB spB 0 3 (inner5 s) = [a, b, c, d]) (ha : a.size ≤ 1000) (hb : b.size ≤ 1000) (hcz : c.size ≤ 1000) (hdz : d.size ≤ 1000) (zx0 : Zk x0 1000) (zx1 : Zk x1 1000) (zx2 : Zk x2 1000) (zx3 : Zk x3 1000) (p0 : parseZ a = .tuple #[Z x0, .bool true]) (p1 : parseZ b = .tuple #[Z x1, .bool true]) (p2 : parseZ c = .tuple #[Z x2, .bool true]) (p3 : parseZ d = .tuple #[Z x3, .bool true]) (hf : ¬ flatF (Z4.mk x0 x1 x2 x3)) (hq : prim (Z4.mk x0 x1 x2 x3) = (Z4.mk x0 x1 x2 x3)) :
    Calls Tryz.prog 37 #[.string s] w fun e w' => e = .returned (.tuple #[FV (prim (Z4.mk x0 x1 x2 x3)), .bool true]) ∧ Below w.heap.size w w' := by
  obtain ⟨z1, z2⟩ := inner5_size s
  have f1 : Zk x0 1000 := Zk.up (zx0) (by decide)
  have f2 : Zk x1 1000 := Zk.up (zx1) (by decide)
  have f3 : Zk x2 1000 := Zk.up (zx2) (by decide)
  have f4 : Zk x3 1000 := Zk.up (zx3) (by decide)
  have f5 : Fk (prim (Z4.mk x0 x1 x2 x3)) 1000 := Fk.up ((Fk.prim (Fk.mk f1 f2 f3 f4))) (by decide)
  exact SX.run (w := w) (.string s :: .string (behind5 s) :: .bool true :: .string (inner5 s) :: .bool true :: .string a :: .string b :: .string c :: .string d :: .bool false :: .bool false :: .bool (sg x0) :: .string (mg x0) :: .bool true :: .bool false :: .bool (sg x1) :: .string (mg x1) :: .bool true :: .bool false :: .bool (sg x2) :: .string (mg x2) :: .bool true :: .bool false :: .bool (sg x3) :: .string (mg x3) :: .bool true :: .bool false :: .bool (sg (prim (Z4.mk x0 x1 x2 x3)).a) :: .string (mg (prim (Z4.mk x0 x1 x2 x3)).a) :: .bool (sg (prim (Z4.mk x0 x1 x2 x3)).b) :: .string (mg (prim (Z4.mk x0 x1 x2 x3)).b) :: .bool (sg (prim (Z4.mk x0 x1 x2 x3)).c) :: .string (mg (prim (Z4.mk x0 x1 x2 x3)).c) :: .bool (sg (prim (Z4.mk x0 x1 x2 x3)).d) :: .string (mg (prim (Z4.mk x0 x1 x2 x3)).d) :: .bool true :: .bool false :: .bool (sg x0) :: .string (mg x0) :: .bool (sg x1) :: .string (mg x1) :: .bool (sg x2) :: .string (mg x2) :: .bool (sg x3) :: .string (mg x3) :: .bool false :: []) [.fr 4, .b false, .b false, .b false, .b false, .b false, .b false, .b false, .b false] [.c (.p (.at 0))] 1 (.tup [.agg [.p (.at 27), .p (.at 28), .p (.at 29), .p (.at 30), .p (.at 31), .p (.at 32), .p (.at 33), .p (.at 34)], .c (.p (.lit (.bool true)))]) [.call 87 [.c (.p (.at 0)), .c (.p (.lit (.string ⟨#[91]⟩)))] (.tup [.c (.p (.at 1)), .c (.p (.at 2))]) [], .call 88 [.c (.p (.at 1)), .c (.p (.lit (.string ⟨#[93]⟩)))] (.tup [.c (.p (.at 3)), .c (.p (.at 4))]) [], .callF 89 [.c (.p (.at 3)), .c (.p (.lit (.string ⟨#[32]⟩)))] 9 [.p (.at 5), .p (.at 6), .p (.at 7), .p (.at 8)] 4 [], .op1 .not (.p (.at 2)) 9, .isB 9 false, .op1 .not (.p (.at 4)) 10, .isB 10 false, .call 90 [.c (.p (.at 5))] (.tup [.agg [.p (.at 11), .p (.at 12)], .c (.p (.at 13))]) [], .op1 .not (.p (.at 13)) 14, .isB 14 false, .call 90 [.c (.p (.at 6))] (.tup [.agg [.p (.at 15), .p (.at 16)], .c (.p (.at 17))]) [], .op1 .not (.p (.at 17)) 18, .isB 18 false, .call 90 [.c (.p (.at 7))] (.tup [.agg [.p (.at 19), .p (.at 20)], .c (.p (.at 21))]) [], .op1 .not (.p (.at 21)) 22, .isB 22 false, .call 90 [.c (.p (.at 8))] (.tup [.agg [.p (.at 23), .p (.at 24)], .c (.p (.at 25))]) [], .op1 .not (.p (.at 25)) 26, .isB 26 false, .call 47 [.agg [.p (.at 11), .p (.at 12), .p (.at 15), .p (.at 16), .p (.at 19), .p (.at 20), .p (.at 23), .p (.at 24)]] (.tup [.agg [.p (.at 27), .p (.at 28), .p (.at 29), .p (.at 30), .p (.at 31), .p (.at 32), .p (.at 33), .p (.at 34)], .c (.p (.at 35))]) [], .op1 .not (.p (.at 35)) 36, .isB 36 false, .call 69 [.agg [.p (.at 11), .p (.at 12), .p (.at 15), .p (.at 16), .p (.at 19), .p (.at 20), .p (.at 23), .p (.at 24)]] (.one (.agg [.p (.at 37), .p (.at 38), .p (.at 39), .p (.at 40), .p (.at 41), .p (.at 42), .p (.at 43), .p (.at 44)])) [], .eqs true [.b, .s, .b, .s, .b, .s, .b, .s] [.p (.at 27), .p (.at 28), .p (.at 29), .p (.at 30), .p (.at 31), .p (.at 32), .p (.at 33), .p (.at 34)] [.p (.at 37), .p (.at 38), .p (.at 39), .p (.at 40), .p (.at 41), .p (.at 42), .p (.at 43), .p (.at 44)] 45, .isB 45 false] Tryz.func37 (by kernel_rfl) rfl (by kernel_rfl) rfl (by kernel_rfl)
    ⟨fun γ w' _ _ => by have h := Tryz.strings_CutPrefix s ⟨#[91]⟩ w'; rw [show Lib.hasPrefix s.data.toList (⟨#[91]⟩ : ByteArray).data.toList = true from ho] at h; exact h.mono fun _ _ k => ⟨k.1, k.2 ▸ Below.refl _ _⟩,
     fun γ w' _ _ => by have h := Tryz.strings_CutSuffix (behind5 s) ⟨#[93]⟩ w' (by omega); rw [show Lib.hasSuffix (behind5 s).data.toList (⟨#[93]⟩ : ByteArray).data.toList = true from hc] at h; exact h.mono fun _ _ k => ⟨k.1, k.2 ▸ Below.refl _ _⟩,
     fun γ w' bw _ => by have h := Tryz.strings_Split (inner5 s) ⟨#[32]⟩ m w' (by omega) (hM.later bw) (by decide); rw [show Lib.countB (inner5 s) ⟨#[32]⟩ = 3 from hn, show Lib.splitB ⟨#[32]⟩ 0 3 (inner5 s) = [a, b, c, d] from hsp] at h; exact h,
     congrArg (fun z => some (Value.bool z)) (by first | rfl | assumption | decide | simp [*] : (!true) = false),
     rfl,
     congrArg (fun z => some (Value.bool z)) (by first | rfl | assumption | decide | simp [*] : (!true) = false),
     rfl,
     fun γ w' bw _ => by have h := Parse2_any a w' (by omega); rw [p0] at h; exact h,
     congrArg (fun z => some (Value.bool z)) (by first | rfl | assumption | decide | simp [*] : (!true) = false),
     rfl,
     fun γ w' bw _ => by have h := Parse2_any b w' (by omega); rw [p1] at h; exact h,
     congrArg (fun z => some (Value.bool z)) (by first | rfl | assumption | decide | simp [*] : (!true) = false),
     rfl,
     fun γ w' bw _ => by have h := Parse2_any c w' (by omega); rw [p2] at h; exact h,
     congrArg (fun z => some (Value.bool z)) (by first | rfl | assumption | decide | simp [*] : (!true) = false),
     rfl,
     fun γ w' bw _ => by have h := Parse2_any d w' (by omega); rw [p3] at h; exact h,
     congrArg (fun z => some (Value.bool z)) (by first | rfl | assumption | decide | simp [*] : (!true) = false),
     rfl,
     fun γ w' hb _ => by have h := plReduced_any (IsF.mk (IsZ.can f1) (IsZ.can f2) (IsZ.can f3) (IsZ.can f4)) (by decide) w' (hT.later hb); rw [normV, if_neg hf] at h; exact h,
     congrArg (fun z => some (Value.bool z)) (by first | rfl | assumption | decide | simp [*] : (!true) = false),
     rfl,
     fun γ w' _ _ => plFc (sg x0) (mg x0) (sg x1) (mg x1) (sg x2) (mg x2) (sg x3) (mg x3) w',
     ⟨rfl, rfl, eqv_yes (eqL_F (prim (Z4.mk x0 x1 x2 x3)) (Z4.mk x0 x1 x2 x3)) (hq) rfl⟩,
     rfl⟩
theorem plParse_any (s : ByteArray) (m : Int) (w : World) (hs : s.size ≤ 1000) (hT : TabC w) (hM : MaxL m w) :
    Calls Tryz.prog 37 #[.string s] w fun e w' => e = .returned (planeT s) ∧ Below w.heap.size w w' := by
  cases ho : opened5 s with
  | false => rw [planeT_no (fun ⟨p, _, h⟩ => by rw [(textF_split h).1] at ho; cases ho)]; exact plNo_open s m w hs hM ho
  | true =>
    cases hc : closed5 s with
    | false => rw [planeT_no (fun ⟨p, _, h⟩ => by rw [(textF_split h).2.1] at hc; cases hc)]; exact plNo_close s m w hs hM ho hc
    | true =>
      by_cases hn : Lib.countB (inner5 s) spB = 3
      · obtain ⟨a, b, c, d, hsp, hin⟩ := sp_three hn
        obtain ⟨_, hz⟩ := inner5_size s
        have hsz := congrArg ByteArray.size hin
        simp only [ByteArray.size_append] at hsz
        have ha : a.size ≤ 1000 := by omega
        have hb : b.size ≤ 1000 := by omega
        have hcz : c.size ≤ 1000 := by omega
        have hdz : d.size ≤ 1000 := by omega
        obtain ⟨x0, o0, p0⟩ := parseZ_ex a
        obtain ⟨x1, o1, p1⟩ := parseZ_ex b
        obtain ⟨x2, o2, p2⟩ := parseZ_ex c
        obtain ⟨x3, o3, p3⟩ := parseZ_ex d
        have zx0 : Zk x0 1000 := (parseZ_size p0).up ha
        have zx1 : Zk x1 1000 := (parseZ_size p1).up hb
        have zx2 : Zk x2 1000 := (parseZ_size p2).up hcz
        have zx3 : Zk x3 1000 := (parseZ_size p3).up hdz
        have hno : (o0 = true → o1 = true → o2 = true → o3 = true → ¬ flatF ⟨x0, x1, x2, x3⟩ → prim ⟨x0, x1, x2, x3⟩ = ⟨x0, x1, x2, x3⟩ → False) → ¬ Has5 s := by
          rintro hf ⟨q, hq, h⟩
          have e := (textF_split h).2.2.2
          rw [hsp] at e
          simp only [List.cons.injEq, and_true] at e
          obtain ⟨e0, e1, e2, e3⟩ := e
          have k0 := parseZ_is p0 e0.symm
          have k1 := parseZ_is p1 e1.symm
          have k2 := parseZ_is p2 e2.symm
          have k3 := parseZ_is p3 e3.symm
          have eq : (⟨x0, x1, x2, x3⟩ : Z4) = q := Z4.ext' k0.1 k1.1 k2.1 k3.1
          exact hf k0.2 k1.2 k2.2 k3.2 (by rw [eq]; exact hq.2) (by rw [eq]; exact hq.1)
        cases o0 with
        | false => rw [planeT_no (hno (fun h => by cases h))]; exact plP_ok0 s a b c d x0 x1 x2 x3 m w hs hT hM ho hc hn hsp ha hb hcz hdz zx0 zx1 zx2 zx3 p0
        | true =>
          cases o1 with
          | false => rw [planeT_no (hno (fun _ h => by cases h))]; exact plP_ok1 s a b c d x0 x1 x2 x3 m w hs hT hM ho hc hn hsp ha hb hcz hdz zx0 zx1 zx2 zx3 p0 p1
          | true =>
            cases o2 with
            | false => rw [planeT_no (hno (fun _ _ h => by cases h))]; exact plP_ok2 s a b c d x0 x1 x2 x3 m w hs hT hM ho hc hn hsp ha hb hcz hdz zx0 zx1 zx2 zx3 p0 p1 p2
            | true =>
              cases o3 with
              | false => rw [planeT_no (hno (fun _ _ _ h => by cases h))]; exact plP_ok3 s a b c d x0 x1 x2 x3 m w hs hT hM ho hc hn hsp ha hb hcz hdz zx0 zx1 zx2 zx3 p0 p1 p2 p3
              | true =>
                by_cases hf : flatF ⟨x0, x1, x2, x3⟩
                · rw [planeT_no (hno (fun _ _ _ _ h _ => h hf))]; exact plP_flat s a b c d x0 x1 x2 x3 m w hs hT hM ho hc hn hsp ha hb hcz hdz zx0 zx1 zx2 zx3 p0 p1 p2 p3 hf
                by_cases hq : prim ⟨x0, x1, x2, x3⟩ = ⟨x0, x1, x2, x3⟩
                · have ht : textF ⟨x0, x1, x2, x3⟩ = s := textF_back ho hc hin (parseZ_back p0) (parseZ_back p1) (parseZ_back p2) (parseZ_back p3)
                  rw [planeT_yes ⟨hq, hf⟩ ht, ← hq]
                  have h := plP_yes s a b c d x0 x1 x2 x3 m w hs hT hM ho hc hn hsp ha hb hcz hdz zx0 zx1 zx2 zx3 p0 p1 p2 p3 hf hq
                  rw [hq] at h ⊢
                  exact h
                · rw [planeT_no (hno (fun _ _ _ _ _ h => hq h))]; exact plP_loose s a b c d x0 x1 x2 x3 m w hs hT hM ho hc hn hsp ha hb hcz hdz zx0 zx1 zx2 zx3 p0 p1 p2 p3 hf hq
      · rw [planeT_no (fun ⟨p, _, h⟩ => hn (textF_split h).2.2.1)]; exact plNo_count s m w hs hM ho hc hn
end Go.Proofs.YtpmfaommooneiaaGreatDoor
