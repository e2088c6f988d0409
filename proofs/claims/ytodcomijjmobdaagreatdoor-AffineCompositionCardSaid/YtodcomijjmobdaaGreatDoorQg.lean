/- Great and great of layer 3. -/
import Derived.Test.YtodcomijjmobdaaGreatDoorQ0
import Derived.Test.YtodcomijjmobdaaGreatDoorSx
import Derived.Test.YtodcomijjmobdaaGreatDoorN1
import Derived.Test.YtodcomijjmobdaaGreatDoorN4
set_option linter.unusedVariables false
set_option linter.unusedSimpArgs false
namespace Go.Proofs.YtodcomijjmobdaaGreatDoor
open Go.RowKit NM SX
theorem Great3_no (n : Bool) (s t : ByteArray) (m : Bool) (p q : ByteArray) (k : Bool) (u v : ByteArray) (w : World) (g0 : Nat) (hc0 : SX.CellsAt w g0 0 [.bool n, .string s, .string t, .bool m, .string p, .string q, .bool k, .string u, .string v]) (hs : s.size ≤ 24) (ht : t.size ≤ 24) (hp : p.size ≤ 24) (hq : q.size ≤ 24) (hu : u.size ≤ 24) (hv : v.size ≤ 24) :
    Calls Tryz.prog 88 #[.slice (some ⟨g0, 0, none⟩) 3 3] w fun e w' => e = .returned (.int .i64 0) ∧ Below w.heap.size w w' := by
  exact SX.runX (w := w) [.bool n, .string s, .string t, .bool m, .string p, .string q, .bool k, .string u, .string v, .int .i64 (s.size : Int), .bool false, .int .i64 (t.size : Int), .bool false, .int .i64 (p.size : Int), .bool false, .int .i64 (q.size : Int), .bool false, .int .i64 (u.size : Int), .bool false, .int .i64 (v.size : Int), .bool false] [g0] [(23, [.p (.at 0), .p (.at 1), .p (.at 2), .p (.at 3), .p (.at 4), .p (.at 5), .p (.at 6), .p (.at 7), .p (.at 8)])] [.c (.p (.slc 0 0 3 3))] 9 [.b false, .b false, .b false, .b false, .b false, .b false] (.one (.c (.p (.lit (.int .i64 0))))) [.len (.p (.at 1)) 9, .op2 false .gtr (.p (.at 9)) (.p (.lit (.int .i64 24))) 10, .isB 10 false, .len (.p (.at 2)) 11, .op2 false .gtr (.p (.at 11)) (.p (.lit (.int .i64 24))) 12, .isB 12 false, .len (.p (.at 4)) 13, .op2 false .gtr (.p (.at 13)) (.p (.lit (.int .i64 24))) 14, .isB 14 false, .len (.p (.at 5)) 15, .op2 false .gtr (.p (.at 15)) (.p (.lit (.int .i64 24))) 16, .isB 16 false, .len (.p (.at 7)) 17, .op2 false .gtr (.p (.at 17)) (.p (.lit (.int .i64 24))) 18, .isB 18 false, .len (.p (.at 8)) 19, .op2 false .gtr (.p (.at 19)) (.p (.lit (.int .i64 24))) 20, .isB 20 false] (SX.held1 rfl hc0) Tryz.func88 (by kernel_rfl) rfl rfl (by kernel_rfl)
    ⟨⟨_, rfl, rfl⟩,
     congrArg (fun z => some (Value.bool z)) (decide_eq_false (by omega) : decide ((s.size : Int) > (24 : Int)) = false),
     rfl,
     ⟨_, rfl, rfl⟩,
     congrArg (fun z => some (Value.bool z)) (decide_eq_false (by omega) : decide ((t.size : Int) > (24 : Int)) = false),
     rfl,
     ⟨_, rfl, rfl⟩,
     congrArg (fun z => some (Value.bool z)) (decide_eq_false (by omega) : decide ((p.size : Int) > (24 : Int)) = false),
     rfl,
     ⟨_, rfl, rfl⟩,
     congrArg (fun z => some (Value.bool z)) (decide_eq_false (by omega) : decide ((q.size : Int) > (24 : Int)) = false),
     rfl,
     ⟨_, rfl, rfl⟩,
     congrArg (fun z => some (Value.bool z)) (decide_eq_false (by omega) : decide ((u.size : Int) > (24 : Int)) = false),
     rfl,
     ⟨_, rfl, rfl⟩,
     congrArg (fun z => some (Value.bool z)) (decide_eq_false (by omega) : decide ((v.size : Int) > (24 : Int)) = false),
     rfl⟩
theorem Great3_y0 (n : Bool) (s t : ByteArray) (m : Bool) (p q : ByteArray) (k : Bool) (u v : ByteArray) (w : World) (g0 : Nat) (hc0 : SX.CellsAt w g0 0 [.bool n, .string s, .string t, .bool m, .string p, .string q, .bool k, .string u, .string v])  (hs : 24 < s.size) :
    Calls Tryz.prog 88 #[.slice (some ⟨g0, 0, none⟩) 3 3] w fun e w' => e = .returned (.int .i64 1) ∧ Below w.heap.size w w' := by
  exact SX.runX (w := w) [.bool n, .string s, .string t, .bool m, .string p, .string q, .bool k, .string u, .string v, .int .i64 (s.size : Int), .bool true] [g0] [(23, [.p (.at 0), .p (.at 1), .p (.at 2), .p (.at 3), .p (.at 4), .p (.at 5), .p (.at 6), .p (.at 7), .p (.at 8)])] [.c (.p (.slc 0 0 3 3))] 9 [.b true] (.one (.c (.p (.lit (.int .i64 1))))) [.len (.p (.at 1)) 9, .op2 false .gtr (.p (.at 9)) (.p (.lit (.int .i64 24))) 10, .isB 10 true] (SX.held1 rfl hc0) Tryz.func88 (by kernel_rfl) rfl rfl (by kernel_rfl)
    ⟨⟨_, rfl, rfl⟩,
     congrArg (fun z => some (Value.bool z)) (decide_eq_true (by omega) : decide ((s.size : Int) > (24 : Int)) = true),
     rfl⟩
theorem Great3_y1 (n : Bool) (s t : ByteArray) (m : Bool) (p q : ByteArray) (k : Bool) (u v : ByteArray) (w : World) (g0 : Nat) (hc0 : SX.CellsAt w g0 0 [.bool n, .string s, .string t, .bool m, .string p, .string q, .bool k, .string u, .string v]) (hs : s.size ≤ 24) (ht : 24 < t.size) :
    Calls Tryz.prog 88 #[.slice (some ⟨g0, 0, none⟩) 3 3] w fun e w' => e = .returned (.int .i64 1) ∧ Below w.heap.size w w' := by
  exact SX.runX (w := w) [.bool n, .string s, .string t, .bool m, .string p, .string q, .bool k, .string u, .string v, .int .i64 (s.size : Int), .bool false, .int .i64 (t.size : Int), .bool true] [g0] [(23, [.p (.at 0), .p (.at 1), .p (.at 2), .p (.at 3), .p (.at 4), .p (.at 5), .p (.at 6), .p (.at 7), .p (.at 8)])] [.c (.p (.slc 0 0 3 3))] 9 [.b false, .b true] (.one (.c (.p (.lit (.int .i64 1))))) [.len (.p (.at 1)) 9, .op2 false .gtr (.p (.at 9)) (.p (.lit (.int .i64 24))) 10, .isB 10 false, .len (.p (.at 2)) 11, .op2 false .gtr (.p (.at 11)) (.p (.lit (.int .i64 24))) 12, .isB 12 true] (SX.held1 rfl hc0) Tryz.func88 (by kernel_rfl) rfl rfl (by kernel_rfl)
    ⟨⟨_, rfl, rfl⟩,
     congrArg (fun z => some (Value.bool z)) (decide_eq_false (by omega) : decide ((s.size : Int) > (24 : Int)) = false),
     rfl,
     ⟨_, rfl, rfl⟩,
     congrArg (fun z => some (Value.bool z)) (decide_eq_true (by omega) : decide ((t.size : Int) > (24 : Int)) = true),
     rfl⟩
theorem Great3_y2 (n : Bool) (s t : ByteArray) (m : Bool) (p q : ByteArray) (k : Bool) (u v : ByteArray) (w : World) (g0 : Nat) (hc0 : SX.CellsAt w g0 0 [.bool n, .string s, .string t, .bool m, .string p, .string q, .bool k, .string u, .string v]) (hs : s.size ≤ 24) (ht : t.size ≤ 24) (hp : 24 < p.size) :
    Calls Tryz.prog 88 #[.slice (some ⟨g0, 0, none⟩) 3 3] w fun e w' => e = .returned (.int .i64 1) ∧ Below w.heap.size w w' := by
  exact SX.runX (w := w) [.bool n, .string s, .string t, .bool m, .string p, .string q, .bool k, .string u, .string v, .int .i64 (s.size : Int), .bool false, .int .i64 (t.size : Int), .bool false, .int .i64 (p.size : Int), .bool true] [g0] [(23, [.p (.at 0), .p (.at 1), .p (.at 2), .p (.at 3), .p (.at 4), .p (.at 5), .p (.at 6), .p (.at 7), .p (.at 8)])] [.c (.p (.slc 0 0 3 3))] 9 [.b false, .b false, .b true] (.one (.c (.p (.lit (.int .i64 1))))) [.len (.p (.at 1)) 9, .op2 false .gtr (.p (.at 9)) (.p (.lit (.int .i64 24))) 10, .isB 10 false, .len (.p (.at 2)) 11, .op2 false .gtr (.p (.at 11)) (.p (.lit (.int .i64 24))) 12, .isB 12 false, .len (.p (.at 4)) 13, .op2 false .gtr (.p (.at 13)) (.p (.lit (.int .i64 24))) 14, .isB 14 true] (SX.held1 rfl hc0) Tryz.func88 (by kernel_rfl) rfl rfl (by kernel_rfl)
    ⟨⟨_, rfl, rfl⟩,
     congrArg (fun z => some (Value.bool z)) (decide_eq_false (by omega) : decide ((s.size : Int) > (24 : Int)) = false),
     rfl,
     ⟨_, rfl, rfl⟩,
     congrArg (fun z => some (Value.bool z)) (decide_eq_false (by omega) : decide ((t.size : Int) > (24 : Int)) = false),
     rfl,
     ⟨_, rfl, rfl⟩,
     congrArg (fun z => some (Value.bool z)) (decide_eq_true (by omega) : decide ((p.size : Int) > (24 : Int)) = true),
     rfl⟩
theorem Great3_y3 (n : Bool) (s t : ByteArray) (m : Bool) (p q : ByteArray) (k : Bool) (u v : ByteArray) (w : World) (g0 : Nat) (hc0 : SX.CellsAt w g0 0 [.bool n, .string s, .string t, .bool m, .string p, .string q, .bool k, .string u, .string v]) (hs : s.size ≤ 24) (ht : t.size ≤ 24) (hp : p.size ≤ 24) (hq : 24 < q.size) :
    Calls Tryz.prog 88 #[.slice (some ⟨g0, 0, none⟩) 3 3] w fun e w' => e = .returned (.int .i64 1) ∧ Below w.heap.size w w' := by
  exact SX.runX (w := w) [.bool n, .string s, .string t, .bool m, .string p, .string q, .bool k, .string u, .string v, .int .i64 (s.size : Int), .bool false, .int .i64 (t.size : Int), .bool false, .int .i64 (p.size : Int), .bool false, .int .i64 (q.size : Int), .bool true] [g0] [(23, [.p (.at 0), .p (.at 1), .p (.at 2), .p (.at 3), .p (.at 4), .p (.at 5), .p (.at 6), .p (.at 7), .p (.at 8)])] [.c (.p (.slc 0 0 3 3))] 9 [.b false, .b false, .b false, .b true] (.one (.c (.p (.lit (.int .i64 1))))) [.len (.p (.at 1)) 9, .op2 false .gtr (.p (.at 9)) (.p (.lit (.int .i64 24))) 10, .isB 10 false, .len (.p (.at 2)) 11, .op2 false .gtr (.p (.at 11)) (.p (.lit (.int .i64 24))) 12, .isB 12 false, .len (.p (.at 4)) 13, .op2 false .gtr (.p (.at 13)) (.p (.lit (.int .i64 24))) 14, .isB 14 false, .len (.p (.at 5)) 15, .op2 false .gtr (.p (.at 15)) (.p (.lit (.int .i64 24))) 16, .isB 16 true] (SX.held1 rfl hc0) Tryz.func88 (by kernel_rfl) rfl rfl (by kernel_rfl)
    ⟨⟨_, rfl, rfl⟩,
     congrArg (fun z => some (Value.bool z)) (decide_eq_false (by omega) : decide ((s.size : Int) > (24 : Int)) = false),
     rfl,
     ⟨_, rfl, rfl⟩,
     congrArg (fun z => some (Value.bool z)) (decide_eq_false (by omega) : decide ((t.size : Int) > (24 : Int)) = false),
     rfl,
     ⟨_, rfl, rfl⟩,
     congrArg (fun z => some (Value.bool z)) (decide_eq_false (by omega) : decide ((p.size : Int) > (24 : Int)) = false),
     rfl,
     ⟨_, rfl, rfl⟩,
     congrArg (fun z => some (Value.bool z)) (decide_eq_true (by omega) : decide ((q.size : Int) > (24 : Int)) = true),
     rfl⟩
theorem Great3_y4 (n : Bool) (s t : ByteArray) (m : Bool) (p q : ByteArray) (k : Bool) (u v : ByteArray) (w : World) (g0 : Nat) (hc0 : SX.CellsAt w g0 0 [.bool n, .string s, .string t, .bool m, .string p, .string q, .bool k, .string u, .string v]) (hs : s.size ≤ 24) (ht : t.size ≤ 24) (hp : p.size ≤ 24) (hq : q.size ≤ 24) (hu : 24 < u.size) :
    Calls Tryz.prog 88 #[.slice (some ⟨g0, 0, none⟩) 3 3] w fun e w' => e = .returned (.int .i64 1) ∧ Below w.heap.size w w' := by
  exact SX.runX (w := w) [.bool n, .string s, .string t, .bool m, .string p, .string q, .bool k, .string u, .string v, .int .i64 (s.size : Int), .bool false, .int .i64 (t.size : Int), .bool false, .int .i64 (p.size : Int), .bool false, .int .i64 (q.size : Int), .bool false, .int .i64 (u.size : Int), .bool true] [g0] [(23, [.p (.at 0), .p (.at 1), .p (.at 2), .p (.at 3), .p (.at 4), .p (.at 5), .p (.at 6), .p (.at 7), .p (.at 8)])] [.c (.p (.slc 0 0 3 3))] 9 [.b false, .b false, .b false, .b false, .b true] (.one (.c (.p (.lit (.int .i64 1))))) [.len (.p (.at 1)) 9, .op2 false .gtr (.p (.at 9)) (.p (.lit (.int .i64 24))) 10, .isB 10 false, .len (.p (.at 2)) 11, .op2 false .gtr (.p (.at 11)) (.p (.lit (.int .i64 24))) 12, .isB 12 false, .len (.p (.at 4)) 13, .op2 false .gtr (.p (.at 13)) (.p (.lit (.int .i64 24))) 14, .isB 14 false, .len (.p (.at 5)) 15, .op2 false .gtr (.p (.at 15)) (.p (.lit (.int .i64 24))) 16, .isB 16 false, .len (.p (.at 7)) 17, .op2 false .gtr (.p (.at 17)) (.p (.lit (.int .i64 24))) 18, .isB 18 true] (SX.held1 rfl hc0) Tryz.func88 (by kernel_rfl) rfl rfl (by kernel_rfl)
    ⟨⟨_, rfl, rfl⟩,
     congrArg (fun z => some (Value.bool z)) (decide_eq_false (by omega) : decide ((s.size : Int) > (24 : Int)) = false),
     rfl,
     ⟨_, rfl, rfl⟩,
     congrArg (fun z => some (Value.bool z)) (decide_eq_false (by omega) : decide ((t.size : Int) > (24 : Int)) = false),
     rfl,
     ⟨_, rfl, rfl⟩,
     congrArg (fun z => some (Value.bool z)) (decide_eq_false (by omega) : decide ((p.size : Int) > (24 : Int)) = false),
     rfl,
     ⟨_, rfl, rfl⟩,
     congrArg (fun z => some (Value.bool z)) (decide_eq_false (by omega) : decide ((q.size : Int) > (24 : Int)) = false),
     rfl,
     ⟨_, rfl, rfl⟩,
     congrArg (fun z => some (Value.bool z)) (decide_eq_true (by omega) : decide ((u.size : Int) > (24 : Int)) = true),
     rfl⟩
theorem Great3_y5 (n : Bool) (s t : ByteArray) (m : Bool) (p q : ByteArray) (k : Bool) (u v : ByteArray) (w : World) (g0 : Nat) (hc0 : SX.CellsAt w g0 0 [.bool n, .string s, .string t, .bool m, .string p, .string q, .bool k, .string u, .string v]) (hs : s.size ≤ 24) (ht : t.size ≤ 24) (hp : p.size ≤ 24) (hq : q.size ≤ 24) (hu : u.size ≤ 24) (hv : 24 < v.size) :
    Calls Tryz.prog 88 #[.slice (some ⟨g0, 0, none⟩) 3 3] w fun e w' => e = .returned (.int .i64 1) ∧ Below w.heap.size w w' := by
  exact SX.runX (w := w) [.bool n, .string s, .string t, .bool m, .string p, .string q, .bool k, .string u, .string v, .int .i64 (s.size : Int), .bool false, .int .i64 (t.size : Int), .bool false, .int .i64 (p.size : Int), .bool false, .int .i64 (q.size : Int), .bool false, .int .i64 (u.size : Int), .bool false, .int .i64 (v.size : Int), .bool true] [g0] [(23, [.p (.at 0), .p (.at 1), .p (.at 2), .p (.at 3), .p (.at 4), .p (.at 5), .p (.at 6), .p (.at 7), .p (.at 8)])] [.c (.p (.slc 0 0 3 3))] 9 [.b false, .b false, .b false, .b false, .b false, .b true] (.one (.c (.p (.lit (.int .i64 1))))) [.len (.p (.at 1)) 9, .op2 false .gtr (.p (.at 9)) (.p (.lit (.int .i64 24))) 10, .isB 10 false, .len (.p (.at 2)) 11, .op2 false .gtr (.p (.at 11)) (.p (.lit (.int .i64 24))) 12, .isB 12 false, .len (.p (.at 4)) 13, .op2 false .gtr (.p (.at 13)) (.p (.lit (.int .i64 24))) 14, .isB 14 false, .len (.p (.at 5)) 15, .op2 false .gtr (.p (.at 15)) (.p (.lit (.int .i64 24))) 16, .isB 16 false, .len (.p (.at 7)) 17, .op2 false .gtr (.p (.at 17)) (.p (.lit (.int .i64 24))) 18, .isB 18 false, .len (.p (.at 8)) 19, .op2 false .gtr (.p (.at 19)) (.p (.lit (.int .i64 24))) 20, .isB 20 true] (SX.held1 rfl hc0) Tryz.func88 (by kernel_rfl) rfl rfl (by kernel_rfl)
    ⟨⟨_, rfl, rfl⟩,
     congrArg (fun z => some (Value.bool z)) (decide_eq_false (by omega) : decide ((s.size : Int) > (24 : Int)) = false),
     rfl,
     ⟨_, rfl, rfl⟩,
     congrArg (fun z => some (Value.bool z)) (decide_eq_false (by omega) : decide ((t.size : Int) > (24 : Int)) = false),
     rfl,
     ⟨_, rfl, rfl⟩,
     congrArg (fun z => some (Value.bool z)) (decide_eq_false (by omega) : decide ((p.size : Int) > (24 : Int)) = false),
     rfl,
     ⟨_, rfl, rfl⟩,
     congrArg (fun z => some (Value.bool z)) (decide_eq_false (by omega) : decide ((q.size : Int) > (24 : Int)) = false),
     rfl,
     ⟨_, rfl, rfl⟩,
     congrArg (fun z => some (Value.bool z)) (decide_eq_false (by omega) : decide ((u.size : Int) > (24 : Int)) = false),
     rfl,
     ⟨_, rfl, rfl⟩,
     congrArg (fun z => some (Value.bool z)) (decide_eq_true (by omega) : decide ((v.size : Int) > (24 : Int)) = true),
     rfl⟩
theorem Great3_yes (n : Bool) (s t : ByteArray) (m : Bool) (p q : ByteArray) (k : Bool) (u v : ByteArray) (w : World) (g0 : Nat) (hc0 : SX.CellsAt w g0 0 [.bool n, .string s, .string t, .bool m, .string p, .string q, .bool k, .string u, .string v]) (h : ¬ (s.size ≤ 24 ∧ t.size ≤ 24 ∧ p.size ≤ 24 ∧ q.size ≤ 24 ∧ u.size ≤ 24 ∧ v.size ≤ 24)) :
    Calls Tryz.prog 88 #[.slice (some ⟨g0, 0, none⟩) 3 3] w fun e w' => e = .returned (.int .i64 1) ∧ Below w.heap.size w w' := by
  by_cases hs : s.size ≤ 24
  rotate_left
  · exact Great3_y0 n s t m p q k u v w g0 hc0  (by omega)
  by_cases ht : t.size ≤ 24
  rotate_left
  · exact Great3_y1 n s t m p q k u v w g0 hc0 hs (by omega)
  by_cases hp : p.size ≤ 24
  rotate_left
  · exact Great3_y2 n s t m p q k u v w g0 hc0 hs ht (by omega)
  by_cases hq : q.size ≤ 24
  rotate_left
  · exact Great3_y3 n s t m p q k u v w g0 hc0 hs ht hp (by omega)
  by_cases hu : u.size ≤ 24
  rotate_left
  · exact Great3_y4 n s t m p q k u v w g0 hc0 hs ht hp hq (by omega)
  by_cases hv : v.size ≤ 24
  rotate_left
  · exact Great3_y5 n s t m p q k u v w g0 hc0 hs ht hp hq hu (by omega)
  exact absurd ⟨hs, ht, hp, hq, hu, hv⟩ h
end Go.Proofs.YtodcomijjmobdaaGreatDoor
