/- Texts of planes. -/
import Derived.Test.YtpmfaommooneiaaGreatDoorVr
set_option linter.unusedVariables false
set_option linter.unusedSimpArgs false
namespace Go.Proofs.YtpmfaommooneiaaGreatDoor
open Go.RowKit NM SX
def textF (q : Z4) : ByteArray := ⟨#[91]⟩ ++ decZ q.a ++ ⟨#[32]⟩ ++ decZ q.b ++ ⟨#[32]⟩ ++ decZ q.c ++ ⟨#[32]⟩ ++ decZ q.d ++ ⟨#[93]⟩
theorem lit91 : (⟨#[91]⟩ : ByteArray).size = 1 := rfl
theorem lit32 : (⟨#[32]⟩ : ByteArray).size = 1 := rfl
theorem lit93 : (⟨#[93]⟩ : ByteArray).size = 1 := rfl
theorem jText {u0 : Value} {x0 : Int} {k0 : Nat} (hu0 : IsZ u0 x0 k0) (hk0 : k0 ≤ 1000000) (w : World) :
    Calls Tryz.prog 94 #[u0] w fun e w' => e = .returned (.string (decZ x0)) ∧ Below w.heap.size w w' := by
  obtain ⟨n0, s0, rfl, rfl, h01⟩ := hu0
  exact refText2_any n0 s0 w (by omega)
theorem v5Text {ux0 : Value} {x0 : Z4} {kx0 : Nat} (hx0 : IsF ux0 x0 kx0) (lx0 : kx0 ≤ 10000) (w : World) :
    Calls Tryz.prog 40 #[ux0] w fun e w' => e = .returned (.string (textF x0)) ∧ Below w.heap.size w w' := by
  replace hx0 := hx0.up lx0
  have zx0 := hx0.sz
  obtain ⟨x00, x01, x02, x03, x04, x05, x06, x07, rfl, ex00, sx01, ex01, sx03, ex02, sx05, ex03, sx07⟩ := id hx0
  have wx00 : IsZ (.agg #[.bool x00, .string x01]) x0.a 10000 := ⟨x00, x01, rfl, ex00, sx01⟩
  have zx00 := wx00.sz
  have wx01 : IsZ (.agg #[.bool x02, .string x03]) x0.b 10000 := ⟨x02, x03, rfl, ex01, sx03⟩
  have zx01 := wx01.sz
  have wx02 : IsZ (.agg #[.bool x04, .string x05]) x0.c 10000 := ⟨x04, x05, rfl, ex02, sx05⟩
  have zx02 := wx02.sz
  have wx03 : IsZ (.agg #[.bool x06, .string x07]) x0.d 10000 := ⟨x06, x07, rfl, ex03, sx07⟩
  have zx03 := wx03.sz
  have y0 := decZ_size zx0.1
  have y1 := decZ_size zx0.2.1
  have y2 := decZ_size zx0.2.2.1
  have y3 := decZ_size zx0.2.2.2
  exact SX.run (w := w) [.bool x00, .string x01, .bool x02, .string x03, .bool x04, .string x05, .bool x06, .string x07, .string (decZ x0.a), .string ((⟨#[91]⟩ : ByteArray) ++ (decZ x0.a)), .string (((⟨#[91]⟩ : ByteArray) ++ (decZ x0.a)) ++ (⟨#[32]⟩ : ByteArray)), .string (decZ x0.b), .string ((((⟨#[91]⟩ : ByteArray) ++ (decZ x0.a)) ++ (⟨#[32]⟩ : ByteArray)) ++ (decZ x0.b)), .string (((((⟨#[91]⟩ : ByteArray) ++ (decZ x0.a)) ++ (⟨#[32]⟩ : ByteArray)) ++ (decZ x0.b)) ++ (⟨#[32]⟩ : ByteArray)), .string (decZ x0.c), .string ((((((⟨#[91]⟩ : ByteArray) ++ (decZ x0.a)) ++ (⟨#[32]⟩ : ByteArray)) ++ (decZ x0.b)) ++ (⟨#[32]⟩ : ByteArray)) ++ (decZ x0.c)), .string (((((((⟨#[91]⟩ : ByteArray) ++ (decZ x0.a)) ++ (⟨#[32]⟩ : ByteArray)) ++ (decZ x0.b)) ++ (⟨#[32]⟩ : ByteArray)) ++ (decZ x0.c)) ++ (⟨#[32]⟩ : ByteArray)), .string (decZ x0.d), .string ((((((((⟨#[91]⟩ : ByteArray) ++ (decZ x0.a)) ++ (⟨#[32]⟩ : ByteArray)) ++ (decZ x0.b)) ++ (⟨#[32]⟩ : ByteArray)) ++ (decZ x0.c)) ++ (⟨#[32]⟩ : ByteArray)) ++ (decZ x0.d)), .string (((((((((⟨#[91]⟩ : ByteArray) ++ (decZ x0.a)) ++ (⟨#[32]⟩ : ByteArray)) ++ (decZ x0.b)) ++ (⟨#[32]⟩ : ByteArray)) ++ (decZ x0.c)) ++ (⟨#[32]⟩ : ByteArray)) ++ (decZ x0.d)) ++ (⟨#[93]⟩ : ByteArray))] [] [.ga 0 8] 8 (.one (.ca 19)) [.call 94 [.ga 0 2] (.one (.ca 8)) [], .op2 false .add (.p (.lit (.string ⟨#[91]⟩))) (.pa 8) 9, .op2 false .add (.pa 9) (.p (.lit (.string ⟨#[32]⟩))) 10, .call 94 [.ga 2 2] (.one (.ca 11)) [], .op2 false .add (.pa 10) (.pa 11) 12, .op2 false .add (.pa 12) (.p (.lit (.string ⟨#[32]⟩))) 13, .call 94 [.ga 4 2] (.one (.ca 14)) [], .op2 false .add (.pa 13) (.pa 14) 15, .op2 false .add (.pa 15) (.p (.lit (.string ⟨#[32]⟩))) 16, .call 94 [.ga 6 2] (.one (.ca 17)) [], .op2 false .add (.pa 16) (.pa 17) 18, .op2 false .add (.pa 18) (.p (.lit (.string ⟨#[93]⟩))) 19] Tryz.func40 (by kernel_rfl) rfl (by kernel_rfl) rfl (by kernel_rfl)
    ⟨fun γ w' _ _ => jText wx00 (by decide) w',
     if_neg (cat_ok (by (try simp only [ByteArray.size_append]); (try simp only [lit91, lit32, lit93]); omega)),
     if_neg (cat_ok (by (try simp only [ByteArray.size_append]); (try simp only [lit91, lit32, lit93]); omega)),
     fun γ w' _ _ => jText wx01 (by decide) w',
     if_neg (cat_ok (by (try simp only [ByteArray.size_append]); (try simp only [lit91, lit32, lit93]); omega)),
     if_neg (cat_ok (by (try simp only [ByteArray.size_append]); (try simp only [lit91, lit32, lit93]); omega)),
     fun γ w' _ _ => jText wx02 (by decide) w',
     if_neg (cat_ok (by (try simp only [ByteArray.size_append]); (try simp only [lit91, lit32, lit93]); omega)),
     if_neg (cat_ok (by (try simp only [ByteArray.size_append]); (try simp only [lit91, lit32, lit93]); omega)),
     fun γ w' _ _ => jText wx03 (by decide) w',
     if_neg (cat_ok (by (try simp only [ByteArray.size_append]); (try simp only [lit91, lit32, lit93]); omega)),
     if_neg (cat_ok (by (try simp only [ByteArray.size_append]); (try simp only [lit91, lit32, lit93]); omega))⟩
end Go.Proofs.YtpmfaommooneiaaGreatDoor
