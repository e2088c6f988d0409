/- Texts of planes. -/
import Derived.Test.YtpmfaommooneiaaGreatDoorVr
set_option linter.unusedVariables false
set_option linter.unusedSimpArgs false
namespace Go.Proofs.YtpmfaommooneiaaGreatDoor
open Go.RowKit NM SX
def textF (q : Z4) : ByteArray := ⟨#[91]⟩ ++ decZ q.a ++ ⟨#[32]⟩ ++ decZ q.b ++ ⟨#[32]⟩ ++ decZ q.c ++ ⟨#[32]⟩ ++ decZ q.d ++ ⟨#[93]⟩
theorem lit91 : (⟨#[91]⟩ : ByteArray).size = 1 := rfl
theorem lit32 : (⟨#[32]⟩ : ByteArray).size = 1 := rfl
theorem lit93 : (⟨#[93]⟩ : ByteArray).size = 1 := rfl
end Go.Proofs.YtpmfaommooneiaaGreatDoor
