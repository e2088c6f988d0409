/- Package point: arithmetic. -/
import Derived.Test.YtpmfaommooneiaaDoorPu
set_option linter.unusedVariables false
set_option linter.unusedSimpArgs false
namespace Go.Proofs.YtpmfaommooneiaaDoor
open Go.RowKit NM SX
theorem abs_iv (n : Bool) (s : ByteArray) : (iv n s).natAbs = nat s := by
  cases n
  · rw [iv_false]; rfl
  · show (iv (!false) s).natAbs = _
    rw [iv_not, Int.natAbs_neg, iv_false]; rfl
end Go.Proofs.YtpmfaommooneiaaDoor
