/- The document's answers of layer 2. -/
import Derived.Test.YtpblajjfgnhkdaaDoorModeSide
import Derived.Test.YtpblajjfgnhkdaaDoorModeAll
namespace Go.Proofs.YtpblajjfgnhkdaaDoor
open Go.RowKit
theorem modeMayB_no' {wr di : Int} (h : modeMayB wr di = false) : wr < 0 ∨ 2 < wr ∨ di < 0 ∨ 1 < di := by
  rw [Bool.eq_false_iff, ne_eq, modeMayB_true] at h; omega
theorem edgeS_out {wr di side : Int} (h : side < 0 ∨ 3 < side) : edgeS wr di side = (0, 200) := if_neg (by
  rw [inB_true]; omega)
end Go.Proofs.YtpblajjfgnhkdaaDoor
