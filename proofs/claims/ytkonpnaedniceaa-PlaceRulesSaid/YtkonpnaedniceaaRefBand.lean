/- Layers 16, 17: bands, by the document. -/
import Derived.Test.YtkonpnaedniceaaSettle
namespace Go.Proofs.Ytkonpnaedniceaa
open Go.RowKit Go.Deep
set_option linter.unusedSimpArgs false
set_option linter.unusedVariables false
theorem Kept.kept {a b c : World} (h : Kept a b) (k : Kept b c) : Kept a c := h.trans k
/-- the order of the document's tests -/
def refExcB (x : Exc) : Bool := inB 1 2 x.side && inB 0 4194304 x.si && inB 0 4194304 x.sb && inB 0 4194304 x.ab && mayB x.ai
theorem refExcB_eq (x : Exc) : refExcB x = excB x := by
  unfold refExcB excB
  cases inB 1 2 x.side <;> cases inB 0 4194304 x.si <;> cases inB 0 4194304 x.sb <;> cases inB 0 4194304 x.ab <;> cases mayB x.ai <;> rfl
end Go.Proofs.Ytkonpnaedniceaa
