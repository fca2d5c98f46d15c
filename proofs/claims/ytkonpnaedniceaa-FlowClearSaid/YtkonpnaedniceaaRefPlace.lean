/- Layer 17: where a float stands, by the document. -/
import Derived.Test.YtkonpnaedniceaaPlaceR
namespace Go.Proofs.Ytkonpnaedniceaa
open Go.RowKit Go.Deep
set_option linter.unusedSimpArgs false
set_option linter.unusedVariables false
theorem side_of {side : Int} (h : inB 1 2 side = true) : side = 1 ∨ side = 2 := by have := inB_true.1 h; omega
theorem side_no {side : Int} (h : inB 1 2 side = false) : (side == 1) = false ∧ (side == 2) = false ∧ (side != 1) = true ∧ (side != 2) = true := by
  have := inB_false.1 h
  simp
  omega
end Go.Proofs.Ytkonpnaedniceaa
