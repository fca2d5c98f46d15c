/- Layer 18: the document's Flow. -/
import Derived.Test.YtkonpnaedniceaaFlow
import Derived.Test.YtkonpnaedniceaaRefOffset
import Derived.Test.YtkonpnaedniceaaRefBreak
import Derived.Test.YtkonpnaedniceaaRefPlace
import Derived.Deep.CutRange
import Derived.BigRegion
namespace Go.Proofs.Ytkonpnaedniceaa
open Go.RowKit Go.Deep
set_option linter.unusedSimpArgs false
set_option linter.unusedVariables false
theorem sizeS_plain {how W D : Int} {many last : Bool} (h : how ≠ 3 ∨ many = false ∨ last = true) : sizeS how W D many last = D := by
  unfold sizeS
  rw [if_neg]
  rcases h with h | h | h
  · simp [h]
  · simp [h]
  · simp [h]
theorem sizeS_just {W D : Int} : sizeS 3 W D true false = max D W := rfl
end Go.Proofs.Ytkonpnaedniceaa
