/- Words and lines compared, written over. -/
import Derived.Test.YtkonpnaedniceaaLend
namespace Go.Proofs.Ytkonpnaedniceaa
open Go.RowKit
set_option linter.unusedSimpArgs false
set_option linter.unusedVariables false
/-- the middle cell of each of three -/
def Mid (cur : Array Value) (k m : Nat) : Prop := ∀ i, k ≤ i → i < m → ∃ x : Int, cur[i * 3 + 1]? = some (.int .i64 x)
theorem Mid.set {cur : Array Value} {k m : Nat} (h : Mid cur k m) (v : Value) : Mid (cur.setIfInBounds (k * 3 + 1) v) (k + 1) m := by
  intro i hi hm
  obtain ⟨x, hx⟩ := h i (by omega) hm
  exact ⟨x, by rw [Array.getElem?_setIfInBounds_ne (by omega)]; exact hx⟩
end Go.Proofs.Ytkonpnaedniceaa
