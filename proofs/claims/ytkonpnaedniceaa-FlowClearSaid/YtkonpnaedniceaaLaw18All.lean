/- Layer 18: any words, exclusions, numbers: every Flow; they stay. -/
import Derived.Test.YtkonpnaedniceaaAwake18
import Derived.Test.YtkonpnaedniceaaRefFlow2
import Derived.Test.YtkonpnaedniceaaRefBand
import Derived.Test.YtkonpnaedniceaaSame
import Derived.Test.YtkonpnaedniceaaCells
namespace Go.Proofs.Ytkonpnaedniceaa
open Go.RowKit Go.Deep
set_option linter.unusedSimpArgs false
set_option linter.unusedVariables false
/-- the lines come to an end -/
theorem Flw.ends (F : Flw) : ∃ l, (F.at l).1 = F.m := by
  have key : ∀ d, (∃ l, (F.at l).1 = F.m) ∨ (d ≤ (F.at d).1 ∧ (F.at d).1 < F.m) := by
    intro d
    induction d with
    | zero =>
      rcases Nat.eq_zero_or_pos F.m with h | h
      · exact .inl ⟨0, h.symm⟩
      · exact .inr ⟨Nat.zero_le _, h⟩
    | succ d ih =>
      rcases ih with h | ⟨h1, h2⟩
      · exact .inl h
      · have h3 := F.next_le h2
        have h4 := F.less d
        rcases Nat.lt_or_ge (F.at (d + 1)).1 F.m with h5 | h5
        · exact .inr ⟨by omega, h5⟩
        · exact .inl ⟨d + 1, by omega⟩
  rcases key F.m with h | ⟨h1, h2⟩
  · exact h
  · omega
theorem flowN_80 (F : Flw) : flowN F ≤ 80 := flowN_le F F.ends
end Go.Proofs.Ytkonpnaedniceaa
