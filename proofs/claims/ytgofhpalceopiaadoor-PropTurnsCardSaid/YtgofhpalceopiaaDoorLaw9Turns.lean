/- Layer 9: modes that differ in their direction alone. -/
import Derived.Test.YtgofhpalceopiaaDoorLaw9Turns0
import Derived.Test.YtgofhpalceopiaaDoorLaw9Turns1
import Derived.Test.YtgofhpalceopiaaDoorLaw9Turns2
import Derived.Test.YtgofhpalceopiaaDoorMask
namespace Go.Proofs.YtgofhpalceopiaaDoor
open Go.RowKit
set_option linter.unusedSimpArgs false
set_option linter.unusedVariables false
theorem propTurns_walk (c : Int) (w : World) (ht : TabN w) :
    Calls Tryd.prog 6 #[.int .i64 c] w fun e w' => e = .returned (.bool true) ∧ Kept w w' := by
  obtain ⟨i, hi, i1, i2⟩ := urest c 3 (by decide) (by decide)
  rcases (by omega : i = 0 ∨ i = 1 ∨ i = 2) with rfl | rfl | rfl
  · exact propTurns_0 c hi w ht
  · exact propTurns_1 c hi w ht
  · exact propTurns_2 c hi w ht
end Go.Proofs.YtgofhpalceopiaaDoor
