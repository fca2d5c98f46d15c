/- Layer 3: geometry: Back. -/
import Derived.Test.YtbjkphelkfeliaaDoorGeomB1
import Derived.Test.YtbjkphelkfeliaaDoorGeomB2
import Derived.Test.YtbjkphelkfeliaaDoorGeomB3
namespace Go.Proofs.YtbjkphelkfeliaaDoor
open Go.RowKit
set_option linter.unusedSimpArgs false
set_option linter.unusedVariables false
theorem back_any (wm di ia ib x y bw bh : Int) (w : World) (ht : Tab w) :
    Calls Tryd.prog 12 #[modeV wm di, sizeV ia ib, fourV x y bw bh] w fun e w' => e = .returned (resV (backS wm di ia ib x y bw bh)) ∧ Kept w w' := by
  cases h1 : modeMayB wm di
  · exact back_no1 _ _ _ _ _ _ _ _  w ht h1
  cases h2 : sizedB ia ib
  · exact back_no2 _ _ _ _ _ _ _ _  w ht h1 h2
  cases h3 : sizedB bw bh
  · exact back_no3 _ _ _ _ _ _ _ _  w ht h1 h2 h3
  cases h4 : farXB2 x y
  · exact back_no4 _ _ _ _ _ _ _ _  w ht h1 h2 h3 h4
  cases h9 : vertB wm di
  · exact back_false _ _ _ _ _ _ _ _  w ht h1 h2 h3 h4 h9
  · exact back_true _ _ _ _ _ _ _ _  w ht h1 h2 h3 h4 h9
end Go.Proofs.YtbjkphelkfeliaaDoor
