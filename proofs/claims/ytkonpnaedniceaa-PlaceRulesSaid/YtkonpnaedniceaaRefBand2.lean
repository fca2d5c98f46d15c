/- Layers 16, 17: bands, by the document. -/
import Derived.Test.YtkonpnaedniceaaRefBand
import Derived.Deep.CutRange
namespace Go.Proofs.Ytkonpnaedniceaa
open Go.RowKit Go.Deep
set_option linter.unusedSimpArgs false
set_option linter.unusedVariables false
end Go.Proofs.Ytkonpnaedniceaa
