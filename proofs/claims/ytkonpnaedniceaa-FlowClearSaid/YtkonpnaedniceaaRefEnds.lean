/- Layers 16, 17: where floats end, by the document. -/
import Derived.Test.YtkonpnaedniceaaRefBand2
namespace Go.Proofs.Ytkonpnaedniceaa
open Go.RowKit Go.Deep
set_option linter.unusedSimpArgs false
set_option linter.unusedVariables false
end Go.Proofs.Ytkonpnaedniceaa
