/- Layer 18: the document's Flow, of any words. -/
import Derived.Test.YtkonpnaedniceaaRefFlow
namespace Go.Proofs.Ytkonpnaedniceaa
open Go.RowKit Go.Deep
set_option linter.unusedSimpArgs false
set_option linter.unusedVariables false
end Go.Proofs.Ytkonpnaedniceaa
