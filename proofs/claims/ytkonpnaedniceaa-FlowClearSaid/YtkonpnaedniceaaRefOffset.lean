/- Layer 7: the document's Offset. -/
import Derived.Test.YtkonpnaedniceaaAlign
namespace Go.Proofs.Ytkonpnaedniceaa
open Go.RowKit
set_option linter.unusedSimpArgs false
set_option linter.unusedVariables false
end Go.Proofs.Ytkonpnaedniceaa
