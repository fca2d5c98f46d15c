/- Layer 6: lines.Fill. -/
import Derived.Test.YtbegdnpckjfgbaaWid
import Derived.Test.YtbegdnpckjfgbaaGlyph
import Derived.Test.YtbegdnpckjfgbaaUnit
namespace Go.Proofs.Ytbegdnpckjfgbaa
open Go.RowKit
set_option linter.unusedSimpArgs false
set_option linter.unusedVariables false
end Go.Proofs.Ytbegdnpckjfgbaa
