/- Layer 8: which lengths may be. -/
import Derived.Test.YtlhhejgmgagbnaaDoorUnit
namespace Go.Proofs.YtlhhejgmgagbnaaDoor
open Go.RowKit
set_option linter.unusedSimpArgs false
set_option linter.unusedVariables false
abbrev lenV (k v : Int) : Value := .agg #[.int .i64 k, .int .i64 v]
def lenB (k v : Int) : Bool := if k = 0 then decide (v = 0) else if k = 1 then inB (-8191) 8191 v else if k = 2 then inB (-100) 100 v else false
end Go.Proofs.YtlhhejgmgagbnaaDoor
