/- The library's table, read off the row's list. -/
import Derived.Test.YtnbagilcbngdcaaDoorMg1
import Derived.Test.YtnbagilcbngdcaaDoorRows
import Derived.Lib.LaidTab
import Derived.LaidMore
import Derived.MakeChecks
import Derived.Stop.LaidErr
namespace Go.Proofs.YtnbagilcbngdcaaDoor
open Go.RowKit
theorem g10 : Tryd.prog.globalNamed "internal/strconv.uint64pow10" = some 1 := by kernel_rfl
theorem ty10 : (Tryd.prog.globals[1]?).map (·.type) = some 113 := by kernel_rfl
theorem laid10 {H : Type} : (Rows.laid_internal_strconv_uint64pow10 : DataW H) = Lib.tabData .u64 Lib.pow10Tab := by kernel_rfl
end Go.Proofs.YtnbagilcbngdcaaDoor
