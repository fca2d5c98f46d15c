/- The library's table, read off the row's list. -/
import Derived.Test.YtlhhejgmgagbnaaDoorItoa
import Derived.Test.YtlhhejgmgagbnaaDoorRows
import Derived.Lib.LaidTab
import Derived.LaidMore
import Derived.MakeChecks
import Derived.Stop.LaidErr
namespace Go.Proofs.YtlhhejgmgagbnaaDoor
open Go.RowKit
theorem g10 : Tryd.prog.globalNamed "internal/strconv.uint64pow10" = some 1 := by kernel_rfl
theorem ty10 : (Tryd.prog.globals[1]?).map (·.type) = some 116 := by kernel_rfl
theorem laid10 {H : Type} : (Rows.laid_internal_strconv_uint64pow10 : DataW H) = Lib.tabData .u64 Lib.pow10Tab := by kernel_rfl
end Go.Proofs.YtlhhejgmgagbnaaDoor
