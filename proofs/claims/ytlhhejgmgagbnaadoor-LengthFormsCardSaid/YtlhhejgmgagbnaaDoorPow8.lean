/- The library's table, read off the row's list. -/
import Derived.Test.YtlhhejgmgagbnaaDoorItoa
import Derived.Test.YtlhhejgmgagbnaaDoorRows
import Derived.Lib.LaidTab
import Derived.LaidMore
import Derived.MakeChecks
import Derived.Stop.LaidErr
namespace Go.Proofs.YtlhhejgmgagbnaaDoor
open Go.RowKit
theorem g10 : Tryd.prog.globalNamed "internal/strconv.uint64pow10" = some 1 := by kernel_rfl
theorem ty10 : (Tryd.prog.globals[1]?).map (·.type) = some 116 := by kernel_rfl
theorem laid10 {H : Type} : (Rows.laid_internal_strconv_uint64pow10 : DataW H) = Lib.tabData .u64 Lib.pow10Tab := by kernel_rfl
theorem pow_of {W : World} (h : laidMetH Tryd.prog [("math/bits.deBruijn32tab", Rows.laid_math_bits_deBruijn32tab), ("math/bits.deBruijn64tab", Rows.laid_math_bits_deBruijn64tab), ("internal/strconv.uint64pow10", Rows.laid_internal_strconv_uint64pow10)] W) : Pow W := by
  rw [MakeChecks.laidMetH_plain _ _ _ (by kernel_rfl)] at h
  have h2 := h.tail.tail
  rw [laid10] at h2
  exact Lib.tabIs_of_head g10 ty10 Tryd.underlying116 Tryd.underlying86 (by kernel_rfl) (by kernel_rfl) h2
end Go.Proofs.YtlhhejgmgagbnaaDoor
