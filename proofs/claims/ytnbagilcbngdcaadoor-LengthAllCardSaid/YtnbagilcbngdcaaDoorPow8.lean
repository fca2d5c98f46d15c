/- The library's table, read off the row's list. -/
import Derived.Test.YtnbagilcbngdcaaDoorPow8C
namespace Go.Proofs.YtnbagilcbngdcaaDoor
open Go.RowKit
theorem pow_of {W : World} (h : laidMetH Tryd.prog [("math/bits.deBruijn32tab", Rows.laid_math_bits_deBruijn32tab), ("math/bits.deBruijn64tab", Rows.laid_math_bits_deBruijn64tab), ("internal/strconv.uint64pow10", Rows.laid_internal_strconv_uint64pow10)] W) : Pow W := by
  rw [MakeChecks.laidMetH_plain _ _ _ (by kernel_rfl)] at h
  have h2 := h.tail.tail
  rw [laid10] at h2
  exact Lib.tabIs_of_head g10 ty10 Tryd.underlying113 Tryd.underlying79 (by kernel_rfl) (by kernel_rfl) h2
end Go.Proofs.YtnbagilcbngdcaaDoor
