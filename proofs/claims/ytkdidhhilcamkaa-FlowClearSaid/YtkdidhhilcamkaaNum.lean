/- The number of an error. -/
import Derived.Test.YtkdidhhilcamkaaBase
namespace Go.Proofs.Ytkdidhhilcamkaa
open Go.RowKit
theorem num_any (x : Int) (w : World) :
    Calls Try.prog 16 #[.int .i64 x] w fun e w' => e = .returned (.int .i64 x) ∧ w = w' := by
  go_enter Try.func16, Try.ntmps16
  go_wp2
  go_ret
  exact ⟨rfl, rfl⟩
end Go.Proofs.Ytkdidhhilcamkaa
