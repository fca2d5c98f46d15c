/- The number of an error. -/
import Derived.Test.YtjehmhgafibgbabBase
namespace Go.Proofs.Ytjehmhgafibgbab
open Go.RowKit
theorem num_any (x : Int) (w : World) :
    Calls Try.prog 9 #[.int .i64 x] w fun e w' => e = .returned (.int .i64 x) ∧ w = w' := by
  go_enter Try.func9, Try.ntmps9
  go_wp2
  go_ret
  exact ⟨rfl, rfl⟩
end Go.Proofs.Ytjehmhgafibgbab
