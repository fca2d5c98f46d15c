/- The number of an error. -/
import Derived.Test.YtpblajjfgnhkdaaDoorBase
namespace Go.Proofs.YtpblajjfgnhkdaaDoor
open Go.RowKit
theorem num_any (x : Int) (w : World) :
    Calls Tryd.prog 18 #[.int .i64 x] w fun e w' => e = .returned (.int .i64 x) ∧ w = w' := by
  go_enter Tryd.func18, Tryd.ntmps18
  go_wp2
  go_ret
  exact ⟨rfl, rfl⟩
end Go.Proofs.YtpblajjfgnhkdaaDoor
