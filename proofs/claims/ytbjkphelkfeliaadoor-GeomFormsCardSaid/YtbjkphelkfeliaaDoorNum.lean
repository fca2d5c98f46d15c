/- The number of an error. -/
import Derived.Test.YtbjkphelkfeliaaDoorBase
namespace Go.Proofs.YtbjkphelkfeliaaDoor
open Go.RowKit
theorem num_any (x : Int) (w : World) :
    Calls Tryd.prog 14 #[.int .i64 x] w fun e w' => e = .returned (.int .i64 x) ∧ w = w' := by
  go_enter Tryd.func14, Tryd.ntmps14
  go_wp2
  go_ret
  exact ⟨rfl, rfl⟩
end Go.Proofs.YtbjkphelkfeliaaDoor
