/- The number of an error. -/
import Derived.Test.YtkncagphlfpafaaBase
namespace Go.Proofs.Ytkncagphlfpafaa
open Go.RowKit
theorem num_any (x : Int) (w : World) :
    Calls Try.prog 18 #[.int .i64 x] w fun e w' => e = .returned (.int .i64 x) ∧ w = w' := by
  go_enter Try.func18, Try.ntmps18
  go_wp2
  go_ret
  exact ⟨rfl, rfl⟩
end Go.Proofs.Ytkncagphlfpafaa
