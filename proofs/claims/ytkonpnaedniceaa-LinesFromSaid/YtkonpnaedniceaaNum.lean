/- The number of an error. -/
import Derived.Test.YtkonpnaedniceaaBase
namespace Go.Proofs.Ytkonpnaedniceaa
open Go.RowKit
theorem num_any (x : Int) (w : World) :
    Calls Try.prog 10 #[.int .i64 x] w fun e w' => e = .returned (.int .i64 x) ∧ w = w' := by
  go_enter Try.func10, Try.ntmps10
  go_wp2
  go_ret
  exact ⟨rfl, rfl⟩
end Go.Proofs.Ytkonpnaedniceaa
