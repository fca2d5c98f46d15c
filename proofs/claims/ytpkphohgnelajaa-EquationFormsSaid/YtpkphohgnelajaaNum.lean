/- The number of an error. -/
import Derived.Test.YtpkphohgnelajaaBase
namespace Go.Proofs.Ytpkphohgnelajaa
open Go.RowKit
theorem num_any (x : Int) (w : World) :
    Calls Try.prog 17 #[.int .i64 x] w fun e w' => e = .returned (.int .i64 x) ∧ w = w' := by
  go_enter Try.func17, Try.ntmps17
  go_wp2
  go_ret
  exact ⟨rfl, rfl⟩
end Go.Proofs.Ytpkphohgnelajaa
