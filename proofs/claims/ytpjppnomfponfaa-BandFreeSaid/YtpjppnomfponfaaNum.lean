/- The number of an error. -/
import Derived.Test.YtpjppnomfponfaaBase
namespace Go.Proofs.Ytpjppnomfponfaa
open Go.RowKit
theorem num_any (x : Int) (w : World) :
    Calls Try.prog 13 #[.int .i64 x] w fun e w' => e = .returned (.int .i64 x) ∧ w = w' := by
  go_enter Try.func13, Try.ntmps13
  go_wp2
  go_ret
  exact ⟨rfl, rfl⟩
end Go.Proofs.Ytpjppnomfponfaa
