/- The number of an error. -/
import Derived.Test.YtbegdnpckjfgbaaBase
namespace Go.Proofs.Ytbegdnpckjfgbaa
open Go.RowKit
theorem num_any (x : Int) (w : World) :
    Calls Try.prog 19 #[.int .i64 x] w fun e w' => e = .returned (.int .i64 x) ∧ w = w' := by
  go_enter Try.func19, Try.ntmps19
  go_wp2
  go_ret
  exact ⟨rfl, rfl⟩
end Go.Proofs.Ytbegdnpckjfgbaa
