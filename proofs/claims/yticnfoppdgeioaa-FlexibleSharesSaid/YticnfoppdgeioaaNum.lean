/- The number of an error. -/
import Derived.Test.YticnfoppdgeioaaBase
namespace Go.Proofs.Yticnfoppdgeioaa
open Go.RowKit
theorem num_any (x : Int) (w : World) :
    Calls Try.prog 14 #[.int .i64 x] w fun e w' => e = .returned (.int .i64 x) ∧ w = w' := by
  go_enter Try.func14, Try.ntmps14
  go_wp2
  go_ret
  exact ⟨rfl, rfl⟩
end Go.Proofs.Yticnfoppdgeioaa
