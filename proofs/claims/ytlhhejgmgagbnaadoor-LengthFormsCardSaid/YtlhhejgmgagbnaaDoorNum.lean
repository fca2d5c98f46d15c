/- The number of an error. -/
import Derived.Test.YtlhhejgmgagbnaaDoorBase
namespace Go.Proofs.YtlhhejgmgagbnaaDoor
open Go.RowKit
theorem num_any (x : Int) (w : World) :
    Calls Tryd.prog 17 #[.int .i64 x] w fun e w' => e = .returned (.int .i64 x) ∧ w = w' := by
  go_enter Tryd.func17, Tryd.ntmps17
  go_wp2
  go_ret
  exact ⟨rfl, rfl⟩
end Go.Proofs.YtlhhejgmgagbnaaDoor
