/- The number of an error. -/
import Derived.Test.YtkgjabeoiiphmabDoorBase
namespace Go.Proofs.YtkgjabeoiiphmabDoor
open Go.RowKit
theorem num_any (x : Int) (w : World) :
    Calls Tryd.prog 13 #[.int .i64 x] w fun e w' => e = .returned (.int .i64 x) ∧ w = w' := by
  go_enter Tryd.func13, Tryd.ntmps13
  go_wp2
  go_ret
  exact ⟨rfl, rfl⟩
end Go.Proofs.YtkgjabeoiiphmabDoor
