/- Numbers between others. -/
import Derived.Test.YticnfoppdgeioaaUnit
import Derived.WalkLawsBesides
namespace Go.Proofs.Yticnfoppdgeioaa
open Go.RowKit
set_option linter.unusedSimpArgs false
set_option linter.unusedVariables false
/-- x, at most b, then at least a -/
def clampS (x a b : Int) : Int := max a (min x b)
theorem usedBetween_any (x a b : Int) (w : World) :
    Calls Try.prog 41 #[.int .i64 x, .int .i64 a, .int .i64 b] w fun e w' => e = .returned (.int .i64 (clampS x a b)) ∧ w = w' := by
  have hs : clampS x a b = max a (min x b) := rfl
  have Hs := Lib.hid hs
  clear hs
  go_enter Try.func41, Try.ntmps41
  go_wp2
  all_goals
    go_ret
    exact ⟨by rw [Hs.out]; first | rfl | (show Ending.returned (Value.int _ _) = Ending.returned (Value.int _ _); congr 2; omega), rfl⟩
theorem refClamp_any (x a b : Int) (w : World) :
    Calls Try.prog 18 #[.int .i64 x, .int .i64 a, .int .i64 b] w fun e w' => e = .returned (.int .i64 (clampS x a b)) ∧ w = w' := by
  have hs : clampS x a b = max a (min x b) := rfl
  have Hs := Lib.hid hs
  clear hs
  go_enter Try.func18, Try.ntmps18
  go_wp2
  all_goals
    go_ret
    exact ⟨by rw [Hs.out]; first | rfl | (show Ending.returned (Value.int _ _) = Ending.returned (Value.int _ _); congr 2; omega), rfl⟩
end Go.Proofs.Yticnfoppdgeioaa
