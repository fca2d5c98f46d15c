/- Layer 3: the document's small answers. -/
import Derived.Test.YtpeoadnnemlphaaDoorGeom2
import Derived.Test.YtpeoadnnemlphaaDoorRefMode
import Derived.RegionTactic
namespace Go.Proofs.YtpeoadnnemlphaaDoor
open Go.RowKit
set_option linter.unusedSimpArgs false
set_option linter.unusedVariables false
theorem refUpTo3_any (x most : Int) (w : World) :
    Calls Tryd.prog 46 #[.int .i64 x, .int .i64 most] w fun e w' => e = .returned (.bool (inB 0 most x)) ∧ w = w' := by
  by_cases h1 : 0 ≤ x
  · skip
    go_enter Tryd.func46, Tryd.ntmps46
    go_wp2
    go_ret
    exact ⟨ret_bool (by unfold inB; simp [h1]), rfl⟩
  · have h2 : x < 0 := by omega
    go_enter Tryd.func46, Tryd.ntmps46
    go_wp2
    go_ret
    exact ⟨ret_bool (by unfold inB; simp; omega), rfl⟩
theorem refMay3_any (x : Int) (w : World) :
    Calls Tryd.prog 37 #[.int .i64 x] w fun e w' => e = .returned (.bool (mayB x)) ∧ w = w' := by
  by_cases h1 : -1073741824 ≤ x
  · skip
    go_enter Tryd.func37, Tryd.ntmps37
    go_wp2
    go_ret
    exact ⟨ret_bool (by unfold mayB; simp [h1]), rfl⟩
  · have h2 : x < -1073741824 := by omega
    go_enter Tryd.func37, Tryd.ntmps37
    go_wp2
    go_ret
    exact ⟨ret_bool (by unfold mayB; simp; omega), rfl⟩
theorem refFrom_any (a s i : Int) (t : Bool) (w : World) :
    Calls Tryd.prog 49 #[.int .i64 a, .int .i64 s, .int .i64 i, .bool t] w fun e w' => e = .returned (.int .i64 (turnS t i a s)) ∧ w = w' := by
  cases t
  all_goals
    go_enter Tryd.func49, Tryd.ntmps49
    go_wp2
    go_ret
    exact ⟨rfl, rfl⟩
theorem far_of {wm di : Int} (h : modeMayB wm di = true) : farB wm di 0 = (di == 1) ∧ farB wm di 2 = (wm == 1) := by
  obtain ⟨⟨a1, a2⟩, b1, b2⟩ := modeMayB_true.1 h
  rcases (by omega : wm = 0 ∨ wm = 1 ∨ wm = 2) with rfl | rfl | rfl <;> rcases (by omega : di = 0 ∨ di = 1) with rfl | rfl <;> decide
theorem refTurned_any (wm di : Int) (w : World) (h : modeMayB wm di = true) :
    Calls Tryd.prog 48 #[modeV wm di] w fun e w' => e = .returned (.tuple #[.bool (farB wm di 0), .bool (farB wm di 2)]) ∧ Kept w w' := by
  obtain ⟨f1, f2⟩ := far_of h
  have F1 := Lib.hid f1
  have F2 := Lib.hid f2
  clear f1 f2 h
  have hk : Kept w w := Kept.refl w
  go_enter Tryd.func48, Tryd.ntmps48
  go_wp2
  go_region
  go_wp2
  go_ret2
  exact ⟨by rw [F1.out, F2.out]; rfl, (by first | ((repeat (first | with_reducible exact hk | with_reducible refine Kept.alloc ?_ _ | with_reducible refine Kept.drew ?_ | with_reducible refine Kept.drewN ?_ _ | with_reducible refine Kept.set ?_ (by first | (simp; done) | (simp; omega) | omega) _)); done) | exact hk | exact (hk.alloc _) | exact ((hk.alloc _).alloc _) | exact (((hk.alloc _).alloc _).alloc _) | exact ((((hk.alloc _).alloc _).alloc _).alloc _) | exact (((((hk.alloc _).alloc _).alloc _).alloc _).alloc _) | exact ((((((hk.alloc _).alloc _).alloc _).alloc _).alloc _).alloc _) | (repeat (first | exact hk | refine Kept.alloc ?_ _ | refine Kept.drew ?_ | refine Kept.drewN ?_ _ | refine Kept.set ?_ (by first | (simp; done) | (simp; omega) | omega) _)))⟩
end Go.Proofs.YtpeoadnnemlphaaDoor
