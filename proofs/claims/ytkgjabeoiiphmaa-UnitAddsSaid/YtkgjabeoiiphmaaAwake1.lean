/- Layer 1: the error's number, and what every program answers. -/
import Derived.Test.YtkgjabeoiiphmaaUnit
namespace Go.Proofs.Ytkgjabeoiiphmaa
open Go.RowKit
theorem num_any (x : Int) (w : World) :
    Calls Try.prog 16 #[.int .i64 x] w fun e w' => e = .returned (.int .i64 x) ∧ w = w' := by
  go_enter Try.func16, Try.ntmps16
  go_wp2
  go_ret
  exact ⟨rfl, rfl⟩
theorem awake1_any (w : World) :
    Calls Try.prog 17 #[] w fun e w' => e = .returned (.bool true) ∧ Kept w w' := by
  have e1 : addS 3 (-5) = (-2, 0) := by decide
  have e2 : addS 1073741824 1 = (0, 101) := by decide
  have e3 : mulDivS (-7) 1 2 = (-4, 0) := by decide
  have e4 : mulDivS 1 1 0 = (0, 100) := by decide
  have e5 : mulDivS 1073741824 2 1 = (0, 101) := by decide
  have e6 : percentS 50 7 = (3, 0) := by decide
  have e7 : percentS 101 7 = (0, 100) := by decide
  have e8 : mayB 1073741824 = true := by decide
  have e9 : mayB 1073741825 = false := by decide
  have hk : Kept w w := Kept.refl w
  go_enter Try.func17, Try.ntmps17
  go_wp2_with (first
    | (go_at_call 8; refine (unitAdd_any _ _ _).mono ?_; rintro e w1 ⟨rfl, hn⟩; replace hk := Kept.trans (by first | exact hk | exact hk.alloc _ | exact (hk.alloc _).alloc _) hn)
    | (go_at_call 10; refine (unitMulDiv_any _ _ _ _).mono ?_; rintro e w1 ⟨rfl, hn⟩; replace hk := Kept.trans (by first | exact hk | exact hk.alloc _ | exact (hk.alloc _).alloc _) hn)
    | (go_at_call 12; refine (unitPercent_any _ _ _).mono ?_; rintro e w1 ⟨rfl, hn⟩; replace hk := Kept.trans (by first | exact hk | exact hk.alloc _ | exact (hk.alloc _).alloc _) hn)
    | (go_at_call 14; refine (unitMay_any _ _).mono ?_; rintro e w1 ⟨rfl, hn⟩; replace hk := Kept.trans (by first | exact hk | exact hk.alloc _ | exact (hk.alloc _).alloc _) hn)
    | (go_at_call 16; refine (num_any _ _).mono ?_; rintro e w1 ⟨rfl, rfl⟩))
  go_ret
  exact ⟨rfl, (by first | exact hk | exact hk.alloc _ | exact (hk.alloc _).alloc _)⟩
end Go.Proofs.Ytkgjabeoiiphmaa
