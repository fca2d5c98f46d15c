/- Layer 2: what every program answers. -/
import Derived.Test.YtkapmnbkmljpkaaDoorModeSide
import Derived.Test.YtkapmnbkmljpkaaDoorModeAll
import Derived.Test.YtkapmnbkmljpkaaDoorNum
namespace Go.Proofs.YtkapmnbkmljpkaaDoor
open Go.RowKit
set_option maxHeartbeats 1000000 in
theorem awake2_any (w : World) (ht : Tab w) :
    Calls Tryd.prog 22 #[] w fun e w' => e = .returned (.bool true) ∧ Kept w w' := by
  have e1 : edgeS 1 1 0 = (2, 0) := by decide
  have e2 : sideS 1 1 1 = (2, 0) := by decide
  have e3 : edgeS 1 1 4 = (0, 200) := by decide
  have e4 : sideS 3 0 0 = (0, 200) := by decide
  have e5 : modeMayB 1 1 = true := by decide
  have e6 : vertB 1 1 = true := by decide
  have e7 : vertB 0 0 = false := by decide
  have hk : Kept w w := Kept.refl w
  go_enter Tryd.func22, Tryd.ntmps22
  go_wp2_with fail
  have hb := Boxed.new w #[.int .i64 1, .int .i64 1] 23
  go_wp2_with (first
    | (go_at_call 9; refine (modeEdge_any _ _ _ _ (ht.kept (by first | exact hk | exact (hk.alloc _) | exact ((hk.alloc _).alloc _) | exact (((hk.alloc _).alloc _).alloc _) | exact ((((hk.alloc _).alloc _).alloc _).alloc _) | exact (((((hk.alloc _).alloc _).alloc _).alloc _).alloc _) | exact ((((((hk.alloc _).alloc _).alloc _).alloc _).alloc _).alloc _)))).mono ?_; rintro e w1 ⟨rfl, hn⟩; replace hk := Kept.trans (by first | exact hk | exact (hk.alloc _) | exact ((hk.alloc _).alloc _) | exact (((hk.alloc _).alloc _).alloc _) | exact ((((hk.alloc _).alloc _).alloc _).alloc _) | exact (((((hk.alloc _).alloc _).alloc _).alloc _).alloc _) | exact ((((((hk.alloc _).alloc _).alloc _).alloc _).alloc _).alloc _)) hn; replace hb := Boxed.kept (by first | exact hb | exact (hb.alloc _) | exact ((hb.alloc _).alloc _) | exact (((hb.alloc _).alloc _).alloc _) | exact ((((hb.alloc _).alloc _).alloc _).alloc _) | exact (((((hb.alloc _).alloc _).alloc _).alloc _).alloc _) | exact ((((((hb.alloc _).alloc _).alloc _).alloc _).alloc _).alloc _)) hn; have hb_l := hb.lt; have hb_0 := hb.cell 0 _ rfl; have hb_1 := hb.cell 1 _ rfl)
    | (go_at_call 11; refine (modeSide_any _ _ _ _ (ht.kept (by first | exact hk | exact (hk.alloc _) | exact ((hk.alloc _).alloc _) | exact (((hk.alloc _).alloc _).alloc _) | exact ((((hk.alloc _).alloc _).alloc _).alloc _) | exact (((((hk.alloc _).alloc _).alloc _).alloc _).alloc _) | exact ((((((hk.alloc _).alloc _).alloc _).alloc _).alloc _).alloc _)))).mono ?_; rintro e w1 ⟨rfl, hn⟩; replace hk := Kept.trans (by first | exact hk | exact (hk.alloc _) | exact ((hk.alloc _).alloc _) | exact (((hk.alloc _).alloc _).alloc _) | exact ((((hk.alloc _).alloc _).alloc _).alloc _) | exact (((((hk.alloc _).alloc _).alloc _).alloc _).alloc _) | exact ((((((hk.alloc _).alloc _).alloc _).alloc _).alloc _).alloc _)) hn; replace hb := Boxed.kept (by first | exact hb | exact (hb.alloc _) | exact ((hb.alloc _).alloc _) | exact (((hb.alloc _).alloc _).alloc _) | exact ((((hb.alloc _).alloc _).alloc _).alloc _) | exact (((((hb.alloc _).alloc _).alloc _).alloc _).alloc _) | exact ((((((hb.alloc _).alloc _).alloc _).alloc _).alloc _).alloc _)) hn; have hb_l := hb.lt; have hb_0 := hb.cell 0 _ rfl; have hb_1 := hb.cell 1 _ rfl)
    | (go_at_call 15; refine (modeMay_any _ _ _).mono ?_; rintro e w1 ⟨rfl, hn⟩; replace hk := Kept.trans (by first | exact hk | exact (hk.alloc _) | exact ((hk.alloc _).alloc _) | exact (((hk.alloc _).alloc _).alloc _) | exact ((((hk.alloc _).alloc _).alloc _).alloc _) | exact (((((hk.alloc _).alloc _).alloc _).alloc _).alloc _) | exact ((((((hk.alloc _).alloc _).alloc _).alloc _).alloc _).alloc _)) hn; replace hb := Boxed.kept (by first | exact hb | exact (hb.alloc _) | exact ((hb.alloc _).alloc _) | exact (((hb.alloc _).alloc _).alloc _) | exact ((((hb.alloc _).alloc _).alloc _).alloc _) | exact (((((hb.alloc _).alloc _).alloc _).alloc _).alloc _) | exact ((((((hb.alloc _).alloc _).alloc _).alloc _).alloc _).alloc _)) hn; have hb_l := hb.lt; have hb_0 := hb.cell 0 _ rfl; have hb_1 := hb.cell 1 _ rfl)
    | (go_at_call 17; refine (modeVertical_any _ _ _).mono ?_; rintro e w1 ⟨rfl, hn⟩; replace hk := Kept.trans (by first | exact hk | exact (hk.alloc _) | exact ((hk.alloc _).alloc _) | exact (((hk.alloc _).alloc _).alloc _) | exact ((((hk.alloc _).alloc _).alloc _).alloc _) | exact (((((hk.alloc _).alloc _).alloc _).alloc _).alloc _) | exact ((((((hk.alloc _).alloc _).alloc _).alloc _).alloc _).alloc _)) hn; replace hb := Boxed.kept (by first | exact hb | exact (hb.alloc _) | exact ((hb.alloc _).alloc _) | exact (((hb.alloc _).alloc _).alloc _) | exact ((((hb.alloc _).alloc _).alloc _).alloc _) | exact (((((hb.alloc _).alloc _).alloc _).alloc _).alloc _) | exact ((((((hb.alloc _).alloc _).alloc _).alloc _).alloc _).alloc _)) hn; have hb_l := hb.lt; have hb_0 := hb.cell 0 _ rfl; have hb_1 := hb.cell 1 _ rfl)
    | (go_at_call 14; refine (num_any _ _).mono ?_; rintro e w1 ⟨rfl, rfl⟩)
    | (go_at_call 13; refine (modeAll_lies _).mono ?_; rintro e w1 ⟨g, cap, rfl, _, hn⟩; replace hk := Kept.trans (by first | exact hk | exact (hk.alloc _) | exact ((hk.alloc _).alloc _) | exact (((hk.alloc _).alloc _).alloc _) | exact ((((hk.alloc _).alloc _).alloc _).alloc _) | exact (((((hk.alloc _).alloc _).alloc _).alloc _).alloc _) | exact ((((((hk.alloc _).alloc _).alloc _).alloc _).alloc _).alloc _)) hn)
    | fail)
  go_ret
  exact ⟨rfl, (by first | exact hk | exact (hk.alloc _) | exact ((hk.alloc _).alloc _) | exact (((hk.alloc _).alloc _).alloc _) | exact ((((hk.alloc _).alloc _).alloc _).alloc _) | exact (((((hk.alloc _).alloc _).alloc _).alloc _).alloc _) | exact ((((((hk.alloc _).alloc _).alloc _).alloc _).alloc _).alloc _))⟩
end Go.Proofs.YtkapmnbkmljpkaaDoor
