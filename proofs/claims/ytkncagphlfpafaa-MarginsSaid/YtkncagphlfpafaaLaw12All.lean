/- Layer 12: any numbers: every call; they stay. -/
import Derived.Test.YtkncagphlfpafaaLendI
import Derived.Test.YtkncagphlfpafaaMargRef
namespace Go.Proofs.Ytkncagphlfpafaa
open Go.RowKit
set_option linter.unusedSimpArgs false
set_option linter.unusedVariables false
set_option maxHeartbeats 1000000 in
theorem margins_walk (a b : Int) (v : Value) (n : Nat) (Z : Nat → Int) (w : World) (hv : IV w v n Z) (hb : n ≤ 17592186043904) :
    Calls Try.prog 3 #[.int .i64 a, .int .i64 b, v] w fun e w' => e = .returned (.bool true) ∧ Kept w w' := by
  obtain ⟨sl, cap, rfl⟩ := hv.shape
  have hk : Kept w w := Kept.refl w
  go_enter Try.func3, Try.ntmps3
  go_wp2_with fail
  refine (lendInts_any sl n cap Z _ (hv.kept hk) hb).mono ?_
  rintro e w1 ⟨x, rfl, lx, hn⟩
  replace hk := hk.trans hn
  clear hn
  go_wp2_with fail
  refine (margAll_any _ n Z _ lx.iv hb).mono ?_
  rintro e w1 ⟨rfl, hn⟩
  replace hk := hk.trans hn
  replace lx := lx.kept hn
  clear hn
  go_wp2_with fail
  refine (refColAll_any _ n Z _ (hv.kept hk)).mono ?_
  rintro e w1 ⟨rfl, hn⟩
  replace hk := hk.trans hn
  replace lx := lx.kept hn
  clear hn
  go_wp2_with fail
  refine (margCollapse_any _ _ _).mono ?_
  rintro e w1 ⟨rfl, hn⟩
  replace hk := hk.trans hn
  replace lx := lx.kept hn
  clear hn
  go_wp2_with fail
  refine (refCol_any _ _ _).mono ?_
  rintro e w1 ⟨rfl, hn⟩
  replace hk := hk.trans hn
  replace lx := lx.kept hn
  clear hn
  generalize allR n Z = R at *
  generalize colS a b = C at *
  go_wp2_with fail
  refine (num_any _ _).mono ?_
  rintro e w1 ⟨rfl, rfl⟩
  go_wp2_with fail
  refine (keptInts_yes lx (hv.kept hk) hb).mono ?_
  rintro e w1 ⟨rfl, hn⟩
  replace hk := hk.trans hn
  replace lx := lx.kept hn
  clear hn
  go_wp2_with fail
  refine (awake12_any _).mono ?_
  rintro e w1 ⟨rfl, hn⟩
  replace hk := hk.trans hn
  replace lx := lx.kept hn
  clear hn
  go_wp2
  go_ret
  exact ⟨rfl, hk⟩
end Go.Proofs.Ytkncagphlfpafaa
