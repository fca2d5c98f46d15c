/- Layer 9: what every program answers that is one. -/
import Derived.Test.YtgofhpalceopiaaDoorPropN
import Derived.Test.YtgofhpalceopiaaDoorNum
namespace Go.Proofs.YtgofhpalceopiaaDoor
open Go.RowKit
set_option linter.unusedSimpArgs false
set_option linter.unusedVariables false
set_option maxRecDepth 20000 in
set_option maxHeartbeats 2000000 in
theorem awake9_any (w : World) (ht : TabN w) :
    Calls Tryd.prog 15 #[] w fun e w' => e = .returned (.bool true) ∧ Kept w w' := by
  have e1 : nameS 10 = ⟨#[109, 97, 114, 103, 105, 110, 45, 116, 111, 112]⟩ := rfl
  have e2 : propOf ⟨#[102, 108, 101, 120, 45, 119, 114, 97, 112]⟩ = (28, 0) := by decide +kernel
  have e5 : propOf ⟨#[87, 105, 100, 116, 104]⟩ = (0, 900) := by decide +kernel
  have e3 : mapS 1 0 10 = (6, 0) := by decide
  have e4 : mapS 2 0 2 = (1, 0) := by decide
  have e6 : mapS 0 2 0 = (0, 900) := by decide
  have n29 : inB 0 28 29 = false := by decide
  have N := Lib.hid n29
  clear n29
  have hk : Kept w w := Kept.refl w
  go_enter Tryd.func15, Tryd.ntmps15
  go_wp2_with fail
  refine (propName_at 10 (by decide) _ (ht.kept hk)).mono ?_
  rintro e w1 ⟨rfl, hn⟩
  replace hk := hk.trans hn
  clear hn
  go_wp2_with fail
  refine (propParse_any _ _ (ht.kept hk)).mono ?_
  rintro e w1 ⟨rfl, hn⟩
  replace hk := hk.trans hn
  clear hn
  go_wp2_with fail
  refine (propMap_any _ _ _ _ (ht.kept hk).tab).mono ?_
  rintro e w1 ⟨rfl, hn⟩
  replace hk := hk.trans hn
  clear hn
  go_wp2_with fail
  refine (propMap_any _ _ _ _ (ht.kept hk).tab).mono ?_
  rintro e w1 ⟨rfl, hn⟩
  replace hk := hk.trans hn
  clear hn
  go_wp2_with fail
  refine (propName_no 29 N.out _).mono ?_
  rintro e w1 ⟨rfl, hn⟩
  replace hk := hk.trans hn
  clear hn
  go_wp2_with fail
  refine (propParse_any _ _ (ht.kept hk)).mono ?_
  rintro e w1 ⟨rfl, hn⟩
  replace hk := hk.trans hn
  clear hn
  go_wp2_with fail
  refine (propMap_any _ _ _ _ (ht.kept hk).tab).mono ?_
  rintro e w1 ⟨rfl, hn⟩
  replace hk := hk.trans hn
  clear hn
  go_wp2_with fail
  refine (num_any _ _).mono ?_
  rintro e w1 ⟨rfl, rfl⟩
  go_wp2_with fail
  refine (num_any _ _).mono ?_
  rintro e w1 ⟨rfl, rfl⟩
  go_wp2_with fail
  refine (num_any _ _).mono ?_
  rintro e w1 ⟨rfl, rfl⟩
  go_wp2_with fail
  refine (num_any _ _).mono ?_
  rintro e w1 ⟨rfl, rfl⟩
  go_wp2_with fail
  refine (num_any _ _).mono ?_
  rintro e w1 ⟨rfl, rfl⟩
  go_wp2_with fail
  refine (num_any _ _).mono ?_
  rintro e w1 ⟨rfl, rfl⟩
  go_wp2_with fail
  refine (num_any _ _).mono ?_
  rintro e w1 ⟨rfl, rfl⟩
  go_wp2
  go_ret
  exact ⟨rfl, hk⟩
end Go.Proofs.YtgofhpalceopiaaDoor
