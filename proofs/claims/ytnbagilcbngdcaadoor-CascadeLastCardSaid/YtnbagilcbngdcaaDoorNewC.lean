/- Layer 10: the style of a box without declarations, by the program. -/
import Derived.Test.YtnbagilcbngdcaaDoorMg1
import Derived.Deep.CutRange
namespace Go.Proofs.YtnbagilcbngdcaaDoor
open Go.RowKit
set_option linter.unusedSimpArgs false
set_option linter.unusedVariables false
set_option maxHeartbeats 4000000 in
set_option maxRecDepth 20000 in
theorem cascadeNew_any (w : World) :
    Calls Tryd.prog 22 #[] w fun e w' => e = .returned newS.V ∧ Kept w w' := by
  have hk : Kept w w := Kept.refl w
  go_enter Tryd.func22, Tryd.ntmps22
  go_upto_region 3 with fail
  refine code_boxes3 ?_
  intro X hX r a f
  have hsz := hk.size
  replace hk := hk.trans hX
  clear hX
  replace a_l := a.lt
  replace a_0 := a.at 0 _ rfl
  replace a_1 := a.at 1 _ rfl
  replace f_l := f.lt
  replace f_0 := f.at 0 _ rfl
  replace f_1 := f.at 1 _ rfl
  replace f_2 := f.at 2 _ rfl
  replace f_3 := f.at 3 _ rfl
  replace f_4 := f.at 4 _ rfl
  replace f_5 := f.at 5 _ rfl
  replace f_6 := f.at 6 _ rfl
  replace f_7 := f.at 7 _ rfl
  go_wp2_with (refine here_store 42 _ _ rfl ?_; refine wpList_store_own rfl 42 _ _ rfl _ _ rfl rfl r (by rfl) (by kernel_rfl) (by rfl) ?_; intro X oX hoX hkX; replace hk := hkX _ hk (by first | omega | (simp; omega)); replace r := oX; replace a := a.same (hoX _ (by first | omega | (simp; omega))); replace f := f.same (hoX _ (by first | omega | (simp; omega))); clear oX hoX hkX; replace a_l := a.lt; replace a_0 := a.at 0 _ rfl; replace a_1 := a.at 1 _ rfl; replace f_l := f.lt; replace f_0 := f.at 0 _ rfl; replace f_1 := f.at 1 _ rfl; replace f_2 := f.at 2 _ rfl; replace f_3 := f.at 3 _ rfl; replace f_4 := f.at 4 _ rfl; replace f_5 := f.at 5 _ rfl; replace f_6 := f.at 6 _ rfl; replace f_7 := f.at 7 _ rfl)
  exact bodyPost_ret (results_own 42 _ Tryd.results22 rfl r Tryd.underlying42 rfl (by kernel_rfl)) rfl ⟨rfl, hk⟩
end Go.Proofs.YtnbagilcbngdcaaDoor
