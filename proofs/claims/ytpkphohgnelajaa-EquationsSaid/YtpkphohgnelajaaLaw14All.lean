/- Layer 14: Law14All. -/
import Derived.Test.YtpkphohgnelajaaAwake14
namespace Go.Proofs.Ytpkphohgnelajaa
open Go.RowKit
set_option linter.unusedSimpArgs false
set_option linter.unusedVariables false
set_option maxHeartbeats 8000000
set_option maxRecDepth 20000
theorem equations_walk (s : Sty) (room : Int) (w : World) :
    Calls Try.prog 8 #[s.V, .int .i64 room] w fun e w' => e = .returned (.bool true) ∧ Kept w w' := by
  have hk : Kept w w := Kept.refl w
  go_enter Try.func8, Try.ntmps8
  go_wp2_with (refine here_load 26 _ rfl ?_; refine wpList_load_own rfl 26 _ rfl _ rfl (Own.new _ _ _) _ Try.underlying26 rfl (by kernel_rfl) ?_)
  go_wp2_with fail
  refine with_boxes1 ?_
  intro X hX st
  have hsz := hk.size
  replace hk := hk.trans hX
  clear hX
  refine (eqBlock_any s room _).mono ?_
  rintro e w1 ⟨rfl, hn⟩
  replace hk := hk.trans hn
  replace st := st.kept hn
  clear hn
  go_wp2_with (refine here_load 26 _ rfl ?_; refine wpList_load_own rfl 26 _ rfl _ rfl (Own.alloc st _) _ Try.underlying26 rfl (by kernel_rfl) ?_)
  go_wp2_with fail
  refine with_boxes1 ?_
  intro X hX a
  have hsz := hk.size
  replace hk := hk.trans hX
  replace st := st.kept hX
  clear hX
  replace a_l := a.lt
  replace a_0 := a.at 0 _ rfl
  replace a_1 := a.at 1 _ rfl
  replace a_2 := a.at 2 _ rfl
  refine (refBlock_any s room _).mono ?_
  rintro e w1 ⟨rfl, hn⟩
  replace hk := hk.trans hn
  replace st := st.kept hn
  replace a := a.kept hn
  clear hn
  replace a_l := a.lt
  replace a_0 := a.at 0 _ rfl
  replace a_1 := a.at 1 _ rfl
  replace a_2 := a.at 2 _ rfl
  go_wp2_with (refine here_load 26 _ rfl ?_; refine wpList_load_own rfl 26 _ rfl _ rfl (Own.alloc st _) _ Try.underlying26 rfl (by kernel_rfl) ?_)
  go_wp2_with fail
  refine with_boxes1 ?_
  intro X hX b
  have hsz := hk.size
  replace hk := hk.trans hX
  replace st := st.kept hX
  replace a := a.kept hX
  clear hX
  replace a_l := a.lt
  replace a_0 := a.at 0 _ rfl
  replace a_1 := a.at 1 _ rfl
  replace a_2 := a.at 2 _ rfl
  replace b_l := b.lt
  replace b_0 := b.at 0 _ rfl
  replace b_1 := b.at 1 _ rfl
  replace b_2 := b.at 2 _ rfl
  refine (eqEdges_any s _).mono ?_
  rintro e w1 ⟨v, rfl, hv, hn⟩
  replace hk := hk.trans hn
  replace st := st.kept hn
  replace a := a.kept hn
  replace b := b.kept hn
  clear hn
  replace a_l := a.lt
  replace a_0 := a.at 0 _ rfl
  replace a_1 := a.at 1 _ rfl
  replace a_2 := a.at 2 _ rfl
  replace b_l := b.lt
  replace b_0 := b.at 0 _ rfl
  replace b_1 := b.at 1 _ rfl
  replace b_2 := b.at 2 _ rfl
  go_wp2_with (refine here_load 26 _ rfl ?_; refine wpList_load_own rfl 26 _ rfl _ rfl st _ Try.underlying26 rfl (by kernel_rfl) ?_)
  go_wp2_with fail
  refine (refEdges_any s _).mono ?_
  rintro e w1 ⟨v2, rfl, hv2, hn⟩
  replace hk := hk.trans hn
  replace st := st.kept hn
  replace a := a.kept hn
  replace b := b.kept hn
  replace hv := hv.kept hn
  clear hn
  replace a_l := a.lt
  replace a_0 := a.at 0 _ rfl
  replace a_1 := a.at 1 _ rfl
  replace a_2 := a.at 2 _ rfl
  replace b_l := b.lt
  replace b_0 := b.at 0 _ rfl
  replace b_1 := b.at 1 _ rfl
  replace b_2 := b.at 2 _ rfl
  clear st
  go_wp2_with fail
  refine (num_any _ _).mono ?_
  rintro e w1 ⟨rfl, rfl⟩
  go_wp2_with fail
  refine (sameInts_yes hv hv2 (by unfold edgeXs; split <;> simp)).mono ?_
  rintro e w1 ⟨rfl, hn⟩
  replace hk := hk.trans hn
  replace a := a.kept hn
  replace b := b.kept hn
  replace hv := hv.kept hn
  replace hv2 := hv2.kept hn
  clear hn
  replace a_l := a.lt
  replace a_0 := a.at 0 _ rfl
  replace a_1 := a.at 1 _ rfl
  replace a_2 := a.at 2 _ rfl
  replace b_l := b.lt
  replace b_0 := b.at 0 _ rfl
  replace b_1 := b.at 1 _ rfl
  replace b_2 := b.at 2 _ rfl
  go_wp2_with fail
  refine (num_any _ _).mono ?_
  rintro e w1 ⟨rfl, rfl⟩
  go_wp2_with fail
  refine (awake14_any _).mono ?_
  rintro e w1 ⟨rfl, hn⟩
  replace hk := hk.trans hn
  replace a := a.kept hn
  replace b := b.kept hn
  replace hv := hv.kept hn
  replace hv2 := hv2.kept hn
  clear hn
  replace a_l := a.lt
  replace a_0 := a.at 0 _ rfl
  replace a_1 := a.at 1 _ rfl
  replace a_2 := a.at 2 _ rfl
  replace b_l := b.lt
  replace b_0 := b.at 0 _ rfl
  replace b_1 := b.at 1 _ rfl
  replace b_2 := b.at 2 _ rfl
  go_wp2
  go_ret
  exact ⟨rfl, hk⟩
end Go.Proofs.Ytpkphohgnelajaa
