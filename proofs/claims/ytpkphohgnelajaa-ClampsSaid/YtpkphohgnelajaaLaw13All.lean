/- Layer 13: Law13All. -/
import Derived.Test.YtpkphohgnelajaaAwake13
import Derived.Test.YtpkphohgnelajaaMinMax
import Derived.Test.YtpkphohgnelajaaOwnIf
import Derived.Test.YtpkphohgnelajaaMask
namespace Go.Proofs.Ytpkphohgnelajaa
open Go.RowKit
set_option linter.unusedSimpArgs false
set_option linter.unusedVariables false
set_option maxHeartbeats 4000000
set_option maxRecDepth 20000
theorem clamps_walk (x least most : Int) (s : Sty) (room : Int) (w : World) :
    Calls Try.prog 3 #[.int .i64 x, .int .i64 least, .int .i64 most, s.V, .int .i64 room] w fun e w' => e = .returned (.bool true) ∧ Kept w w' := by
  have hk : Kept w w := Kept.refl w
  go_enter Try.func3, Try.ntmps3
  go_wp2_with (refine here_load 26 _ rfl ?_; refine wpList_load_own rfl 26 _ rfl _ rfl (Own.new _ _ _) _ Try.underlying26 rfl (by kernel_rfl) ?_)
  go_wp2_with fail
  refine with_boxes1 ?_
  intro X hX st
  have hsz := hk.size
  replace hk := hk.trans hX
  clear hX
  refine (clampInline_any s room x _).mono ?_
  rintro e w1 ⟨rfl, hn⟩
  replace hk := hk.trans hn
  replace st := st.kept hn
  clear hn
  go_wp2_with (refine here_load 26 _ rfl ?_; refine wpList_load_own rfl 26 _ rfl _ rfl st _ Try.underlying26 rfl (by kernel_rfl) ?_)
  go_wp2_with fail
  refine (refClampInline_any s room x _).mono ?_
  rintro e w1 ⟨rfl, hn⟩
  replace hk := hk.trans hn
  replace st := st.kept hn
  clear hn
  go_wp2_with fail
  refine (clampClamp_any _ _ _ _).mono ?_
  rintro e w1 ⟨rfl, rfl⟩
  go_wp2_with fail
  refine (refClamp_any _ _ _ _).mono ?_
  rintro e w1 ⟨rfl, rfl⟩
  go_wp2_with fail
  refine (num_any _ _).mono ?_
  rintro e w1 ⟨rfl, rfl⟩
  go_wp2_with fail
  refine (awake13_any _).mono ?_
  rintro e w1 ⟨rfl, hn⟩
  replace hk := hk.trans hn
  replace st := st.kept hn
  clear hn
  go_wp2
  go_ret
  exact ⟨rfl, hk⟩
end Go.Proofs.Ytpkphohgnelajaa
