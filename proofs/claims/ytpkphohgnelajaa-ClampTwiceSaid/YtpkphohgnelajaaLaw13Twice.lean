/- Layer 13: Law13Twice. -/
import Derived.Test.YtpkphohgnelajaaAwake13
import Derived.Test.YtpkphohgnelajaaMinMax
import Derived.Test.YtpkphohgnelajaaOwnIf
import Derived.Test.YtpkphohgnelajaaMask
namespace Go.Proofs.Ytpkphohgnelajaa
open Go.RowKit
set_option linter.unusedSimpArgs false
set_option linter.unusedVariables false
set_option maxHeartbeats 4000000
set_option maxRecDepth 20000
theorem clampTwice_walk (s : Sty) (room x : Int) (w : World) :
    Calls Try.prog 4 #[s.V, .int .i64 room, .int .i64 x] w fun e w' => e = .returned (.bool true) ∧ Kept w w' := by
  obtain ⟨r, hr, r0, r1⟩ := masked room 16 65535 rfl (by decide)
  obtain ⟨y, hy, y0, y1⟩ := masked x 16 65535 rfl (by decide)
  rcases false_first (mayS s) with hm | hm
  · have h1 := inline_no hm r y
    have hk : Kept w w := Kept.refl w
    go_enter Try.func4, Try.ntmps4
    go_wp2_with fail
    refine with_boxes1 ?_
    intro X hX st
    have hsz := hk.size
    replace hk := hk.trans hX
    clear hX
    refine (awake13_any _).mono ?_
    rintro e w1 ⟨rfl, hn⟩
    replace hk := hk.trans hn
    replace st := st.kept hn
    clear hn
    go_wp2_with (refine here_load 26 _ rfl ?_; refine wpList_load_own rfl 26 _ rfl _ rfl st _ Try.underlying26 rfl (by kernel_rfl) ?_)
    go_wp2_with fail
    refine (clampInline_any s r y _).mono ?_
    rintro e w1 ⟨rfl, hn⟩
    replace hk := hk.trans hn
    replace st := st.kept hn
    clear hn
    go_wp2_with fail
    refine (num_any _ _).mono ?_
    rintro e w1 ⟨rfl, rfl⟩
    go_wp2_with (refine here_load 26 _ rfl ?_; refine wpList_load_own_if 26 _ rfl (by rfl) _ rfl st _ Try.underlying26 rfl (by kernel_rfl) ?_)
    go_wp2_with fail
    refine (refStyleMay_any s _).mono ?_
    rintro e w1 ⟨rfl, hn⟩
    replace hk := hk.trans hn
    replace st := st.kept hn
    clear hn
    go_wp2
    go_ret
    exact ⟨rfl, hk⟩
  · obtain ⟨Y, h1, h2, h3, h4⟩ := inline_twice hm r0 (show r ≤ 4194304 by omega) y0 y1
    have H4 := Lib.hid h4
    clear h4
    rcases (by unfold clampS; omega : (y < 10 ∧ clampS y 10 20 = 10) ∨ (10 ≤ y ∧ 20 < y ∧ clampS y 10 20 = 20) ∨ (10 ≤ y ∧ y ≤ 20 ∧ clampS y 10 20 = y)) with ⟨g1, g2⟩ | ⟨g1, g2, g3⟩ | ⟨g1, g2, g3⟩
    all_goals
      cases hk1 : (s.mn.k == 1)
      · skip
        have hk1' : (s.mn.k != 1) = true := by simpa using hk1
        clear hk1
        have hk : Kept w w := Kept.refl w
        go_enter Try.func4, Try.ntmps4
        go_wp2_with fail
        refine with_boxes1 ?_
        intro X hX st
        have hsz := hk.size
        replace hk := hk.trans hX
        clear hX
        refine (awake13_any _).mono ?_
        rintro e w1 ⟨rfl, hn⟩
        replace hk := hk.trans hn
        replace st := st.kept hn
        clear hn
        go_wp2_with (refine here_load 26 _ rfl ?_; refine wpList_load_own rfl 26 _ rfl _ rfl st _ Try.underlying26 rfl (by kernel_rfl) ?_)
        go_wp2_with fail
        refine (clampInline_any s r y _).mono ?_
        rintro e w1 ⟨rfl, hn⟩
        replace hk := hk.trans hn
        replace st := st.kept hn
        clear hn
        go_wp2_with fail
        refine (num_any _ _).mono ?_
        rintro e w1 ⟨rfl, rfl⟩
        go_wp2_with (refine here_load 26 _ rfl ?_; refine wpList_load_own rfl 26 _ rfl _ rfl st _ Try.underlying26 rfl (by kernel_rfl) ?_)
        go_wp2_with fail
        refine (clampInline_any s r Y _).mono ?_
        rintro e w1 ⟨rfl, hn⟩
        replace hk := hk.trans hn
        replace st := st.kept hn
        clear hn
        go_wp2_with fail
        refine (clampClamp_any _ _ _ _).mono ?_
        rintro e w1 ⟨rfl, rfl⟩
        go_wp2_with fail
        refine (num_any _ _).mono ?_
        rintro e w1 ⟨rfl, rfl⟩
        have c4 := st.at 4 _ rfl
        have c5 := st.at 5 _ rfl
        go_wp2
        go_ret
        exact ⟨rfl, hk⟩
      · have hk1' : (s.mn.k != 1) = false := by simpa using hk1
        have h5 := H4.out (by simpa using hk1)
        clear hk1
        have hk : Kept w w := Kept.refl w
        go_enter Try.func4, Try.ntmps4
        go_wp2_with fail
        refine with_boxes1 ?_
        intro X hX st
        have hsz := hk.size
        replace hk := hk.trans hX
        clear hX
        refine (awake13_any _).mono ?_
        rintro e w1 ⟨rfl, hn⟩
        replace hk := hk.trans hn
        replace st := st.kept hn
        clear hn
        go_wp2_with (refine here_load 26 _ rfl ?_; refine wpList_load_own rfl 26 _ rfl _ rfl st _ Try.underlying26 rfl (by kernel_rfl) ?_)
        go_wp2_with fail
        refine (clampInline_any s r y _).mono ?_
        rintro e w1 ⟨rfl, hn⟩
        replace hk := hk.trans hn
        replace st := st.kept hn
        clear hn
        go_wp2_with fail
        refine (num_any _ _).mono ?_
        rintro e w1 ⟨rfl, rfl⟩
        go_wp2_with (refine here_load 26 _ rfl ?_; refine wpList_load_own rfl 26 _ rfl _ rfl st _ Try.underlying26 rfl (by kernel_rfl) ?_)
        go_wp2_with fail
        refine (clampInline_any s r Y _).mono ?_
        rintro e w1 ⟨rfl, hn⟩
        replace hk := hk.trans hn
        replace st := st.kept hn
        clear hn
        go_wp2_with fail
        refine (clampClamp_any _ _ _ _).mono ?_
        rintro e w1 ⟨rfl, rfl⟩
        go_wp2_with fail
        refine (num_any _ _).mono ?_
        rintro e w1 ⟨rfl, rfl⟩
        have c4 := st.at 4 _ rfl
        have c5 := st.at 5 _ rfl
        go_wp2
        go_ret
        exact ⟨rfl, hk⟩
end Go.Proofs.Ytpkphohgnelajaa
