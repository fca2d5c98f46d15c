/- Layer 14: Law14Sum. -/
import Derived.Test.YtpkphohgnelajaaSpan14
import Derived.Test.YtpkphohgnelajaaOwnIf
import Derived.Test.YtpkphohgnelajaaMask
namespace Go.Proofs.Ytpkphohgnelajaa
open Go.RowKit
set_option linter.unusedSimpArgs false
set_option linter.unusedVariables false
set_option maxHeartbeats 8000000
set_option maxRecDepth 20000
theorem equationSum_walk (s : Sty) (room : Int) (w : World) :
    Calls Try.prog 9 #[s.V, .int .i64 room] w fun e w' => e = .returned (.bool true) ∧ Kept w w' := by
  obtain ⟨r, hr, r0, r1⟩ := masked room 16 65535 rfl (by decide)
  rcases false_first (mayS s) with hm | hm
  · have h1 : eqS s r = ((0, 0, 0), 1400) := if_neg (by simp [hm])
    have hk : Kept w w := Kept.refl w
    go_enter Try.func9, Try.ntmps9
    go_wp2_with fail
    refine with_boxes1 ?_
    intro X hX st
    have hsz := hk.size
    replace hk := hk.trans hX
    clear hX
    refine (awake14_any _).mono ?_
    rintro e w1 ⟨rfl, hn⟩
    replace hk := hk.trans hn
    replace st := st.kept hn
    clear hn
    go_wp2_with (refine here_load 26 _ rfl ?_; refine wpList_load_own rfl 26 _ rfl _ rfl st _ Try.underlying26 rfl (by kernel_rfl) ?_)
    go_wp2_with fail
    refine (eqBlock_any s r _).mono ?_
    rintro e w1 ⟨rfl, hn⟩
    replace hk := hk.trans hn
    replace st := st.kept hn
    clear hn
    go_wp2_with fail
    refine with_boxes1 ?_
    intro X hX a
    have hsz := hk.size
    replace hk := hk.trans hX
    replace st := st.kept hX
    clear hX
    replace a_l := a.lt
    replace a_0 := a.at 0 _ rfl
    replace a_1 := a.at 1 _ rfl
    replace a_2 := a.at 2 _ rfl
    refine (num_any _ _).mono ?_
    rintro e w1 ⟨rfl, rfl⟩
    go_wp2_with (refine here_load 26 _ rfl ?_; refine wpList_load_own_if 26 _ rfl (by rfl) _ rfl st _ Try.underlying26 rfl (by kernel_rfl) ?_)
    go_wp2_with fail
    refine (refStyleMay_any s _).mono ?_
    rintro e w1 ⟨rfl, hn⟩
    replace hk := hk.trans hn
    replace st := st.kept hn
    replace a := a.kept hn
    clear hn
    replace a_l := a.lt
    replace a_0 := a.at 0 _ rfl
    replace a_1 := a.at 1 _ rfl
    replace a_2 := a.at 2 _ rfl
    clear st a
    clear a_l a_0 a_1 a_2
    go_wp2
    go_ret
    exact ⟨rfl, hk⟩
  · obtain ⟨A, B, C, h1, hs, ⟨g0, g1⟩, ⟨g2, g3⟩, ⟨g4, g5⟩, ⟨g6, g7⟩, ⟨g8, g9⟩, t0, t1⟩ := span_parts hm r0 (show r ≤ 4194304 by omega)
    clear hm
    have hb : (A + s.p0.v + B + s.p1.v + C == r) = true := by simpa using hs
    have T0 := Lib.hid t0
    have T1 := Lib.hid t1
    clear hs t0 t1
    cases e0 : (s.m0.k == 0)
    · have u0 : (A == s.m0.v) = true := by simpa using T0.out (by simpa using e0)
      have hk : Kept w w := Kept.refl w
      go_enter Try.func9, Try.ntmps9
      go_wp2_with fail
      refine with_boxes1 ?_
      intro X hX st
      have hsz := hk.size
      replace hk := hk.trans hX
      clear hX
      refine (awake14_any _).mono ?_
      rintro e w1 ⟨rfl, hn⟩
      replace hk := hk.trans hn
      replace st := st.kept hn
      clear hn
      go_wp2_with (refine here_load 26 _ rfl ?_; refine wpList_load_own rfl 26 _ rfl _ rfl st _ Try.underlying26 rfl (by kernel_rfl) ?_)
      go_wp2_with fail
      refine (eqBlock_any s r _).mono ?_
      rintro e w1 ⟨rfl, hn⟩
      replace hk := hk.trans hn
      replace st := st.kept hn
      clear hn
      go_wp2_with fail
      refine with_boxes1 ?_
      intro X hX a
      have hsz := hk.size
      replace hk := hk.trans hX
      replace st := st.kept hX
      clear hX
      replace a_l := a.lt
      replace a_0 := a.at 0 _ rfl
      replace a_1 := a.at 1 _ rfl
      replace a_2 := a.at 2 _ rfl
      refine (num_any _ _).mono ?_
      rintro e w1 ⟨rfl, rfl⟩
      have d8 := st.at 8 _ rfl
      have d9 := st.at 9 _ rfl
      have d10 := st.at 10 _ rfl
      have d11 := st.at 11 _ rfl
      have d17 := st.at 17 _ rfl
      have d19 := st.at 19 _ rfl
      go_wp2
      go_ret
      exact ⟨rfl, hk⟩
    · cases e1 : (s.m1.k == 0)
      · have u0 : (C == s.m1.v) = true := by simpa using T1.out (by simpa using e0) (by simpa using e1)
        have hk : Kept w w := Kept.refl w
        go_enter Try.func9, Try.ntmps9
        go_wp2_with fail
        refine with_boxes1 ?_
        intro X hX st
        have hsz := hk.size
        replace hk := hk.trans hX
        clear hX
        refine (awake14_any _).mono ?_
        rintro e w1 ⟨rfl, hn⟩
        replace hk := hk.trans hn
        replace st := st.kept hn
        clear hn
        go_wp2_with (refine here_load 26 _ rfl ?_; refine wpList_load_own rfl 26 _ rfl _ rfl st _ Try.underlying26 rfl (by kernel_rfl) ?_)
        go_wp2_with fail
        refine (eqBlock_any s r _).mono ?_
        rintro e w1 ⟨rfl, hn⟩
        replace hk := hk.trans hn
        replace st := st.kept hn
        clear hn
        go_wp2_with fail
        refine with_boxes1 ?_
        intro X hX a
        have hsz := hk.size
        replace hk := hk.trans hX
        replace st := st.kept hX
        clear hX
        replace a_l := a.lt
        replace a_0 := a.at 0 _ rfl
        replace a_1 := a.at 1 _ rfl
        replace a_2 := a.at 2 _ rfl
        refine (num_any _ _).mono ?_
        rintro e w1 ⟨rfl, rfl⟩
        have d8 := st.at 8 _ rfl
        have d9 := st.at 9 _ rfl
        have d10 := st.at 10 _ rfl
        have d11 := st.at 11 _ rfl
        have d17 := st.at 17 _ rfl
        have d19 := st.at 19 _ rfl
        go_wp2
        go_ret
        exact ⟨rfl, hk⟩
      · skip
        have hk : Kept w w := Kept.refl w
        go_enter Try.func9, Try.ntmps9
        go_wp2_with fail
        refine with_boxes1 ?_
        intro X hX st
        have hsz := hk.size
        replace hk := hk.trans hX
        clear hX
        refine (awake14_any _).mono ?_
        rintro e w1 ⟨rfl, hn⟩
        replace hk := hk.trans hn
        replace st := st.kept hn
        clear hn
        go_wp2_with (refine here_load 26 _ rfl ?_; refine wpList_load_own rfl 26 _ rfl _ rfl st _ Try.underlying26 rfl (by kernel_rfl) ?_)
        go_wp2_with fail
        refine (eqBlock_any s r _).mono ?_
        rintro e w1 ⟨rfl, hn⟩
        replace hk := hk.trans hn
        replace st := st.kept hn
        clear hn
        go_wp2_with fail
        refine with_boxes1 ?_
        intro X hX a
        have hsz := hk.size
        replace hk := hk.trans hX
        replace st := st.kept hX
        clear hX
        replace a_l := a.lt
        replace a_0 := a.at 0 _ rfl
        replace a_1 := a.at 1 _ rfl
        replace a_2 := a.at 2 _ rfl
        refine (num_any _ _).mono ?_
        rintro e w1 ⟨rfl, rfl⟩
        have d8 := st.at 8 _ rfl
        have d9 := st.at 9 _ rfl
        have d10 := st.at 10 _ rfl
        have d11 := st.at 11 _ rfl
        have d17 := st.at 17 _ rfl
        have d19 := st.at 19 _ rfl
        go_wp2
        go_ret
        exact ⟨rfl, hk⟩
end Go.Proofs.Ytpkphohgnelajaa
