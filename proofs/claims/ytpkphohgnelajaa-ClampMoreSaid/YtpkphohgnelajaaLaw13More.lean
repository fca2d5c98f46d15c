/- Layer 13: Law13More. -/
import Derived.Test.YtpkphohgnelajaaAwake13
import Derived.Test.YtpkphohgnelajaaMinMax
import Derived.Test.YtpkphohgnelajaaOwnIf
import Derived.Test.YtpkphohgnelajaaMask
namespace Go.Proofs.Ytpkphohgnelajaa
open Go.RowKit
set_option linter.unusedSimpArgs false
set_option linter.unusedVariables false
set_option maxHeartbeats 4000000
set_option maxRecDepth 20000
theorem clampMore_walk (s : Sty) (room x y : Int) (w : World) :
    Calls Try.prog 7 #[s.V, .int .i64 room, .int .i64 x, .int .i64 y] w fun e w' => e = .returned (.bool true) ∧ Kept w w' := by
  obtain ⟨r, hr, r0, r1⟩ := masked room 16 65535 rfl (by decide)
  obtain ⟨a, ha, a0, a1⟩ := masked x 16 65535 rfl (by decide)
  obtain ⟨b, hb, b0, b1⟩ := masked y 16 65535 rfl (by decide)
  rcases (by omega : a < b ∨ a = b ∨ b < a) with h | h | h
  · skip
    rcases false_first (mayS s) with hm | hm
    · have h1 := inline_no hm r a
      have h2 := inline_no hm r b
      have hk : Kept w w := Kept.refl w
      go_enter Try.func7, Try.ntmps7
      go_wp2_with fail
      refine with_boxes1 ?_
      intro X hX st
      have hsz := hk.size
      replace hk := hk.trans hX
      clear hX
      refine (awake13_any _).mono ?_
      rintro e w1 ⟨rfl, hn⟩
      replace hk := hk.trans hn
      replace st := st.kept hn
      clear hn
      go_wp2_with (refine here_load 26 _ rfl ?_; refine wpList_load_own rfl 26 _ rfl _ rfl st _ Try.underlying26 rfl (by kernel_rfl) ?_)
      go_wp2_with fail
      refine (clampInline_any s r a _).mono ?_
      rintro e w1 ⟨rfl, hn⟩
      replace hk := hk.trans hn
      replace st := st.kept hn
      clear hn
      go_wp2_with (refine here_load 26 _ rfl ?_; refine wpList_load_own rfl 26 _ rfl _ rfl st _ Try.underlying26 rfl (by kernel_rfl) ?_)
      go_wp2_with fail
      refine (clampInline_any s r b _).mono ?_
      rintro e w1 ⟨rfl, hn⟩
      replace hk := hk.trans hn
      replace st := st.kept hn
      clear hn
      go_wp2_with fail
      refine (num_any _ _).mono ?_
      rintro e w1 ⟨rfl, rfl⟩
      go_wp2_with fail
      refine (num_any _ _).mono ?_
      rintro e w1 ⟨rfl, rfl⟩
      go_wp2_with (refine here_load 26 _ rfl ?_; refine wpList_load_own_if 26 _ rfl (by rfl) _ rfl st _ Try.underlying26 rfl (by kernel_rfl) ?_)
      go_wp2_with fail
      refine (refStyleMay_any s _).mono ?_
      rintro e w1 ⟨rfl, hn⟩
      replace hk := hk.trans hn
      replace st := st.kept hn
      clear hn
      go_wp2
      go_ret
      exact ⟨rfl, hk⟩
    · obtain ⟨P, Q, h1, h2, hPQ⟩ := inline_more hm r0 (show r ≤ 4194304 by omega) a0 (show a ≤ b by omega) b1
      have hc : clampS a 5 9 ≤ clampS b 5 9 := by unfold clampS; omega
      have hk : Kept w w := Kept.refl w
      go_enter Try.func7, Try.ntmps7
      go_wp2_with fail
      refine with_boxes1 ?_
      intro X hX st
      have hsz := hk.size
      replace hk := hk.trans hX
      clear hX
      refine (awake13_any _).mono ?_
      rintro e w1 ⟨rfl, hn⟩
      replace hk := hk.trans hn
      replace st := st.kept hn
      clear hn
      go_wp2_with (refine here_load 26 _ rfl ?_; refine wpList_load_own rfl 26 _ rfl _ rfl st _ Try.underlying26 rfl (by kernel_rfl) ?_)
      go_wp2_with fail
      refine (clampInline_any s r a _).mono ?_
      rintro e w1 ⟨rfl, hn⟩
      replace hk := hk.trans hn
      replace st := st.kept hn
      clear hn
      go_wp2_with (refine here_load 26 _ rfl ?_; refine wpList_load_own rfl 26 _ rfl _ rfl st _ Try.underlying26 rfl (by kernel_rfl) ?_)
      go_wp2_with fail
      refine (clampInline_any s r b _).mono ?_
      rintro e w1 ⟨rfl, hn⟩
      replace hk := hk.trans hn
      replace st := st.kept hn
      clear hn
      go_wp2_with fail
      refine (num_any _ _).mono ?_
      rintro e w1 ⟨rfl, rfl⟩
      go_wp2_with fail
      refine (num_any _ _).mono ?_
      rintro e w1 ⟨rfl, rfl⟩
      go_wp2_with fail
      refine (clampClamp_any _ _ _ _).mono ?_
      rintro e w1 ⟨rfl, rfl⟩
      go_wp2_with fail
      refine (clampClamp_any _ _ _ _).mono ?_
      rintro e w1 ⟨rfl, rfl⟩
      go_wp2
      go_ret
      exact ⟨rfl, hk⟩
  · subst h
    rcases false_first (mayS s) with hm | hm
    · have h1 := inline_no hm r a
      have hk : Kept w w := Kept.refl w
      go_enter Try.func7, Try.ntmps7
      go_wp2_with fail
      refine with_boxes1 ?_
      intro X hX st
      have hsz := hk.size
      replace hk := hk.trans hX
      clear hX
      refine (awake13_any _).mono ?_
      rintro e w1 ⟨rfl, hn⟩
      replace hk := hk.trans hn
      replace st := st.kept hn
      clear hn
      go_wp2_with (refine here_load 26 _ rfl ?_; refine wpList_load_own rfl 26 _ rfl _ rfl st _ Try.underlying26 rfl (by kernel_rfl) ?_)
      go_wp2_with fail
      refine (clampInline_any s r a _).mono ?_
      rintro e w1 ⟨rfl, hn⟩
      replace hk := hk.trans hn
      replace st := st.kept hn
      clear hn
      go_wp2_with (refine here_load 26 _ rfl ?_; refine wpList_load_own rfl 26 _ rfl _ rfl st _ Try.underlying26 rfl (by kernel_rfl) ?_)
      go_wp2_with fail
      refine (clampInline_any s r a _).mono ?_
      rintro e w1 ⟨rfl, hn⟩
      replace hk := hk.trans hn
      replace st := st.kept hn
      clear hn
      go_wp2_with fail
      refine (num_any _ _).mono ?_
      rintro e w1 ⟨rfl, rfl⟩
      go_wp2_with fail
      refine (num_any _ _).mono ?_
      rintro e w1 ⟨rfl, rfl⟩
      go_wp2_with (refine here_load 26 _ rfl ?_; refine wpList_load_own_if 26 _ rfl (by rfl) _ rfl st _ Try.underlying26 rfl (by kernel_rfl) ?_)
      go_wp2_with fail
      refine (refStyleMay_any s _).mono ?_
      rintro e w1 ⟨rfl, hn⟩
      replace hk := hk.trans hn
      replace st := st.kept hn
      clear hn
      go_wp2
      go_ret
      exact ⟨rfl, hk⟩
    · obtain ⟨P, Q, h1, h2, hPQ⟩ := inline_more hm r0 (show r ≤ 4194304 by omega) a0 (show a ≤ a by omega) a1
      obtain rfl : P = Q := by rw [h1] at h2; simpa using h2
      clear h2
      have hc : clampS a 5 9 ≤ clampS a 5 9 := by unfold clampS; omega
      have hk : Kept w w := Kept.refl w
      go_enter Try.func7, Try.ntmps7
      go_wp2_with fail
      refine with_boxes1 ?_
      intro X hX st
      have hsz := hk.size
      replace hk := hk.trans hX
      clear hX
      refine (awake13_any _).mono ?_
      rintro e w1 ⟨rfl, hn⟩
      replace hk := hk.trans hn
      replace st := st.kept hn
      clear hn
      go_wp2_with (refine here_load 26 _ rfl ?_; refine wpList_load_own rfl 26 _ rfl _ rfl st _ Try.underlying26 rfl (by kernel_rfl) ?_)
      go_wp2_with fail
      refine (clampInline_any s r a _).mono ?_
      rintro e w1 ⟨rfl, hn⟩
      replace hk := hk.trans hn
      replace st := st.kept hn
      clear hn
      go_wp2_with (refine here_load 26 _ rfl ?_; refine wpList_load_own rfl 26 _ rfl _ rfl st _ Try.underlying26 rfl (by kernel_rfl) ?_)
      go_wp2_with fail
      refine (clampInline_any s r a _).mono ?_
      rintro e w1 ⟨rfl, hn⟩
      replace hk := hk.trans hn
      replace st := st.kept hn
      clear hn
      go_wp2_with fail
      refine (num_any _ _).mono ?_
      rintro e w1 ⟨rfl, rfl⟩
      go_wp2_with fail
      refine (num_any _ _).mono ?_
      rintro e w1 ⟨rfl, rfl⟩
      go_wp2_with fail
      refine (clampClamp_any _ _ _ _).mono ?_
      rintro e w1 ⟨rfl, rfl⟩
      go_wp2_with fail
      refine (clampClamp_any _ _ _ _).mono ?_
      rintro e w1 ⟨rfl, rfl⟩
      go_wp2
      go_ret
      exact ⟨rfl, hk⟩
  · skip
    rcases false_first (mayS s) with hm | hm
    · have h1 := inline_no hm r b
      have h2 := inline_no hm r a
      have hk : Kept w w := Kept.refl w
      go_enter Try.func7, Try.ntmps7
      go_wp2_with fail
      refine with_boxes1 ?_
      intro X hX st
      have hsz := hk.size
      replace hk := hk.trans hX
      clear hX
      refine (awake13_any _).mono ?_
      rintro e w1 ⟨rfl, hn⟩
      replace hk := hk.trans hn
      replace st := st.kept hn
      clear hn
      go_wp2_with (refine here_load 26 _ rfl ?_; refine wpList_load_own rfl 26 _ rfl _ rfl st _ Try.underlying26 rfl (by kernel_rfl) ?_)
      go_wp2_with fail
      refine (clampInline_any s r b _).mono ?_
      rintro e w1 ⟨rfl, hn⟩
      replace hk := hk.trans hn
      replace st := st.kept hn
      clear hn
      go_wp2_with (refine here_load 26 _ rfl ?_; refine wpList_load_own rfl 26 _ rfl _ rfl st _ Try.underlying26 rfl (by kernel_rfl) ?_)
      go_wp2_with fail
      refine (clampInline_any s r a _).mono ?_
      rintro e w1 ⟨rfl, hn⟩
      replace hk := hk.trans hn
      replace st := st.kept hn
      clear hn
      go_wp2_with fail
      refine (num_any _ _).mono ?_
      rintro e w1 ⟨rfl, rfl⟩
      go_wp2_with fail
      refine (num_any _ _).mono ?_
      rintro e w1 ⟨rfl, rfl⟩
      go_wp2_with (refine here_load 26 _ rfl ?_; refine wpList_load_own_if 26 _ rfl (by rfl) _ rfl st _ Try.underlying26 rfl (by kernel_rfl) ?_)
      go_wp2_with fail
      refine (refStyleMay_any s _).mono ?_
      rintro e w1 ⟨rfl, hn⟩
      replace hk := hk.trans hn
      replace st := st.kept hn
      clear hn
      go_wp2
      go_ret
      exact ⟨rfl, hk⟩
    · obtain ⟨P, Q, h1, h2, hPQ⟩ := inline_more hm r0 (show r ≤ 4194304 by omega) b0 (show b ≤ a by omega) a1
      have hc : clampS b 5 9 ≤ clampS a 5 9 := by unfold clampS; omega
      have hk : Kept w w := Kept.refl w
      go_enter Try.func7, Try.ntmps7
      go_wp2_with fail
      refine with_boxes1 ?_
      intro X hX st
      have hsz := hk.size
      replace hk := hk.trans hX
      clear hX
      refine (awake13_any _).mono ?_
      rintro e w1 ⟨rfl, hn⟩
      replace hk := hk.trans hn
      replace st := st.kept hn
      clear hn
      go_wp2_with (refine here_load 26 _ rfl ?_; refine wpList_load_own rfl 26 _ rfl _ rfl st _ Try.underlying26 rfl (by kernel_rfl) ?_)
      go_wp2_with fail
      refine (clampInline_any s r b _).mono ?_
      rintro e w1 ⟨rfl, hn⟩
      replace hk := hk.trans hn
      replace st := st.kept hn
      clear hn
      go_wp2_with (refine here_load 26 _ rfl ?_; refine wpList_load_own rfl 26 _ rfl _ rfl st _ Try.underlying26 rfl (by kernel_rfl) ?_)
      go_wp2_with fail
      refine (clampInline_any s r a _).mono ?_
      rintro e w1 ⟨rfl, hn⟩
      replace hk := hk.trans hn
      replace st := st.kept hn
      clear hn
      go_wp2_with fail
      refine (num_any _ _).mono ?_
      rintro e w1 ⟨rfl, rfl⟩
      go_wp2_with fail
      refine (num_any _ _).mono ?_
      rintro e w1 ⟨rfl, rfl⟩
      go_wp2_with fail
      refine (clampClamp_any _ _ _ _).mono ?_
      rintro e w1 ⟨rfl, rfl⟩
      go_wp2_with fail
      refine (clampClamp_any _ _ _ _).mono ?_
      rintro e w1 ⟨rfl, rfl⟩
      go_wp2
      go_ret
      exact ⟨rfl, hk⟩
end Go.Proofs.Ytpkphohgnelajaa
