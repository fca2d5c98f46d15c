/- Layer 8: a length as a number; layer 13: a style's length as a number. -/
import Derived.Test.YtpkphohgnelajaaLen
import Derived.Test.YtpkphohgnelajaaUnitRef
namespace Go.Proofs.Ytpkphohgnelajaa
open Go.RowKit
set_option linter.unusedSimpArgs false
set_option linter.unusedVariables false
def usedS (k v o a : Int) : Int × Int := if lenB k v = true ∧ mayB o = true ∧ mayB a = true then (if k = 0 then (a, 0) else if k = 1 then (v, 0) else percentS v o) else (0, 800)
theorem lenB_kind {k v : Int} (h : lenB k v = true) : k = 0 ∨ k = 1 ∨ k = 2 := by
  unfold lenB at h
  by_cases h0 : k = 0
  · exact .inl h0
  · by_cases h1 : k = 1
    · exact .inr (.inl h1)
    · by_cases h2 : k = 2
      · exact .inr (.inr h2)
      · simp [h0, h1, h2] at h
set_option maxHeartbeats 2000000 in
theorem lengthUsed_any (k v o a : Int) (w : World) :
    Calls Try.prog 51 #[lenV k v, .int .i64 o, .int .i64 a] w fun e w' => e = .returned (.tuple #[.int .i64 (usedS k v o a).1, .int .i64 (usedS k v o a).2]) ∧ Kept w w' := by
  cases hl : lenB k v
  · have hs : usedS k v o a = (0, 800) := if_neg (by simp [hl])
    have Hs := Lib.hid hs
    clear hs
    have hk : Kept w w := Kept.refl w
    go_enter Try.func51, Try.ntmps51
    go_wp2_with fail
    refine with_boxes1 ?_
    intro X hX m
    have hsz := hk.size
    replace hk := hk.trans hX
    clear hX
    replace m_l := m.lt
    replace m_0 := m.at 0 _ rfl
    replace m_1 := m.at 1 _ rfl
    refine (lengthMay_any _ _ _).mono ?_
    rintro e w1 ⟨rfl, hn⟩
    replace hk := hk.trans hn
    replace m := m.kept hn
    clear hn
    replace m_l := m.lt
    replace m_0 := m.at 0 _ rfl
    replace m_1 := m.at 1 _ rfl
    go_wp2
    go_ret2
    exact ⟨by rw [Hs.out]; rfl, hk⟩
  · cases ho : mayB o
    · have hs : usedS k v o a = (0, 800) := if_neg (by simp [ho])
      have Hs := Lib.hid hs
      clear hs
      have hk : Kept w w := Kept.refl w
      go_enter Try.func51, Try.ntmps51
      go_wp2_with fail
      refine with_boxes1 ?_
      intro X hX m
      have hsz := hk.size
      replace hk := hk.trans hX
      clear hX
      replace m_l := m.lt
      replace m_0 := m.at 0 _ rfl
      replace m_1 := m.at 1 _ rfl
      refine (lengthMay_any _ _ _).mono ?_
      rintro e w1 ⟨rfl, hn⟩
      replace hk := hk.trans hn
      replace m := m.kept hn
      clear hn
      replace m_l := m.lt
      replace m_0 := m.at 0 _ rfl
      replace m_1 := m.at 1 _ rfl
      go_wp2_with fail
      refine (unitMay_any _ _).mono ?_
      rintro e w1 ⟨rfl, hn⟩
      replace hk := hk.trans hn
      replace m := m.kept hn
      clear hn
      replace m_l := m.lt
      replace m_0 := m.at 0 _ rfl
      replace m_1 := m.at 1 _ rfl
      go_wp2
      go_ret2
      exact ⟨by rw [Hs.out]; rfl, hk⟩
    · cases ha : mayB a
      · have hs : usedS k v o a = (0, 800) := if_neg (by simp [ha])
        have Hs := Lib.hid hs
        clear hs
        have hk : Kept w w := Kept.refl w
        go_enter Try.func51, Try.ntmps51
        go_wp2_with fail
        refine with_boxes1 ?_
        intro X hX m
        have hsz := hk.size
        replace hk := hk.trans hX
        clear hX
        replace m_l := m.lt
        replace m_0 := m.at 0 _ rfl
        replace m_1 := m.at 1 _ rfl
        refine (lengthMay_any _ _ _).mono ?_
        rintro e w1 ⟨rfl, hn⟩
        replace hk := hk.trans hn
        replace m := m.kept hn
        clear hn
        replace m_l := m.lt
        replace m_0 := m.at 0 _ rfl
        replace m_1 := m.at 1 _ rfl
        go_wp2_with fail
        refine (unitMay_any _ _).mono ?_
        rintro e w1 ⟨rfl, hn⟩
        replace hk := hk.trans hn
        replace m := m.kept hn
        clear hn
        replace m_l := m.lt
        replace m_0 := m.at 0 _ rfl
        replace m_1 := m.at 1 _ rfl
        go_wp2_with fail
        refine (unitMay_any _ _).mono ?_
        rintro e w1 ⟨rfl, hn⟩
        replace hk := hk.trans hn
        replace m := m.kept hn
        clear hn
        replace m_l := m.lt
        replace m_0 := m.at 0 _ rfl
        replace m_1 := m.at 1 _ rfl
        go_wp2
        go_ret2
        exact ⟨by rw [Hs.out]; rfl, hk⟩
      · have hs := lenB_kind hl
        rcases hs with rfl | rfl | rfl
        · have hs : usedS 0 v o a = (a, 0) := if_pos ⟨hl, ho, ha⟩
          have Hs := Lib.hid hs
          clear hs
          have hk : Kept w w := Kept.refl w
          go_enter Try.func51, Try.ntmps51
          go_wp2_with fail
          refine with_boxes1 ?_
          intro X hX m
          have hsz := hk.size
          replace hk := hk.trans hX
          clear hX
          replace m_l := m.lt
          replace m_0 := m.at 0 _ rfl
          replace m_1 := m.at 1 _ rfl
          refine (lengthMay_any _ _ _).mono ?_
          rintro e w1 ⟨rfl, hn⟩
          replace hk := hk.trans hn
          replace m := m.kept hn
          clear hn
          replace m_l := m.lt
          replace m_0 := m.at 0 _ rfl
          replace m_1 := m.at 1 _ rfl
          go_wp2_with fail
          refine (unitMay_any _ _).mono ?_
          rintro e w1 ⟨rfl, hn⟩
          replace hk := hk.trans hn
          replace m := m.kept hn
          clear hn
          replace m_l := m.lt
          replace m_0 := m.at 0 _ rfl
          replace m_1 := m.at 1 _ rfl
          go_wp2_with fail
          refine (unitMay_any _ _).mono ?_
          rintro e w1 ⟨rfl, hn⟩
          replace hk := hk.trans hn
          replace m := m.kept hn
          clear hn
          replace m_l := m.lt
          replace m_0 := m.at 0 _ rfl
          replace m_1 := m.at 1 _ rfl
          go_wp2
          go_ret2
          exact ⟨by rw [Hs.out]; rfl, hk⟩
        · have hs : usedS 1 v o a = (v, 0) := if_pos ⟨hl, ho, ha⟩
          have Hs := Lib.hid hs
          clear hs
          have hk : Kept w w := Kept.refl w
          go_enter Try.func51, Try.ntmps51
          go_wp2_with fail
          refine with_boxes1 ?_
          intro X hX m
          have hsz := hk.size
          replace hk := hk.trans hX
          clear hX
          replace m_l := m.lt
          replace m_0 := m.at 0 _ rfl
          replace m_1 := m.at 1 _ rfl
          refine (lengthMay_any _ _ _).mono ?_
          rintro e w1 ⟨rfl, hn⟩
          replace hk := hk.trans hn
          replace m := m.kept hn
          clear hn
          replace m_l := m.lt
          replace m_0 := m.at 0 _ rfl
          replace m_1 := m.at 1 _ rfl
          go_wp2_with fail
          refine (unitMay_any _ _).mono ?_
          rintro e w1 ⟨rfl, hn⟩
          replace hk := hk.trans hn
          replace m := m.kept hn
          clear hn
          replace m_l := m.lt
          replace m_0 := m.at 0 _ rfl
          replace m_1 := m.at 1 _ rfl
          go_wp2_with fail
          refine (unitMay_any _ _).mono ?_
          rintro e w1 ⟨rfl, hn⟩
          replace hk := hk.trans hn
          replace m := m.kept hn
          clear hn
          replace m_l := m.lt
          replace m_0 := m.at 0 _ rfl
          replace m_1 := m.at 1 _ rfl
          go_wp2
          go_ret2
          exact ⟨by rw [Hs.out]; rfl, hk⟩
        · have hs : usedS 2 v o a = percentS v o := if_pos ⟨hl, ho, ha⟩
          have Hs := Lib.hid hs
          clear hs
          have hk : Kept w w := Kept.refl w
          go_enter Try.func51, Try.ntmps51
          go_wp2_with fail
          refine with_boxes1 ?_
          intro X hX m
          have hsz := hk.size
          replace hk := hk.trans hX
          clear hX
          replace m_l := m.lt
          replace m_0 := m.at 0 _ rfl
          replace m_1 := m.at 1 _ rfl
          refine (lengthMay_any _ _ _).mono ?_
          rintro e w1 ⟨rfl, hn⟩
          replace hk := hk.trans hn
          replace m := m.kept hn
          clear hn
          replace m_l := m.lt
          replace m_0 := m.at 0 _ rfl
          replace m_1 := m.at 1 _ rfl
          go_wp2_with fail
          refine (unitMay_any _ _).mono ?_
          rintro e w1 ⟨rfl, hn⟩
          replace hk := hk.trans hn
          replace m := m.kept hn
          clear hn
          replace m_l := m.lt
          replace m_0 := m.at 0 _ rfl
          replace m_1 := m.at 1 _ rfl
          go_wp2_with fail
          refine (unitMay_any _ _).mono ?_
          rintro e w1 ⟨rfl, hn⟩
          replace hk := hk.trans hn
          replace m := m.kept hn
          clear hn
          replace m_l := m.lt
          replace m_0 := m.at 0 _ rfl
          replace m_1 := m.at 1 _ rfl
          go_wp2_with fail
          refine (unitPercent_any _ _ _).mono ?_
          rintro e w1 ⟨rfl, hn⟩
          replace hk := hk.trans hn
          replace m := m.kept hn
          clear hn
          replace m_l := m.lt
          replace m_0 := m.at 0 _ rfl
          replace m_1 := m.at 1 _ rfl
          go_wp2
          go_ret2
          exact ⟨by rw [Hs.out]; rfl, hk⟩
set_option maxHeartbeats 2000000 in
theorem refUsed_any (k v o a : Int) (w : World) :
    Calls Try.prog 33 #[lenV k v, .int .i64 o, .int .i64 a] w fun e w' => e = .returned (.tuple #[.int .i64 (usedS k v o a).1, .int .i64 (usedS k v o a).2]) ∧ Kept w w' := by
  cases hl : lenB k v
  · have hs : usedS k v o a = (0, 800) := if_neg (by simp [hl])
    have Hs := Lib.hid hs
    clear hs
    have hk : Kept w w := Kept.refl w
    go_enter Try.func33, Try.ntmps33
    go_wp2_with fail
    refine with_boxes1 ?_
    intro X hX m
    have hsz := hk.size
    replace hk := hk.trans hX
    clear hX
    replace m_l := m.lt
    replace m_0 := m.at 0 _ rfl
    replace m_1 := m.at 1 _ rfl
    refine (refLengthMay_any _ _ _).mono ?_
    rintro e w1 ⟨rfl, hn⟩
    replace hk := hk.trans hn
    replace m := m.kept hn
    clear hn
    replace m_l := m.lt
    replace m_0 := m.at 0 _ rfl
    replace m_1 := m.at 1 _ rfl
    go_wp2
    go_ret2
    exact ⟨by rw [Hs.out]; rfl, hk⟩
  · cases ho : mayB o
    · have hs : usedS k v o a = (0, 800) := if_neg (by simp [ho])
      have Hs := Lib.hid hs
      clear hs
      have hk : Kept w w := Kept.refl w
      go_enter Try.func33, Try.ntmps33
      go_wp2_with fail
      refine with_boxes1 ?_
      intro X hX m
      have hsz := hk.size
      replace hk := hk.trans hX
      clear hX
      replace m_l := m.lt
      replace m_0 := m.at 0 _ rfl
      replace m_1 := m.at 1 _ rfl
      refine (refLengthMay_any _ _ _).mono ?_
      rintro e w1 ⟨rfl, hn⟩
      replace hk := hk.trans hn
      replace m := m.kept hn
      clear hn
      replace m_l := m.lt
      replace m_0 := m.at 0 _ rfl
      replace m_1 := m.at 1 _ rfl
      go_wp2_with fail
      refine (refMay_any _ _).mono ?_
      rintro e w1 ⟨rfl, rfl⟩
      go_wp2
      go_ret2
      exact ⟨by rw [Hs.out]; rfl, hk⟩
    · cases ha : mayB a
      · have hs : usedS k v o a = (0, 800) := if_neg (by simp [ha])
        have Hs := Lib.hid hs
        clear hs
        have hk : Kept w w := Kept.refl w
        go_enter Try.func33, Try.ntmps33
        go_wp2_with fail
        refine with_boxes1 ?_
        intro X hX m
        have hsz := hk.size
        replace hk := hk.trans hX
        clear hX
        replace m_l := m.lt
        replace m_0 := m.at 0 _ rfl
        replace m_1 := m.at 1 _ rfl
        refine (refLengthMay_any _ _ _).mono ?_
        rintro e w1 ⟨rfl, hn⟩
        replace hk := hk.trans hn
        replace m := m.kept hn
        clear hn
        replace m_l := m.lt
        replace m_0 := m.at 0 _ rfl
        replace m_1 := m.at 1 _ rfl
        go_wp2_with fail
        refine (refMay_any _ _).mono ?_
        rintro e w1 ⟨rfl, rfl⟩
        go_wp2_with fail
        refine (refMay_any _ _).mono ?_
        rintro e w1 ⟨rfl, rfl⟩
        go_wp2
        go_ret2
        exact ⟨by rw [Hs.out]; rfl, hk⟩
      · have hs := lenB_kind hl
        rcases hs with rfl | rfl | rfl
        · have hs : usedS 0 v o a = (a, 0) := if_pos ⟨hl, ho, ha⟩
          have Hs := Lib.hid hs
          clear hs
          have hk : Kept w w := Kept.refl w
          go_enter Try.func33, Try.ntmps33
          go_wp2_with fail
          refine with_boxes1 ?_
          intro X hX m
          have hsz := hk.size
          replace hk := hk.trans hX
          clear hX
          replace m_l := m.lt
          replace m_0 := m.at 0 _ rfl
          replace m_1 := m.at 1 _ rfl
          refine (refLengthMay_any _ _ _).mono ?_
          rintro e w1 ⟨rfl, hn⟩
          replace hk := hk.trans hn
          replace m := m.kept hn
          clear hn
          replace m_l := m.lt
          replace m_0 := m.at 0 _ rfl
          replace m_1 := m.at 1 _ rfl
          go_wp2_with fail
          refine (refMay_any _ _).mono ?_
          rintro e w1 ⟨rfl, rfl⟩
          go_wp2_with fail
          refine (refMay_any _ _).mono ?_
          rintro e w1 ⟨rfl, rfl⟩
          go_wp2
          go_ret2
          exact ⟨by rw [Hs.out]; rfl, hk⟩
        · have hs : usedS 1 v o a = (v, 0) := if_pos ⟨hl, ho, ha⟩
          have Hs := Lib.hid hs
          clear hs
          have hk : Kept w w := Kept.refl w
          go_enter Try.func33, Try.ntmps33
          go_wp2_with fail
          refine with_boxes1 ?_
          intro X hX m
          have hsz := hk.size
          replace hk := hk.trans hX
          clear hX
          replace m_l := m.lt
          replace m_0 := m.at 0 _ rfl
          replace m_1 := m.at 1 _ rfl
          refine (refLengthMay_any _ _ _).mono ?_
          rintro e w1 ⟨rfl, hn⟩
          replace hk := hk.trans hn
          replace m := m.kept hn
          clear hn
          replace m_l := m.lt
          replace m_0 := m.at 0 _ rfl
          replace m_1 := m.at 1 _ rfl
          go_wp2_with fail
          refine (refMay_any _ _).mono ?_
          rintro e w1 ⟨rfl, rfl⟩
          go_wp2_with fail
          refine (refMay_any _ _).mono ?_
          rintro e w1 ⟨rfl, rfl⟩
          go_wp2
          go_ret2
          exact ⟨by rw [Hs.out]; rfl, hk⟩
        · have hs : usedS 2 v o a = percentS v o := if_pos ⟨hl, ho, ha⟩
          have Hs := Lib.hid hs
          clear hs
          have hk : Kept w w := Kept.refl w
          go_enter Try.func33, Try.ntmps33
          go_wp2_with fail
          refine with_boxes1 ?_
          intro X hX m
          have hsz := hk.size
          replace hk := hk.trans hX
          clear hX
          replace m_l := m.lt
          replace m_0 := m.at 0 _ rfl
          replace m_1 := m.at 1 _ rfl
          refine (refLengthMay_any _ _ _).mono ?_
          rintro e w1 ⟨rfl, hn⟩
          replace hk := hk.trans hn
          replace m := m.kept hn
          clear hn
          replace m_l := m.lt
          replace m_0 := m.at 0 _ rfl
          replace m_1 := m.at 1 _ rfl
          go_wp2_with fail
          refine (refMay_any _ _).mono ?_
          rintro e w1 ⟨rfl, rfl⟩
          go_wp2_with fail
          refine (refMay_any _ _).mono ?_
          rintro e w1 ⟨rfl, rfl⟩
          go_wp2_with fail
          refine (refPercent_any _ _ _).mono ?_
          rintro e w1 ⟨rfl, rfl⟩
          go_wp2
          go_ret2
          exact ⟨by rw [Hs.out]; rfl, hk⟩
theorem usedLength_any (k v o a : Int) (w : World) :
    Calls Try.prog 40 #[lenV k v, .int .i64 o, .int .i64 a] w fun e w' => e = .returned (.int .i64 (usedS k v o a).1) ∧ Kept w w' := by
  have hk : Kept w w := Kept.refl w
  go_enter Try.func40, Try.ntmps40
  go_wp2_with fail
  refine with_boxes1 ?_
  intro X hX m
  have hsz := hk.size
  replace hk := hk.trans hX
  clear hX
  replace m_l := m.lt
  replace m_0 := m.at 0 _ rfl
  replace m_1 := m.at 1 _ rfl
  refine (lengthUsed_any _ _ _ _ _).mono ?_
  rintro e w1 ⟨rfl, hn⟩
  replace hk := hk.trans hn
  replace m := m.kept hn
  clear hn
  replace m_l := m.lt
  replace m_0 := m.at 0 _ rfl
  replace m_1 := m.at 1 _ rfl
  go_wp2
  go_ret
  exact ⟨rfl, hk⟩
end Go.Proofs.Ytpkphohgnelajaa
