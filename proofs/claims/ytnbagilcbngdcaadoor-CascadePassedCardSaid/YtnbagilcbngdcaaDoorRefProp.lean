/- Layer 9: the document's properties. -/
import Derived.Test.YtnbagilcbngdcaaDoorPropN
import Derived.Test.YtnbagilcbngdcaaDoorRefMode
namespace Go.Proofs.YtnbagilcbngdcaaDoor
open Go.RowKit
set_option linter.unusedSimpArgs false
set_option linter.unusedVariables false
theorem names_lit (A : Array Value) (hA : A = (nameL.map Value.string).toArray) (k : Nat) (h : k < 29) : A[k]? = some (.string (nameS k)) := by
  have hkl : k < nameL.length := h
  subst hA
  unfold nameS
  rw [List.getElem?_toArray, List.getElem?_map, List.getElem?_eq_getElem hkl, List.getD_eq_getElem?_getD, List.getElem?_eq_getElem hkl]
  rfl
theorem refPropMay_any (p : Int) (w : World) :
    Calls Tryd.prog 60 #[.int .i64 p] w fun e w' => e = .returned (.bool (inB 0 28 p)) ∧ w = w' := by
  by_cases h1 : 0 ≤ p
  · skip
    go_enter Tryd.func60, Tryd.ntmps60
    go_wp2
    go_ret
    exact ⟨ret_bool (by unfold inB; simp [h1]), rfl⟩
  · have h2 : p < 0 := by omega
    go_enter Tryd.func60, Tryd.ntmps60
    go_wp2
    go_ret
    exact ⟨ret_bool (by unfold inB; simp; omega), rfl⟩
set_option maxHeartbeats 1000000 in
theorem refMapProp_any (wm di p : Int) (w : World) :
    Calls Tryd.prog 40 #[modeV wm di, .int .i64 p] w fun e w' => e = .returned (.tuple #[.int .i64 (mapS wm di p).1, .int .i64 (mapS wm di p).2]) ∧ Kept w w' := by
  cases h1 : modeMayB wm di
  · have hs : mapS wm di p = (0, 900) := if_neg (by simp [h1])
    have Hs := Lib.hid hs
    clear hs
    have hk : Kept w w := Kept.refl w
    go_enter Tryd.func40, Tryd.ntmps40
    go_wp2_with fail
    refine with_boxes1 ?_
    intro X hX m
    have hsz := hk.size
    replace hk := hk.trans hX
    clear hX
    replace m_l := m.lt
    replace m_0 := m.at 0 _ rfl
    replace m_1 := m.at 1 _ rfl
    refine (refModeMay_any _ _ _).mono ?_
    rintro e w1 ⟨rfl, hn⟩
    replace hk := hk.trans hn
    replace m := m.kept hn
    clear hn
    replace m_l := m.lt
    replace m_0 := m.at 0 _ rfl
    replace m_1 := m.at 1 _ rfl
    go_wp2
    go_ret2
    exact ⟨by rw [Hs.out]; rfl, hk⟩
  · cases h2 : inB 0 28 p
    · have hs : mapS wm di p = (0, 900) := if_neg (by simp [h2])
      have Hs := Lib.hid hs
      clear hs
      have hk : Kept w w := Kept.refl w
      go_enter Tryd.func40, Tryd.ntmps40
      go_wp2_with fail
      refine with_boxes1 ?_
      intro X hX m
      have hsz := hk.size
      replace hk := hk.trans hX
      clear hX
      replace m_l := m.lt
      replace m_0 := m.at 0 _ rfl
      replace m_1 := m.at 1 _ rfl
      refine (refModeMay_any _ _ _).mono ?_
      rintro e w1 ⟨rfl, hn⟩
      replace hk := hk.trans hn
      replace m := m.kept hn
      clear hn
      replace m_l := m.lt
      replace m_0 := m.at 0 _ rfl
      replace m_1 := m.at 1 _ rfl
      go_wp2_with fail
      refine (refPropMay_any _ _).mono ?_
      rintro e w1 ⟨rfl, rfl⟩
      go_wp2
      go_ret2
      exact ⟨by rw [Hs.out]; rfl, hk⟩
    · obtain ⟨p1, p2⟩ := inB_true.1 h2
      rcases (by omega : (p = 2 ∨ p = 3) ∨ (p = 0 ∨ p = 1) ∨ (4 ≤ p ∧ p ≤ 9 ∨ 14 ≤ p ∧ p ≤ 17 ∨ 22 ≤ p ∧ p ≤ 28) ∨ 10 ≤ p ∧ p ≤ 13 ∨ 18 ≤ p ∧ p ≤ 21) with h3 | h3 | h3 | h3 | h3
      · rcases h3 with rfl | rfl <;> cases h4 : vertB wm di
        all_goals
          have hs : mapS wm di _ = _ := if_pos (And.intro h1 h2)
          simp [h4] at hs
          have Hs := Lib.hid hs
          clear hs
          have hk : Kept w w := Kept.refl w
          go_enter Tryd.func40, Tryd.ntmps40
          go_wp2_with fail
          refine with_boxes1 ?_
          intro X hX m
          have hsz := hk.size
          replace hk := hk.trans hX
          clear hX
          replace m_l := m.lt
          replace m_0 := m.at 0 _ rfl
          replace m_1 := m.at 1 _ rfl
          refine (refModeMay_any _ _ _).mono ?_
          rintro e w1 ⟨rfl, hn⟩
          replace hk := hk.trans hn
          replace m := m.kept hn
          clear hn
          replace m_l := m.lt
          replace m_0 := m.at 0 _ rfl
          replace m_1 := m.at 1 _ rfl
          go_wp2_with fail
          refine (refPropMay_any _ _).mono ?_
          rintro e w1 ⟨rfl, rfl⟩
          go_wp2_with fail
          refine (refVertical_any _ _ _).mono ?_
          rintro e w1 ⟨rfl, hn⟩
          replace hk := hk.trans hn
          replace m := m.kept hn
          clear hn
          replace m_l := m.lt
          replace m_0 := m.at 0 _ rfl
          replace m_1 := m.at 1 _ rfl
          go_wp2
          go_ret2
          exact ⟨by rw [Hs.out]; rfl, hk⟩
      · rcases h3 with rfl | rfl
        all_goals
          have hs : mapS wm di _ = _ := if_pos (And.intro h1 h2)
          simp at hs
          have Hs := Lib.hid hs
          clear hs
          have hk : Kept w w := Kept.refl w
          go_enter Tryd.func40, Tryd.ntmps40
          go_wp2_with fail
          refine with_boxes1 ?_
          intro X hX m
          have hsz := hk.size
          replace hk := hk.trans hX
          clear hX
          replace m_l := m.lt
          replace m_0 := m.at 0 _ rfl
          replace m_1 := m.at 1 _ rfl
          refine (refModeMay_any _ _ _).mono ?_
          rintro e w1 ⟨rfl, hn⟩
          replace hk := hk.trans hn
          replace m := m.kept hn
          clear hn
          replace m_l := m.lt
          replace m_0 := m.at 0 _ rfl
          replace m_1 := m.at 1 _ rfl
          go_wp2_with fail
          refine (refPropMay_any _ _).mono ?_
          rintro e w1 ⟨rfl, rfl⟩
          go_wp2
          go_ret2
          exact ⟨by rw [Hs.out]; rfl, hk⟩
      · have hs : mapS wm di p = (p, 0) := by
          unfold mapS
          rw [if_pos (And.intro h1 h2), if_neg (by omega), if_neg (by omega), if_neg (by omega), if_neg (by omega)]
        have Hs := Lib.hid hs
        clear hs
        rcases h3 with ⟨h3, h4⟩ | ⟨h3, h4⟩ | ⟨h3, h4⟩
        all_goals
          have h5 : (p == 2) = false := by simp; omega
          have h6 : (p == 3) = false := by simp; omega
          have hk : Kept w w := Kept.refl w
          go_enter Tryd.func40, Tryd.ntmps40
          go_wp2_with fail
          refine with_boxes1 ?_
          intro X hX m
          have hsz := hk.size
          replace hk := hk.trans hX
          clear hX
          replace m_l := m.lt
          replace m_0 := m.at 0 _ rfl
          replace m_1 := m.at 1 _ rfl
          refine (refModeMay_any _ _ _).mono ?_
          rintro e w1 ⟨rfl, hn⟩
          replace hk := hk.trans hn
          replace m := m.kept hn
          clear hn
          replace m_l := m.lt
          replace m_0 := m.at 0 _ rfl
          replace m_1 := m.at 1 _ rfl
          go_wp2_with fail
          refine (refPropMay_any _ _).mono ?_
          rintro e w1 ⟨rfl, rfl⟩
          go_wp2
          go_ret2
          exact ⟨by rw [Hs.out]; rfl, hk⟩
      · have hs : mapS wm di p = (6 + (sideS wm di (p - 10)).1, 0) := by
          unfold mapS
          rw [if_pos (And.intro h1 h2), if_neg (by omega), if_neg (by omega), if_pos h3]
        have hb := sideS_bounds wm di (p - 10)
        obtain ⟨h3, h4⟩ := h3
        have h5 : (p == 2) = false := by simp; omega
        have h6 : (p == 3) = false := by simp; omega
        have Hs := Lib.hid hs
        clear hs
        have hk : Kept w w := Kept.refl w
        go_enter Tryd.func40, Tryd.ntmps40
        go_wp2_with fail
        refine with_boxes1 ?_
        intro X hX m
        have hsz := hk.size
        replace hk := hk.trans hX
        clear hX
        replace m_l := m.lt
        replace m_0 := m.at 0 _ rfl
        replace m_1 := m.at 1 _ rfl
        refine (refModeMay_any _ _ _).mono ?_
        rintro e w1 ⟨rfl, hn⟩
        replace hk := hk.trans hn
        replace m := m.kept hn
        clear hn
        replace m_l := m.lt
        replace m_0 := m.at 0 _ rfl
        replace m_1 := m.at 1 _ rfl
        go_wp2_with fail
        refine (refPropMay_any _ _).mono ?_
        rintro e w1 ⟨rfl, rfl⟩
        go_wp2_with fail
        refine (refSide_any _ _ _ _).mono ?_
        rintro e w1 ⟨rfl, hn⟩
        replace hk := hk.trans hn
        replace m := m.kept hn
        clear hn
        replace m_l := m.lt
        replace m_0 := m.at 0 _ rfl
        replace m_1 := m.at 1 _ rfl
        go_wp2
        go_ret2
        exact ⟨by rw [Hs.out]; rfl, hk⟩
      · have hs : mapS wm di p = (14 + (sideS wm di (p - 18)).1, 0) := by
          unfold mapS
          rw [if_pos (And.intro h1 h2), if_neg (by omega), if_neg (by omega), if_neg (by omega), if_pos h3]
        have hb := sideS_bounds wm di (p - 18)
        obtain ⟨h3, h4⟩ := h3
        have h5 : (p == 2) = false := by simp; omega
        have h6 : (p == 3) = false := by simp; omega
        have Hs := Lib.hid hs
        clear hs
        have hk : Kept w w := Kept.refl w
        go_enter Tryd.func40, Tryd.ntmps40
        go_wp2_with fail
        refine with_boxes1 ?_
        intro X hX m
        have hsz := hk.size
        replace hk := hk.trans hX
        clear hX
        replace m_l := m.lt
        replace m_0 := m.at 0 _ rfl
        replace m_1 := m.at 1 _ rfl
        refine (refModeMay_any _ _ _).mono ?_
        rintro e w1 ⟨rfl, hn⟩
        replace hk := hk.trans hn
        replace m := m.kept hn
        clear hn
        replace m_l := m.lt
        replace m_0 := m.at 0 _ rfl
        replace m_1 := m.at 1 _ rfl
        go_wp2_with fail
        refine (refPropMay_any _ _).mono ?_
        rintro e w1 ⟨rfl, rfl⟩
        go_wp2_with fail
        refine (refSide_any _ _ _ _).mono ?_
        rintro e w1 ⟨rfl, hn⟩
        replace hk := hk.trans hn
        replace m := m.kept hn
        clear hn
        replace m_l := m.lt
        replace m_0 := m.at 0 _ rfl
        replace m_1 := m.at 1 _ rfl
        go_wp2
        go_ret2
        exact ⟨by rw [Hs.out]; rfl, hk⟩
end Go.Proofs.YtnbagilcbngdcaaDoor
