/- Layer 9: properties: their names, the logical ones. -/
import Derived.Test.YtpblajjfgnhkdaaDoorModeSide
import Derived.Test.YtpblajjfgnhkdaaDoorBoxes
import Derived.Deep.CutRange
namespace Go.Proofs.YtpblajjfgnhkdaaDoor
open Go.RowKit
set_option linter.unusedSimpArgs false
set_option linter.unusedVariables false
def nameL : List ByteArray := [⟨#[105, 110, 108, 105, 110, 101, 45, 115, 105, 122, 101]⟩, ⟨#[98, 108, 111, 99, 107, 45, 115, 105, 122, 101]⟩, ⟨#[119, 105, 100, 116, 104]⟩, ⟨#[104, 101, 105, 103, 104, 116]⟩, ⟨#[109, 105, 110, 45, 105, 110, 108, 105, 110, 101, 45, 115, 105, 122, 101]⟩, ⟨#[109, 97, 120, 45, 105, 110, 108, 105, 110, 101, 45, 115, 105, 122, 101]⟩, ⟨#[109, 97, 114, 103, 105, 110, 45, 105, 110, 108, 105, 110, 101, 45, 115, 116, 97, 114, 116]⟩, ⟨#[109, 97, 114, 103, 105, 110, 45, 105, 110, 108, 105, 110, 101, 45, 101, 110, 100]⟩, ⟨#[109, 97, 114, 103, 105, 110, 45, 98, 108, 111, 99, 107, 45, 115, 116, 97, 114, 116]⟩, ⟨#[109, 97, 114, 103, 105, 110, 45, 98, 108, 111, 99, 107, 45, 101, 110, 100]⟩, ⟨#[109, 97, 114, 103, 105, 110, 45, 116, 111, 112]⟩, ⟨#[109, 97, 114, 103, 105, 110, 45, 114, 105, 103, 104, 116]⟩, ⟨#[109, 97, 114, 103, 105, 110, 45, 98, 111, 116, 116, 111, 109]⟩, ⟨#[109, 97, 114, 103, 105, 110, 45, 108, 101, 102, 116]⟩, ⟨#[112, 97, 100, 100, 105, 110, 103, 45, 105, 110, 108, 105, 110, 101, 45, 115, 116, 97, 114, 116]⟩, ⟨#[112, 97, 100, 100, 105, 110, 103, 45, 105, 110, 108, 105, 110, 101, 45, 101, 110, 100]⟩, ⟨#[112, 97, 100, 100, 105, 110, 103, 45, 98, 108, 111, 99, 107, 45, 115, 116, 97, 114, 116]⟩, ⟨#[112, 97, 100, 100, 105, 110, 103, 45, 98, 108, 111, 99, 107, 45, 101, 110, 100]⟩, ⟨#[112, 97, 100, 100, 105, 110, 103, 45, 116, 111, 112]⟩, ⟨#[112, 97, 100, 100, 105, 110, 103, 45, 114, 105, 103, 104, 116]⟩, ⟨#[112, 97, 100, 100, 105, 110, 103, 45, 98, 111, 116, 116, 111, 109]⟩, ⟨#[112, 97, 100, 100, 105, 110, 103, 45, 108, 101, 102, 116]⟩, ⟨#[102, 108, 101, 120, 45, 98, 97, 115, 105, 115]⟩, ⟨#[102, 108, 101, 120, 45, 103, 114, 111, 119]⟩, ⟨#[102, 108, 101, 120, 45, 115, 104, 114, 105, 110, 107]⟩, ⟨#[116, 101, 120, 116, 45, 97, 108, 105, 103, 110]⟩, ⟨#[97, 108, 105, 103, 110, 45, 105, 116, 101, 109, 115]⟩, ⟨#[106, 117, 115, 116, 105, 102, 121, 45, 99, 111, 110, 116, 101, 110, 116]⟩, ⟨#[102, 108, 101, 120, 45, 119, 114, 97, 112]⟩]
def nameS (k : Nat) : ByteArray := nameL.getD k ⟨#[]⟩
/-- the three tables, as the program lays them -/
structure TabN (w : World) : Prop where
  tab : Tab w
  size : 0 < w.heap.size
  nm : ∀ k, k < 29 → w.cell? ⟨0, k, none⟩ = some (.string (nameS k))
theorem TabN.kept {w w' : World} (h : TabN w) (k : Kept w w') : TabN w' :=
  ⟨h.tab.kept k, Nat.lt_of_lt_of_le h.size k.size, fun i hi => (k.cell h.size).trans (h.nm i hi)⟩
theorem propMay_any (p : Int) (w : World) :
    Calls Tryd.prog 59 #[.int .i64 p] w fun e w' => e = .returned (.bool (inB 0 28 p)) ∧ Kept w w' := by
  go_enter Tryd.func59, Tryd.ntmps59
  go_wp2_with (first
    | (go_at_call 29; refine (each1_any _ _ _ _ _ (cell_at _ _ _ _ _ _ (by simp) rfl)).mono ?_; rintro e w1 ⟨rfl, rfl⟩)
    | fail)
  go_ret
  exact ⟨rfl, (Kept.refl _).alloc _⟩
theorem propName_at (k : Nat) (h : k < 29) (w : World) (ht : TabN w) :
    Calls Tryd.prog 53 #[.int .i64 (k : Int)] w fun e w' => e = .returned (.tuple #[.string (nameS k), .int .i64 0]) ∧ Kept w w' := by
  have hi : inB 0 28 (k : Int) = true := inB_true.2 (by omega)
  have hk : Kept w w := Kept.refl w
  go_enter Tryd.func53, Tryd.ntmps53
  go_wp2_with fail
  refine (propMay_any _ _).mono ?_
  rintro e w1 ⟨rfl, hn⟩
  replace hk := hk.trans hn
  have c0 := (ht.kept hk).nm k h
  clear ht hn
  go_wp2
  go_ret2
  exact ⟨rfl, hk⟩
theorem propName_no (p : Int) (h : inB 0 28 p = false) (w : World) :
    Calls Tryd.prog 53 #[.int .i64 p] w fun e w' => e = .returned (.tuple #[.string ⟨#[]⟩, .int .i64 900]) ∧ Kept w w' := by
  have hk : Kept w w := Kept.refl w
  go_enter Tryd.func53, Tryd.ntmps53
  go_wp2_with fail
  refine (propMay_any _ _).mono ?_
  rintro e w1 ⟨rfl, hn⟩
  replace hk := hk.trans hn
  clear hn
  go_wp2
  go_ret2
  exact ⟨rfl, hk⟩
theorem propSide_any (wm di edge : Int) (w : World) (ht : Tab w) :
    Calls Tryd.prog 85 #[modeV wm di, .int .i64 edge] w fun e w' => e = .returned (.int .i64 (sideS wm di edge).1) ∧ Kept w w' := by
  have hk : Kept w w := Kept.refl w
  go_enter Tryd.func85, Tryd.ntmps85
  go_wp2_with fail
  refine with_boxes1 ?_
  intro X hX m
  have hsz := hk.size
  replace hk := hk.trans hX
  clear hX
  replace m_l := m.lt
  replace m_0 := m.at 0 _ rfl
  replace m_1 := m.at 1 _ rfl
  refine (modeSide_any _ _ _ _ (ht.kept hk)).mono ?_
  rintro e w1 ⟨rfl, hn⟩
  replace hk := hk.trans hn
  replace m := m.kept hn
  clear hn
  replace m_l := m.lt
  replace m_0 := m.at 0 _ rfl
  replace m_1 := m.at 1 _ rfl
  go_wp2
  go_ret
  exact ⟨rfl, hk⟩
/-- the logical property that one means -/
def mapS (wr di p : Int) : Int × Int :=
  if modeMayB wr di = true ∧ inB 0 28 p = true then
    (if p = 2 then (if vertB wr di = true then 1 else 0) else if p = 3 then (if vertB wr di = true then 0 else 1)
     else if 10 ≤ p ∧ p ≤ 13 then 6 + (sideS wr di (p - 10)).1 else if 18 ≤ p ∧ p ≤ 21 then 14 + (sideS wr di (p - 18)).1 else p, 0)
  else (0, 900)
theorem sideF_bounds (wr di edge : Int) (n k : Nat) : 0 ≤ (sideF wr di edge n k).1 ∧ (sideF wr di edge n k).1 ≤ (n : Int) + (k : Int) := by
  induction n generalizing k with
  | zero => simp [sideF]
  | succ n ih =>
    unfold sideF
    split
    · simp; omega
    · have := ih (k + 1); omega
theorem sideS_bounds (wr di edge : Int) : 0 ≤ (sideS wr di edge).1 ∧ (sideS wr di edge).1 ≤ 4 := by
  have := sideF_bounds wr di edge 4 0
  unfold sideS; omega
set_option maxHeartbeats 1000000 in
theorem propMap_any (wm di p : Int) (w : World) (ht : Tab w) :
    Calls Tryd.prog 71 #[modeV wm di, .int .i64 p] w fun e w' => e = .returned (.tuple #[.int .i64 (mapS wm di p).1, .int .i64 (mapS wm di p).2]) ∧ Kept w w' := by
  cases h1 : modeMayB wm di
  · have hs : mapS wm di p = (0, 900) := if_neg (by simp [h1])
    have Hs := Lib.hid hs
    clear hs
    have hk : Kept w w := Kept.refl w
    go_enter Tryd.func71, Tryd.ntmps71
    go_wp2_with fail
    refine with_boxes1 ?_
    intro X hX m
    have hsz := hk.size
    replace hk := hk.trans hX
    clear hX
    replace m_l := m.lt
    replace m_0 := m.at 0 _ rfl
    replace m_1 := m.at 1 _ rfl
    refine (modeMay_any _ _ _).mono ?_
    rintro e w1 ⟨rfl, hn⟩
    replace hk := hk.trans hn
    replace m := m.kept hn
    clear hn
    replace m_l := m.lt
    replace m_0 := m.at 0 _ rfl
    replace m_1 := m.at 1 _ rfl
    go_wp2
    go_ret2
    exact ⟨by rw [Hs.out]; rfl, hk⟩
  · cases h2 : inB 0 28 p
    · have hs : mapS wm di p = (0, 900) := if_neg (by simp [h2])
      have Hs := Lib.hid hs
      clear hs
      have hk : Kept w w := Kept.refl w
      go_enter Tryd.func71, Tryd.ntmps71
      go_wp2_with fail
      refine with_boxes1 ?_
      intro X hX m
      have hsz := hk.size
      replace hk := hk.trans hX
      clear hX
      replace m_l := m.lt
      replace m_0 := m.at 0 _ rfl
      replace m_1 := m.at 1 _ rfl
      refine (modeMay_any _ _ _).mono ?_
      rintro e w1 ⟨rfl, hn⟩
      replace hk := hk.trans hn
      replace m := m.kept hn
      clear hn
      replace m_l := m.lt
      replace m_0 := m.at 0 _ rfl
      replace m_1 := m.at 1 _ rfl
      go_wp2_with fail
      refine (propMay_any _ _).mono ?_
      rintro e w1 ⟨rfl, hn⟩
      replace hk := hk.trans hn
      replace m := m.kept hn
      clear hn
      replace m_l := m.lt
      replace m_0 := m.at 0 _ rfl
      replace m_1 := m.at 1 _ rfl
      go_wp2
      go_ret2
      exact ⟨by rw [Hs.out]; rfl, hk⟩
    · obtain ⟨p1, p2⟩ := inB_true.1 h2
      rcases (by omega : (p = 2 ∨ p = 3) ∨ (p = 0 ∨ p = 1) ∨ (4 ≤ p ∧ p ≤ 9 ∨ 14 ≤ p ∧ p ≤ 17 ∨ 22 ≤ p ∧ p ≤ 28) ∨ 10 ≤ p ∧ p ≤ 13 ∨ 18 ≤ p ∧ p ≤ 21) with h3 | h3 | h3 | h3 | h3
      · rcases h3 with rfl | rfl <;> cases h4 : vertB wm di
        all_goals
          have hs : mapS wm di _ = _ := if_pos (And.intro h1 h2)
          simp [h4] at hs
          have Hs := Lib.hid hs
          clear hs
          have hk : Kept w w := Kept.refl w
          go_enter Tryd.func71, Tryd.ntmps71
          go_wp2_with fail
          refine with_boxes1 ?_
          intro X hX m
          have hsz := hk.size
          replace hk := hk.trans hX
          clear hX
          replace m_l := m.lt
          replace m_0 := m.at 0 _ rfl
          replace m_1 := m.at 1 _ rfl
          refine (modeMay_any _ _ _).mono ?_
          rintro e w1 ⟨rfl, hn⟩
          replace hk := hk.trans hn
          replace m := m.kept hn
          clear hn
          replace m_l := m.lt
          replace m_0 := m.at 0 _ rfl
          replace m_1 := m.at 1 _ rfl
          go_wp2_with fail
          refine (propMay_any _ _).mono ?_
          rintro e w1 ⟨rfl, hn⟩
          replace hk := hk.trans hn
          replace m := m.kept hn
          clear hn
          replace m_l := m.lt
          replace m_0 := m.at 0 _ rfl
          replace m_1 := m.at 1 _ rfl
          go_wp2_with fail
          refine (modeVertical_any _ _ _).mono ?_
          rintro e w1 ⟨rfl, hn⟩
          replace hk := hk.trans hn
          replace m := m.kept hn
          clear hn
          replace m_l := m.lt
          replace m_0 := m.at 0 _ rfl
          replace m_1 := m.at 1 _ rfl
          go_wp2
          go_ret2
          exact ⟨by rw [Hs.out]; rfl, hk⟩
      · rcases h3 with rfl | rfl
        all_goals
          have hs : mapS wm di _ = _ := if_pos (And.intro h1 h2)
          simp at hs
          have Hs := Lib.hid hs
          clear hs
          have hk : Kept w w := Kept.refl w
          go_enter Tryd.func71, Tryd.ntmps71
          go_wp2_with fail
          refine with_boxes1 ?_
          intro X hX m
          have hsz := hk.size
          replace hk := hk.trans hX
          clear hX
          replace m_l := m.lt
          replace m_0 := m.at 0 _ rfl
          replace m_1 := m.at 1 _ rfl
          refine (modeMay_any _ _ _).mono ?_
          rintro e w1 ⟨rfl, hn⟩
          replace hk := hk.trans hn
          replace m := m.kept hn
          clear hn
          replace m_l := m.lt
          replace m_0 := m.at 0 _ rfl
          replace m_1 := m.at 1 _ rfl
          go_wp2_with fail
          refine (propMay_any _ _).mono ?_
          rintro e w1 ⟨rfl, hn⟩
          replace hk := hk.trans hn
          replace m := m.kept hn
          clear hn
          replace m_l := m.lt
          replace m_0 := m.at 0 _ rfl
          replace m_1 := m.at 1 _ rfl
          go_wp2
          go_ret2
          exact ⟨by rw [Hs.out]; rfl, hk⟩
      · have hs : mapS wm di p = (p, 0) := by
          unfold mapS
          rw [if_pos (And.intro h1 h2), if_neg (by omega), if_neg (by omega), if_neg (by omega), if_neg (by omega)]
        have Hs := Lib.hid hs
        clear hs
        rcases h3 with ⟨h3, h4⟩ | ⟨h3, h4⟩ | ⟨h3, h4⟩
        all_goals
          have h5 : (p == 2) = false := by simp; omega
          have h6 : (p == 3) = false := by simp; omega
          have hk : Kept w w := Kept.refl w
          go_enter Tryd.func71, Tryd.ntmps71
          go_wp2_with fail
          refine with_boxes1 ?_
          intro X hX m
          have hsz := hk.size
          replace hk := hk.trans hX
          clear hX
          replace m_l := m.lt
          replace m_0 := m.at 0 _ rfl
          replace m_1 := m.at 1 _ rfl
          refine (modeMay_any _ _ _).mono ?_
          rintro e w1 ⟨rfl, hn⟩
          replace hk := hk.trans hn
          replace m := m.kept hn
          clear hn
          replace m_l := m.lt
          replace m_0 := m.at 0 _ rfl
          replace m_1 := m.at 1 _ rfl
          go_wp2_with fail
          refine (propMay_any _ _).mono ?_
          rintro e w1 ⟨rfl, hn⟩
          replace hk := hk.trans hn
          replace m := m.kept hn
          clear hn
          replace m_l := m.lt
          replace m_0 := m.at 0 _ rfl
          replace m_1 := m.at 1 _ rfl
          go_wp2
          go_ret2
          exact ⟨by rw [Hs.out]; rfl, hk⟩
      · have hs : mapS wm di p = (6 + (sideS wm di (p - 10)).1, 0) := by
          unfold mapS
          rw [if_pos (And.intro h1 h2), if_neg (by omega), if_neg (by omega), if_pos h3]
        have hb := sideS_bounds wm di (p - 10)
        obtain ⟨h3, h4⟩ := h3
        have h5 : (p == 2) = false := by simp; omega
        have h6 : (p == 3) = false := by simp; omega
        have Hs := Lib.hid hs
        clear hs
        have hk : Kept w w := Kept.refl w
        go_enter Tryd.func71, Tryd.ntmps71
        go_wp2_with fail
        refine with_boxes1 ?_
        intro X hX m
        have hsz := hk.size
        replace hk := hk.trans hX
        clear hX
        replace m_l := m.lt
        replace m_0 := m.at 0 _ rfl
        replace m_1 := m.at 1 _ rfl
        refine (modeMay_any _ _ _).mono ?_
        rintro e w1 ⟨rfl, hn⟩
        replace hk := hk.trans hn
        replace m := m.kept hn
        clear hn
        replace m_l := m.lt
        replace m_0 := m.at 0 _ rfl
        replace m_1 := m.at 1 _ rfl
        go_wp2_with fail
        refine (propMay_any _ _).mono ?_
        rintro e w1 ⟨rfl, hn⟩
        replace hk := hk.trans hn
        replace m := m.kept hn
        clear hn
        replace m_l := m.lt
        replace m_0 := m.at 0 _ rfl
        replace m_1 := m.at 1 _ rfl
        go_wp2_with fail
        refine (propSide_any _ _ _ _ (ht.kept hk)).mono ?_
        rintro e w1 ⟨rfl, hn⟩
        replace hk := hk.trans hn
        replace m := m.kept hn
        clear hn
        replace m_l := m.lt
        replace m_0 := m.at 0 _ rfl
        replace m_1 := m.at 1 _ rfl
        go_wp2
        go_ret2
        exact ⟨by rw [Hs.out]; rfl, hk⟩
      · have hs : mapS wm di p = (14 + (sideS wm di (p - 18)).1, 0) := by
          unfold mapS
          rw [if_pos (And.intro h1 h2), if_neg (by omega), if_neg (by omega), if_neg (by omega), if_pos h3]
        have hb := sideS_bounds wm di (p - 18)
        obtain ⟨h3, h4⟩ := h3
        have h5 : (p == 2) = false := by simp; omega
        have h6 : (p == 3) = false := by simp; omega
        have Hs := Lib.hid hs
        clear hs
        have hk : Kept w w := Kept.refl w
        go_enter Tryd.func71, Tryd.ntmps71
        go_wp2_with fail
        refine with_boxes1 ?_
        intro X hX m
        have hsz := hk.size
        replace hk := hk.trans hX
        clear hX
        replace m_l := m.lt
        replace m_0 := m.at 0 _ rfl
        replace m_1 := m.at 1 _ rfl
        refine (modeMay_any _ _ _).mono ?_
        rintro e w1 ⟨rfl, hn⟩
        replace hk := hk.trans hn
        replace m := m.kept hn
        clear hn
        replace m_l := m.lt
        replace m_0 := m.at 0 _ rfl
        replace m_1 := m.at 1 _ rfl
        go_wp2_with fail
        refine (propMay_any _ _).mono ?_
        rintro e w1 ⟨rfl, hn⟩
        replace hk := hk.trans hn
        replace m := m.kept hn
        clear hn
        replace m_l := m.lt
        replace m_0 := m.at 0 _ rfl
        replace m_1 := m.at 1 _ rfl
        go_wp2_with fail
        refine (propSide_any _ _ _ _ (ht.kept hk)).mono ?_
        rintro e w1 ⟨rfl, hn⟩
        replace hk := hk.trans hn
        replace m := m.kept hn
        clear hn
        replace m_l := m.lt
        replace m_0 := m.at 0 _ rfl
        replace m_1 := m.at 1 _ rfl
        go_wp2
        go_ret2
        exact ⟨by rw [Hs.out]; rfl, hk⟩
end Go.Proofs.YtpblajjfgnhkdaaDoor
