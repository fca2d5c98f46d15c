/- Layer 9: of each mode a margin's and a padding's edge. -/
import Derived.Test.YtgofhpalceopiaaDoorAwake9
import Derived.Test.YtgofhpalceopiaaDoorMask
import Derived.Test.YtgofhpalceopiaaDoorRefMode
namespace Go.Proofs.YtgofhpalceopiaaDoor
open Go.RowKit
set_option linter.unusedSimpArgs false
set_option linter.unusedVariables false
set_option maxRecDepth 20000 in
set_option maxHeartbeats 4000000 in
theorem propEdges_00 (w : World) (ht : TabN w) :
    Calls Tryd.prog 7 #[modeV 0 0] w fun e w' => e = .returned (.bool true) ∧ Kept w w' := by
  have f0 : mapS 0 0 2 = (0, 0) := by decide
  have f1 : mapS 0 0 3 = (1, 0) := by decide
  have f2 : vertB 0 0 = false := by decide
  have F := Lib.hid (And.intro f0 (And.intro f1 f2))
  clear f0 f1 f2
  have hk : Kept w w := Kept.refl w
  go_enter Tryd.func7, Tryd.ntmps7
  go_wp2_with fail
  refine with_boxes1 ?_
  intro X hX m
  have hsz := hk.size
  replace hk := hk.trans hX
  clear hX
  replace m_l := m.lt
  replace m_0 := m.at 0 _ rfl
  replace m_1 := m.at 1 _ rfl
  refine (awake9_any _ (ht.kept hk)).mono ?_
  rintro e w1 ⟨rfl, hn⟩
  replace hk := hk.trans hn
  replace m := m.kept hn
  clear hn
  replace m_l := m.lt
  replace m_0 := m.at 0 _ rfl
  replace m_1 := m.at 1 _ rfl
  go_wp2
  obtain ⟨g, hg⟩ : ∃ g : Nat, w.heap.size = g := ⟨_, rfl⟩
  rw [hg] at m ⊢
  clear hg
  go_loopw [3] (fun i wx => ∃ k : Nat, k ≤ 4 ∧ i = .int .i64 k ∧ Kept w wx ∧ Own wx g 23 #[.int .i64 0, .int .i64 0]) (fun i _ => 4 - (intOf i).toNat)
  case atStart => exact ⟨0, Nat.zero_le _, rfl, hk, m⟩
  case round =>
    clear hk m
    obtain ⟨k, hk4, rfl, hk, m⟩ := hrel
    rcases (by omega : k = 0 ∨ k = 1 ∨ k = 2 ∨ k = 3 ∨ k = 4) with rfl | rfl | rfl | rfl | rfl
    · have e1 : mapS 0 0 10 = (8, 0) := by decide
      have e2 : mapS 0 0 18 = (16, 0) := by decide
      have e3 : sideS 0 0 0 = (2, 0) := by decide
      have c0 := m.at 0 _ rfl
      have c1 := m.at 1 _ rfl
      have cl := m.lt
      go_wp2_with fail
      refine (propMap_any _ _ _ _ (ht.kept hk).tab).mono ?_
      rintro e w1 ⟨rfl, hn⟩
      replace hk := hk.trans hn
      replace m := m.kept hn
      clear hn c0 c1 cl
      have c0 := m.at 0 _ rfl
      have c1 := m.at 1 _ rfl
      have cl := m.lt
      go_wp2_with fail
      refine (propMap_any _ _ _ _ (ht.kept hk).tab).mono ?_
      rintro e w1 ⟨rfl, hn⟩
      replace hk := hk.trans hn
      replace m := m.kept hn
      clear hn c0 c1 cl
      have c0 := m.at 0 _ rfl
      have c1 := m.at 1 _ rfl
      have cl := m.lt
      go_wp2_with (first
        | (go_at_call 17; refine (refSide_any _ _ _ _).mono ?_; rintro e w1 ⟨rfl, hn⟩; replace hk := hk.trans hn; replace m := m.kept hn; clear hn c0 c1 cl; have c0 := m.at 0 _ rfl; have c1 := m.at 1 _ rfl; have cl := m.lt)
        | (go_at_call 14; refine (num_any _ _).mono ?_; rintro e w1 ⟨rfl, rfl⟩)
        | fail)
      go_roundw
      case rel => exact ⟨1, by omega, rfl, hk, m⟩
      case measure => simp [intOf]
    · have e1 : mapS 0 0 11 = (7, 0) := by decide
      have e2 : mapS 0 0 19 = (15, 0) := by decide
      have e3 : sideS 0 0 1 = (1, 0) := by decide
      have c0 := m.at 0 _ rfl
      have c1 := m.at 1 _ rfl
      have cl := m.lt
      go_wp2_with fail
      refine (propMap_any _ _ _ _ (ht.kept hk).tab).mono ?_
      rintro e w1 ⟨rfl, hn⟩
      replace hk := hk.trans hn
      replace m := m.kept hn
      clear hn c0 c1 cl
      have c0 := m.at 0 _ rfl
      have c1 := m.at 1 _ rfl
      have cl := m.lt
      go_wp2_with fail
      refine (propMap_any _ _ _ _ (ht.kept hk).tab).mono ?_
      rintro e w1 ⟨rfl, hn⟩
      replace hk := hk.trans hn
      replace m := m.kept hn
      clear hn c0 c1 cl
      have c0 := m.at 0 _ rfl
      have c1 := m.at 1 _ rfl
      have cl := m.lt
      go_wp2_with (first
        | (go_at_call 17; refine (refSide_any _ _ _ _).mono ?_; rintro e w1 ⟨rfl, hn⟩; replace hk := hk.trans hn; replace m := m.kept hn; clear hn c0 c1 cl; have c0 := m.at 0 _ rfl; have c1 := m.at 1 _ rfl; have cl := m.lt)
        | (go_at_call 14; refine (num_any _ _).mono ?_; rintro e w1 ⟨rfl, rfl⟩)
        | fail)
      go_roundw
      case rel => exact ⟨2, by omega, rfl, hk, m⟩
      case measure => simp [intOf]
    · have e1 : mapS 0 0 12 = (9, 0) := by decide
      have e2 : mapS 0 0 20 = (17, 0) := by decide
      have e3 : sideS 0 0 2 = (3, 0) := by decide
      have c0 := m.at 0 _ rfl
      have c1 := m.at 1 _ rfl
      have cl := m.lt
      go_wp2_with fail
      refine (propMap_any _ _ _ _ (ht.kept hk).tab).mono ?_
      rintro e w1 ⟨rfl, hn⟩
      replace hk := hk.trans hn
      replace m := m.kept hn
      clear hn c0 c1 cl
      have c0 := m.at 0 _ rfl
      have c1 := m.at 1 _ rfl
      have cl := m.lt
      go_wp2_with fail
      refine (propMap_any _ _ _ _ (ht.kept hk).tab).mono ?_
      rintro e w1 ⟨rfl, hn⟩
      replace hk := hk.trans hn
      replace m := m.kept hn
      clear hn c0 c1 cl
      have c0 := m.at 0 _ rfl
      have c1 := m.at 1 _ rfl
      have cl := m.lt
      go_wp2_with (first
        | (go_at_call 17; refine (refSide_any _ _ _ _).mono ?_; rintro e w1 ⟨rfl, hn⟩; replace hk := hk.trans hn; replace m := m.kept hn; clear hn c0 c1 cl; have c0 := m.at 0 _ rfl; have c1 := m.at 1 _ rfl; have cl := m.lt)
        | (go_at_call 14; refine (num_any _ _).mono ?_; rintro e w1 ⟨rfl, rfl⟩)
        | fail)
      go_roundw
      case rel => exact ⟨3, by omega, rfl, hk, m⟩
      case measure => simp [intOf]
    · have e1 : mapS 0 0 13 = (6, 0) := by decide
      have e2 : mapS 0 0 21 = (14, 0) := by decide
      have e3 : sideS 0 0 3 = (0, 0) := by decide
      have c0 := m.at 0 _ rfl
      have c1 := m.at 1 _ rfl
      have cl := m.lt
      go_wp2_with fail
      refine (propMap_any _ _ _ _ (ht.kept hk).tab).mono ?_
      rintro e w1 ⟨rfl, hn⟩
      replace hk := hk.trans hn
      replace m := m.kept hn
      clear hn c0 c1 cl
      have c0 := m.at 0 _ rfl
      have c1 := m.at 1 _ rfl
      have cl := m.lt
      go_wp2_with fail
      refine (propMap_any _ _ _ _ (ht.kept hk).tab).mono ?_
      rintro e w1 ⟨rfl, hn⟩
      replace hk := hk.trans hn
      replace m := m.kept hn
      clear hn c0 c1 cl
      have c0 := m.at 0 _ rfl
      have c1 := m.at 1 _ rfl
      have cl := m.lt
      go_wp2_with (first
        | (go_at_call 17; refine (refSide_any _ _ _ _).mono ?_; rintro e w1 ⟨rfl, hn⟩; replace hk := hk.trans hn; replace m := m.kept hn; clear hn c0 c1 cl; have c0 := m.at 0 _ rfl; have c1 := m.at 1 _ rfl; have cl := m.lt)
        | (go_at_call 14; refine (num_any _ _).mono ?_; rintro e w1 ⟨rfl, rfl⟩)
        | fail)
      go_roundw
      case rel => exact ⟨4, by omega, rfl, hk, m⟩
      case measure => simp [intOf]
    · have c0 := m.at 0 _ rfl
      have c1 := m.at 1 _ rfl
      have cl := m.lt
      have f0 := F.out.1
      have f1 := F.out.2.1
      have f2 := F.out.2.2
      go_wp2_with fail
      refine (propMap_any _ _ _ _ (ht.kept hk).tab).mono ?_
      rintro e w1 ⟨rfl, hn⟩
      replace hk := hk.trans hn
      replace m := m.kept hn
      clear hn c0 c1 cl
      have c0 := m.at 0 _ rfl
      have c1 := m.at 1 _ rfl
      have cl := m.lt
      go_wp2_with fail
      refine (propMap_any _ _ _ _ (ht.kept hk).tab).mono ?_
      rintro e w1 ⟨rfl, hn⟩
      replace hk := hk.trans hn
      replace m := m.kept hn
      clear hn c0 c1 cl
      have c0 := m.at 0 _ rfl
      have c1 := m.at 1 _ rfl
      have cl := m.lt
      go_wp2_with (first
        | (go_at_call 18; refine (refVertical_any _ _ _).mono ?_; rintro e w1 ⟨rfl, hn⟩; replace hk := hk.trans hn)
        | (go_at_call 14; refine (num_any _ _).mono ?_; rintro e w1 ⟨rfl, rfl⟩)
        | fail)
      go_ret
      exact ⟨rfl, hk⟩
set_option maxRecDepth 20000 in
set_option maxHeartbeats 4000000 in
theorem propEdges_01 (w : World) (ht : TabN w) :
    Calls Tryd.prog 7 #[modeV 0 1] w fun e w' => e = .returned (.bool true) ∧ Kept w w' := by
  have f0 : mapS 0 1 2 = (0, 0) := by decide
  have f1 : mapS 0 1 3 = (1, 0) := by decide
  have f2 : vertB 0 1 = false := by decide
  have F := Lib.hid (And.intro f0 (And.intro f1 f2))
  clear f0 f1 f2
  have hk : Kept w w := Kept.refl w
  go_enter Tryd.func7, Tryd.ntmps7
  go_wp2_with fail
  refine with_boxes1 ?_
  intro X hX m
  have hsz := hk.size
  replace hk := hk.trans hX
  clear hX
  replace m_l := m.lt
  replace m_0 := m.at 0 _ rfl
  replace m_1 := m.at 1 _ rfl
  refine (awake9_any _ (ht.kept hk)).mono ?_
  rintro e w1 ⟨rfl, hn⟩
  replace hk := hk.trans hn
  replace m := m.kept hn
  clear hn
  replace m_l := m.lt
  replace m_0 := m.at 0 _ rfl
  replace m_1 := m.at 1 _ rfl
  go_wp2
  obtain ⟨g, hg⟩ : ∃ g : Nat, w.heap.size = g := ⟨_, rfl⟩
  rw [hg] at m ⊢
  clear hg
  go_loopw [3] (fun i wx => ∃ k : Nat, k ≤ 4 ∧ i = .int .i64 k ∧ Kept w wx ∧ Own wx g 23 #[.int .i64 0, .int .i64 1]) (fun i _ => 4 - (intOf i).toNat)
  case atStart => exact ⟨0, Nat.zero_le _, rfl, hk, m⟩
  case round =>
    clear hk m
    obtain ⟨k, hk4, rfl, hk, m⟩ := hrel
    rcases (by omega : k = 0 ∨ k = 1 ∨ k = 2 ∨ k = 3 ∨ k = 4) with rfl | rfl | rfl | rfl | rfl
    · have e1 : mapS 0 1 10 = (8, 0) := by decide
      have e2 : mapS 0 1 18 = (16, 0) := by decide
      have e3 : sideS 0 1 0 = (2, 0) := by decide
      have c0 := m.at 0 _ rfl
      have c1 := m.at 1 _ rfl
      have cl := m.lt
      go_wp2_with fail
      refine (propMap_any _ _ _ _ (ht.kept hk).tab).mono ?_
      rintro e w1 ⟨rfl, hn⟩
      replace hk := hk.trans hn
      replace m := m.kept hn
      clear hn c0 c1 cl
      have c0 := m.at 0 _ rfl
      have c1 := m.at 1 _ rfl
      have cl := m.lt
      go_wp2_with fail
      refine (propMap_any _ _ _ _ (ht.kept hk).tab).mono ?_
      rintro e w1 ⟨rfl, hn⟩
      replace hk := hk.trans hn
      replace m := m.kept hn
      clear hn c0 c1 cl
      have c0 := m.at 0 _ rfl
      have c1 := m.at 1 _ rfl
      have cl := m.lt
      go_wp2_with (first
        | (go_at_call 17; refine (refSide_any _ _ _ _).mono ?_; rintro e w1 ⟨rfl, hn⟩; replace hk := hk.trans hn; replace m := m.kept hn; clear hn c0 c1 cl; have c0 := m.at 0 _ rfl; have c1 := m.at 1 _ rfl; have cl := m.lt)
        | (go_at_call 14; refine (num_any _ _).mono ?_; rintro e w1 ⟨rfl, rfl⟩)
        | fail)
      go_roundw
      case rel => exact ⟨1, by omega, rfl, hk, m⟩
      case measure => simp [intOf]
    · have e1 : mapS 0 1 11 = (6, 0) := by decide
      have e2 : mapS 0 1 19 = (14, 0) := by decide
      have e3 : sideS 0 1 1 = (0, 0) := by decide
      have c0 := m.at 0 _ rfl
      have c1 := m.at 1 _ rfl
      have cl := m.lt
      go_wp2_with fail
      refine (propMap_any _ _ _ _ (ht.kept hk).tab).mono ?_
      rintro e w1 ⟨rfl, hn⟩
      replace hk := hk.trans hn
      replace m := m.kept hn
      clear hn c0 c1 cl
      have c0 := m.at 0 _ rfl
      have c1 := m.at 1 _ rfl
      have cl := m.lt
      go_wp2_with fail
      refine (propMap_any _ _ _ _ (ht.kept hk).tab).mono ?_
      rintro e w1 ⟨rfl, hn⟩
      replace hk := hk.trans hn
      replace m := m.kept hn
      clear hn c0 c1 cl
      have c0 := m.at 0 _ rfl
      have c1 := m.at 1 _ rfl
      have cl := m.lt
      go_wp2_with (first
        | (go_at_call 17; refine (refSide_any _ _ _ _).mono ?_; rintro e w1 ⟨rfl, hn⟩; replace hk := hk.trans hn; replace m := m.kept hn; clear hn c0 c1 cl; have c0 := m.at 0 _ rfl; have c1 := m.at 1 _ rfl; have cl := m.lt)
        | (go_at_call 14; refine (num_any _ _).mono ?_; rintro e w1 ⟨rfl, rfl⟩)
        | fail)
      go_roundw
      case rel => exact ⟨2, by omega, rfl, hk, m⟩
      case measure => simp [intOf]
    · have e1 : mapS 0 1 12 = (9, 0) := by decide
      have e2 : mapS 0 1 20 = (17, 0) := by decide
      have e3 : sideS 0 1 2 = (3, 0) := by decide
      have c0 := m.at 0 _ rfl
      have c1 := m.at 1 _ rfl
      have cl := m.lt
      go_wp2_with fail
      refine (propMap_any _ _ _ _ (ht.kept hk).tab).mono ?_
      rintro e w1 ⟨rfl, hn⟩
      replace hk := hk.trans hn
      replace m := m.kept hn
      clear hn c0 c1 cl
      have c0 := m.at 0 _ rfl
      have c1 := m.at 1 _ rfl
      have cl := m.lt
      go_wp2_with fail
      refine (propMap_any _ _ _ _ (ht.kept hk).tab).mono ?_
      rintro e w1 ⟨rfl, hn⟩
      replace hk := hk.trans hn
      replace m := m.kept hn
      clear hn c0 c1 cl
      have c0 := m.at 0 _ rfl
      have c1 := m.at 1 _ rfl
      have cl := m.lt
      go_wp2_with (first
        | (go_at_call 17; refine (refSide_any _ _ _ _).mono ?_; rintro e w1 ⟨rfl, hn⟩; replace hk := hk.trans hn; replace m := m.kept hn; clear hn c0 c1 cl; have c0 := m.at 0 _ rfl; have c1 := m.at 1 _ rfl; have cl := m.lt)
        | (go_at_call 14; refine (num_any _ _).mono ?_; rintro e w1 ⟨rfl, rfl⟩)
        | fail)
      go_roundw
      case rel => exact ⟨3, by omega, rfl, hk, m⟩
      case measure => simp [intOf]
    · have e1 : mapS 0 1 13 = (7, 0) := by decide
      have e2 : mapS 0 1 21 = (15, 0) := by decide
      have e3 : sideS 0 1 3 = (1, 0) := by decide
      have c0 := m.at 0 _ rfl
      have c1 := m.at 1 _ rfl
      have cl := m.lt
      go_wp2_with fail
      refine (propMap_any _ _ _ _ (ht.kept hk).tab).mono ?_
      rintro e w1 ⟨rfl, hn⟩
      replace hk := hk.trans hn
      replace m := m.kept hn
      clear hn c0 c1 cl
      have c0 := m.at 0 _ rfl
      have c1 := m.at 1 _ rfl
      have cl := m.lt
      go_wp2_with fail
      refine (propMap_any _ _ _ _ (ht.kept hk).tab).mono ?_
      rintro e w1 ⟨rfl, hn⟩
      replace hk := hk.trans hn
      replace m := m.kept hn
      clear hn c0 c1 cl
      have c0 := m.at 0 _ rfl
      have c1 := m.at 1 _ rfl
      have cl := m.lt
      go_wp2_with (first
        | (go_at_call 17; refine (refSide_any _ _ _ _).mono ?_; rintro e w1 ⟨rfl, hn⟩; replace hk := hk.trans hn; replace m := m.kept hn; clear hn c0 c1 cl; have c0 := m.at 0 _ rfl; have c1 := m.at 1 _ rfl; have cl := m.lt)
        | (go_at_call 14; refine (num_any _ _).mono ?_; rintro e w1 ⟨rfl, rfl⟩)
        | fail)
      go_roundw
      case rel => exact ⟨4, by omega, rfl, hk, m⟩
      case measure => simp [intOf]
    · have c0 := m.at 0 _ rfl
      have c1 := m.at 1 _ rfl
      have cl := m.lt
      have f0 := F.out.1
      have f1 := F.out.2.1
      have f2 := F.out.2.2
      go_wp2_with fail
      refine (propMap_any _ _ _ _ (ht.kept hk).tab).mono ?_
      rintro e w1 ⟨rfl, hn⟩
      replace hk := hk.trans hn
      replace m := m.kept hn
      clear hn c0 c1 cl
      have c0 := m.at 0 _ rfl
      have c1 := m.at 1 _ rfl
      have cl := m.lt
      go_wp2_with fail
      refine (propMap_any _ _ _ _ (ht.kept hk).tab).mono ?_
      rintro e w1 ⟨rfl, hn⟩
      replace hk := hk.trans hn
      replace m := m.kept hn
      clear hn c0 c1 cl
      have c0 := m.at 0 _ rfl
      have c1 := m.at 1 _ rfl
      have cl := m.lt
      go_wp2_with (first
        | (go_at_call 18; refine (refVertical_any _ _ _).mono ?_; rintro e w1 ⟨rfl, hn⟩; replace hk := hk.trans hn)
        | (go_at_call 14; refine (num_any _ _).mono ?_; rintro e w1 ⟨rfl, rfl⟩)
        | fail)
      go_ret
      exact ⟨rfl, hk⟩
set_option maxRecDepth 20000 in
set_option maxHeartbeats 4000000 in
theorem propEdges_10 (w : World) (ht : TabN w) :
    Calls Tryd.prog 7 #[modeV 1 0] w fun e w' => e = .returned (.bool true) ∧ Kept w w' := by
  have f0 : mapS 1 0 2 = (1, 0) := by decide
  have f1 : mapS 1 0 3 = (0, 0) := by decide
  have f2 : vertB 1 0 = true := by decide
  have F := Lib.hid (And.intro f0 (And.intro f1 f2))
  clear f0 f1 f2
  have hk : Kept w w := Kept.refl w
  go_enter Tryd.func7, Tryd.ntmps7
  go_wp2_with fail
  refine with_boxes1 ?_
  intro X hX m
  have hsz := hk.size
  replace hk := hk.trans hX
  clear hX
  replace m_l := m.lt
  replace m_0 := m.at 0 _ rfl
  replace m_1 := m.at 1 _ rfl
  refine (awake9_any _ (ht.kept hk)).mono ?_
  rintro e w1 ⟨rfl, hn⟩
  replace hk := hk.trans hn
  replace m := m.kept hn
  clear hn
  replace m_l := m.lt
  replace m_0 := m.at 0 _ rfl
  replace m_1 := m.at 1 _ rfl
  go_wp2
  obtain ⟨g, hg⟩ : ∃ g : Nat, w.heap.size = g := ⟨_, rfl⟩
  rw [hg] at m ⊢
  clear hg
  go_loopw [3] (fun i wx => ∃ k : Nat, k ≤ 4 ∧ i = .int .i64 k ∧ Kept w wx ∧ Own wx g 23 #[.int .i64 1, .int .i64 0]) (fun i _ => 4 - (intOf i).toNat)
  case atStart => exact ⟨0, Nat.zero_le _, rfl, hk, m⟩
  case round =>
    clear hk m
    obtain ⟨k, hk4, rfl, hk, m⟩ := hrel
    rcases (by omega : k = 0 ∨ k = 1 ∨ k = 2 ∨ k = 3 ∨ k = 4) with rfl | rfl | rfl | rfl | rfl
    · have e1 : mapS 1 0 10 = (6, 0) := by decide
      have e2 : mapS 1 0 18 = (14, 0) := by decide
      have e3 : sideS 1 0 0 = (0, 0) := by decide
      have c0 := m.at 0 _ rfl
      have c1 := m.at 1 _ rfl
      have cl := m.lt
      go_wp2_with fail
      refine (propMap_any _ _ _ _ (ht.kept hk).tab).mono ?_
      rintro e w1 ⟨rfl, hn⟩
      replace hk := hk.trans hn
      replace m := m.kept hn
      clear hn c0 c1 cl
      have c0 := m.at 0 _ rfl
      have c1 := m.at 1 _ rfl
      have cl := m.lt
      go_wp2_with fail
      refine (propMap_any _ _ _ _ (ht.kept hk).tab).mono ?_
      rintro e w1 ⟨rfl, hn⟩
      replace hk := hk.trans hn
      replace m := m.kept hn
      clear hn c0 c1 cl
      have c0 := m.at 0 _ rfl
      have c1 := m.at 1 _ rfl
      have cl := m.lt
      go_wp2_with (first
        | (go_at_call 17; refine (refSide_any _ _ _ _).mono ?_; rintro e w1 ⟨rfl, hn⟩; replace hk := hk.trans hn; replace m := m.kept hn; clear hn c0 c1 cl; have c0 := m.at 0 _ rfl; have c1 := m.at 1 _ rfl; have cl := m.lt)
        | (go_at_call 14; refine (num_any _ _).mono ?_; rintro e w1 ⟨rfl, rfl⟩)
        | fail)
      go_roundw
      case rel => exact ⟨1, by omega, rfl, hk, m⟩
      case measure => simp [intOf]
    · have e1 : mapS 1 0 11 = (8, 0) := by decide
      have e2 : mapS 1 0 19 = (16, 0) := by decide
      have e3 : sideS 1 0 1 = (2, 0) := by decide
      have c0 := m.at 0 _ rfl
      have c1 := m.at 1 _ rfl
      have cl := m.lt
      go_wp2_with fail
      refine (propMap_any _ _ _ _ (ht.kept hk).tab).mono ?_
      rintro e w1 ⟨rfl, hn⟩
      replace hk := hk.trans hn
      replace m := m.kept hn
      clear hn c0 c1 cl
      have c0 := m.at 0 _ rfl
      have c1 := m.at 1 _ rfl
      have cl := m.lt
      go_wp2_with fail
      refine (propMap_any _ _ _ _ (ht.kept hk).tab).mono ?_
      rintro e w1 ⟨rfl, hn⟩
      replace hk := hk.trans hn
      replace m := m.kept hn
      clear hn c0 c1 cl
      have c0 := m.at 0 _ rfl
      have c1 := m.at 1 _ rfl
      have cl := m.lt
      go_wp2_with (first
        | (go_at_call 17; refine (refSide_any _ _ _ _).mono ?_; rintro e w1 ⟨rfl, hn⟩; replace hk := hk.trans hn; replace m := m.kept hn; clear hn c0 c1 cl; have c0 := m.at 0 _ rfl; have c1 := m.at 1 _ rfl; have cl := m.lt)
        | (go_at_call 14; refine (num_any _ _).mono ?_; rintro e w1 ⟨rfl, rfl⟩)
        | fail)
      go_roundw
      case rel => exact ⟨2, by omega, rfl, hk, m⟩
      case measure => simp [intOf]
    · have e1 : mapS 1 0 12 = (7, 0) := by decide
      have e2 : mapS 1 0 20 = (15, 0) := by decide
      have e3 : sideS 1 0 2 = (1, 0) := by decide
      have c0 := m.at 0 _ rfl
      have c1 := m.at 1 _ rfl
      have cl := m.lt
      go_wp2_with fail
      refine (propMap_any _ _ _ _ (ht.kept hk).tab).mono ?_
      rintro e w1 ⟨rfl, hn⟩
      replace hk := hk.trans hn
      replace m := m.kept hn
      clear hn c0 c1 cl
      have c0 := m.at 0 _ rfl
      have c1 := m.at 1 _ rfl
      have cl := m.lt
      go_wp2_with fail
      refine (propMap_any _ _ _ _ (ht.kept hk).tab).mono ?_
      rintro e w1 ⟨rfl, hn⟩
      replace hk := hk.trans hn
      replace m := m.kept hn
      clear hn c0 c1 cl
      have c0 := m.at 0 _ rfl
      have c1 := m.at 1 _ rfl
      have cl := m.lt
      go_wp2_with (first
        | (go_at_call 17; refine (refSide_any _ _ _ _).mono ?_; rintro e w1 ⟨rfl, hn⟩; replace hk := hk.trans hn; replace m := m.kept hn; clear hn c0 c1 cl; have c0 := m.at 0 _ rfl; have c1 := m.at 1 _ rfl; have cl := m.lt)
        | (go_at_call 14; refine (num_any _ _).mono ?_; rintro e w1 ⟨rfl, rfl⟩)
        | fail)
      go_roundw
      case rel => exact ⟨3, by omega, rfl, hk, m⟩
      case measure => simp [intOf]
    · have e1 : mapS 1 0 13 = (9, 0) := by decide
      have e2 : mapS 1 0 21 = (17, 0) := by decide
      have e3 : sideS 1 0 3 = (3, 0) := by decide
      have c0 := m.at 0 _ rfl
      have c1 := m.at 1 _ rfl
      have cl := m.lt
      go_wp2_with fail
      refine (propMap_any _ _ _ _ (ht.kept hk).tab).mono ?_
      rintro e w1 ⟨rfl, hn⟩
      replace hk := hk.trans hn
      replace m := m.kept hn
      clear hn c0 c1 cl
      have c0 := m.at 0 _ rfl
      have c1 := m.at 1 _ rfl
      have cl := m.lt
      go_wp2_with fail
      refine (propMap_any _ _ _ _ (ht.kept hk).tab).mono ?_
      rintro e w1 ⟨rfl, hn⟩
      replace hk := hk.trans hn
      replace m := m.kept hn
      clear hn c0 c1 cl
      have c0 := m.at 0 _ rfl
      have c1 := m.at 1 _ rfl
      have cl := m.lt
      go_wp2_with (first
        | (go_at_call 17; refine (refSide_any _ _ _ _).mono ?_; rintro e w1 ⟨rfl, hn⟩; replace hk := hk.trans hn; replace m := m.kept hn; clear hn c0 c1 cl; have c0 := m.at 0 _ rfl; have c1 := m.at 1 _ rfl; have cl := m.lt)
        | (go_at_call 14; refine (num_any _ _).mono ?_; rintro e w1 ⟨rfl, rfl⟩)
        | fail)
      go_roundw
      case rel => exact ⟨4, by omega, rfl, hk, m⟩
      case measure => simp [intOf]
    · have c0 := m.at 0 _ rfl
      have c1 := m.at 1 _ rfl
      have cl := m.lt
      have f0 := F.out.1
      have f1 := F.out.2.1
      have f2 := F.out.2.2
      go_wp2_with fail
      refine (propMap_any _ _ _ _ (ht.kept hk).tab).mono ?_
      rintro e w1 ⟨rfl, hn⟩
      replace hk := hk.trans hn
      replace m := m.kept hn
      clear hn c0 c1 cl
      have c0 := m.at 0 _ rfl
      have c1 := m.at 1 _ rfl
      have cl := m.lt
      go_wp2_with fail
      refine (propMap_any _ _ _ _ (ht.kept hk).tab).mono ?_
      rintro e w1 ⟨rfl, hn⟩
      replace hk := hk.trans hn
      replace m := m.kept hn
      clear hn c0 c1 cl
      have c0 := m.at 0 _ rfl
      have c1 := m.at 1 _ rfl
      have cl := m.lt
      go_wp2_with (first
        | (go_at_call 18; refine (refVertical_any _ _ _).mono ?_; rintro e w1 ⟨rfl, hn⟩; replace hk := hk.trans hn)
        | (go_at_call 14; refine (num_any _ _).mono ?_; rintro e w1 ⟨rfl, rfl⟩)
        | fail)
      go_ret
      exact ⟨rfl, hk⟩
set_option maxRecDepth 20000 in
set_option maxHeartbeats 4000000 in
theorem propEdges_11 (w : World) (ht : TabN w) :
    Calls Tryd.prog 7 #[modeV 1 1] w fun e w' => e = .returned (.bool true) ∧ Kept w w' := by
  have f0 : mapS 1 1 2 = (1, 0) := by decide
  have f1 : mapS 1 1 3 = (0, 0) := by decide
  have f2 : vertB 1 1 = true := by decide
  have F := Lib.hid (And.intro f0 (And.intro f1 f2))
  clear f0 f1 f2
  have hk : Kept w w := Kept.refl w
  go_enter Tryd.func7, Tryd.ntmps7
  go_wp2_with fail
  refine with_boxes1 ?_
  intro X hX m
  have hsz := hk.size
  replace hk := hk.trans hX
  clear hX
  replace m_l := m.lt
  replace m_0 := m.at 0 _ rfl
  replace m_1 := m.at 1 _ rfl
  refine (awake9_any _ (ht.kept hk)).mono ?_
  rintro e w1 ⟨rfl, hn⟩
  replace hk := hk.trans hn
  replace m := m.kept hn
  clear hn
  replace m_l := m.lt
  replace m_0 := m.at 0 _ rfl
  replace m_1 := m.at 1 _ rfl
  go_wp2
  obtain ⟨g, hg⟩ : ∃ g : Nat, w.heap.size = g := ⟨_, rfl⟩
  rw [hg] at m ⊢
  clear hg
  go_loopw [3] (fun i wx => ∃ k : Nat, k ≤ 4 ∧ i = .int .i64 k ∧ Kept w wx ∧ Own wx g 23 #[.int .i64 1, .int .i64 1]) (fun i _ => 4 - (intOf i).toNat)
  case atStart => exact ⟨0, Nat.zero_le _, rfl, hk, m⟩
  case round =>
    clear hk m
    obtain ⟨k, hk4, rfl, hk, m⟩ := hrel
    rcases (by omega : k = 0 ∨ k = 1 ∨ k = 2 ∨ k = 3 ∨ k = 4) with rfl | rfl | rfl | rfl | rfl
    · have e1 : mapS 1 1 10 = (7, 0) := by decide
      have e2 : mapS 1 1 18 = (15, 0) := by decide
      have e3 : sideS 1 1 0 = (1, 0) := by decide
      have c0 := m.at 0 _ rfl
      have c1 := m.at 1 _ rfl
      have cl := m.lt
      go_wp2_with fail
      refine (propMap_any _ _ _ _ (ht.kept hk).tab).mono ?_
      rintro e w1 ⟨rfl, hn⟩
      replace hk := hk.trans hn
      replace m := m.kept hn
      clear hn c0 c1 cl
      have c0 := m.at 0 _ rfl
      have c1 := m.at 1 _ rfl
      have cl := m.lt
      go_wp2_with fail
      refine (propMap_any _ _ _ _ (ht.kept hk).tab).mono ?_
      rintro e w1 ⟨rfl, hn⟩
      replace hk := hk.trans hn
      replace m := m.kept hn
      clear hn c0 c1 cl
      have c0 := m.at 0 _ rfl
      have c1 := m.at 1 _ rfl
      have cl := m.lt
      go_wp2_with (first
        | (go_at_call 17; refine (refSide_any _ _ _ _).mono ?_; rintro e w1 ⟨rfl, hn⟩; replace hk := hk.trans hn; replace m := m.kept hn; clear hn c0 c1 cl; have c0 := m.at 0 _ rfl; have c1 := m.at 1 _ rfl; have cl := m.lt)
        | (go_at_call 14; refine (num_any _ _).mono ?_; rintro e w1 ⟨rfl, rfl⟩)
        | fail)
      go_roundw
      case rel => exact ⟨1, by omega, rfl, hk, m⟩
      case measure => simp [intOf]
    · have e1 : mapS 1 1 11 = (8, 0) := by decide
      have e2 : mapS 1 1 19 = (16, 0) := by decide
      have e3 : sideS 1 1 1 = (2, 0) := by decide
      have c0 := m.at 0 _ rfl
      have c1 := m.at 1 _ rfl
      have cl := m.lt
      go_wp2_with fail
      refine (propMap_any _ _ _ _ (ht.kept hk).tab).mono ?_
      rintro e w1 ⟨rfl, hn⟩
      replace hk := hk.trans hn
      replace m := m.kept hn
      clear hn c0 c1 cl
      have c0 := m.at 0 _ rfl
      have c1 := m.at 1 _ rfl
      have cl := m.lt
      go_wp2_with fail
      refine (propMap_any _ _ _ _ (ht.kept hk).tab).mono ?_
      rintro e w1 ⟨rfl, hn⟩
      replace hk := hk.trans hn
      replace m := m.kept hn
      clear hn c0 c1 cl
      have c0 := m.at 0 _ rfl
      have c1 := m.at 1 _ rfl
      have cl := m.lt
      go_wp2_with (first
        | (go_at_call 17; refine (refSide_any _ _ _ _).mono ?_; rintro e w1 ⟨rfl, hn⟩; replace hk := hk.trans hn; replace m := m.kept hn; clear hn c0 c1 cl; have c0 := m.at 0 _ rfl; have c1 := m.at 1 _ rfl; have cl := m.lt)
        | (go_at_call 14; refine (num_any _ _).mono ?_; rintro e w1 ⟨rfl, rfl⟩)
        | fail)
      go_roundw
      case rel => exact ⟨2, by omega, rfl, hk, m⟩
      case measure => simp [intOf]
    · have e1 : mapS 1 1 12 = (6, 0) := by decide
      have e2 : mapS 1 1 20 = (14, 0) := by decide
      have e3 : sideS 1 1 2 = (0, 0) := by decide
      have c0 := m.at 0 _ rfl
      have c1 := m.at 1 _ rfl
      have cl := m.lt
      go_wp2_with fail
      refine (propMap_any _ _ _ _ (ht.kept hk).tab).mono ?_
      rintro e w1 ⟨rfl, hn⟩
      replace hk := hk.trans hn
      replace m := m.kept hn
      clear hn c0 c1 cl
      have c0 := m.at 0 _ rfl
      have c1 := m.at 1 _ rfl
      have cl := m.lt
      go_wp2_with fail
      refine (propMap_any _ _ _ _ (ht.kept hk).tab).mono ?_
      rintro e w1 ⟨rfl, hn⟩
      replace hk := hk.trans hn
      replace m := m.kept hn
      clear hn c0 c1 cl
      have c0 := m.at 0 _ rfl
      have c1 := m.at 1 _ rfl
      have cl := m.lt
      go_wp2_with (first
        | (go_at_call 17; refine (refSide_any _ _ _ _).mono ?_; rintro e w1 ⟨rfl, hn⟩; replace hk := hk.trans hn; replace m := m.kept hn; clear hn c0 c1 cl; have c0 := m.at 0 _ rfl; have c1 := m.at 1 _ rfl; have cl := m.lt)
        | (go_at_call 14; refine (num_any _ _).mono ?_; rintro e w1 ⟨rfl, rfl⟩)
        | fail)
      go_roundw
      case rel => exact ⟨3, by omega, rfl, hk, m⟩
      case measure => simp [intOf]
    · have e1 : mapS 1 1 13 = (9, 0) := by decide
      have e2 : mapS 1 1 21 = (17, 0) := by decide
      have e3 : sideS 1 1 3 = (3, 0) := by decide
      have c0 := m.at 0 _ rfl
      have c1 := m.at 1 _ rfl
      have cl := m.lt
      go_wp2_with fail
      refine (propMap_any _ _ _ _ (ht.kept hk).tab).mono ?_
      rintro e w1 ⟨rfl, hn⟩
      replace hk := hk.trans hn
      replace m := m.kept hn
      clear hn c0 c1 cl
      have c0 := m.at 0 _ rfl
      have c1 := m.at 1 _ rfl
      have cl := m.lt
      go_wp2_with fail
      refine (propMap_any _ _ _ _ (ht.kept hk).tab).mono ?_
      rintro e w1 ⟨rfl, hn⟩
      replace hk := hk.trans hn
      replace m := m.kept hn
      clear hn c0 c1 cl
      have c0 := m.at 0 _ rfl
      have c1 := m.at 1 _ rfl
      have cl := m.lt
      go_wp2_with (first
        | (go_at_call 17; refine (refSide_any _ _ _ _).mono ?_; rintro e w1 ⟨rfl, hn⟩; replace hk := hk.trans hn; replace m := m.kept hn; clear hn c0 c1 cl; have c0 := m.at 0 _ rfl; have c1 := m.at 1 _ rfl; have cl := m.lt)
        | (go_at_call 14; refine (num_any _ _).mono ?_; rintro e w1 ⟨rfl, rfl⟩)
        | fail)
      go_roundw
      case rel => exact ⟨4, by omega, rfl, hk, m⟩
      case measure => simp [intOf]
    · have c0 := m.at 0 _ rfl
      have c1 := m.at 1 _ rfl
      have cl := m.lt
      have f0 := F.out.1
      have f1 := F.out.2.1
      have f2 := F.out.2.2
      go_wp2_with fail
      refine (propMap_any _ _ _ _ (ht.kept hk).tab).mono ?_
      rintro e w1 ⟨rfl, hn⟩
      replace hk := hk.trans hn
      replace m := m.kept hn
      clear hn c0 c1 cl
      have c0 := m.at 0 _ rfl
      have c1 := m.at 1 _ rfl
      have cl := m.lt
      go_wp2_with fail
      refine (propMap_any _ _ _ _ (ht.kept hk).tab).mono ?_
      rintro e w1 ⟨rfl, hn⟩
      replace hk := hk.trans hn
      replace m := m.kept hn
      clear hn c0 c1 cl
      have c0 := m.at 0 _ rfl
      have c1 := m.at 1 _ rfl
      have cl := m.lt
      go_wp2_with (first
        | (go_at_call 18; refine (refVertical_any _ _ _).mono ?_; rintro e w1 ⟨rfl, hn⟩; replace hk := hk.trans hn)
        | (go_at_call 14; refine (num_any _ _).mono ?_; rintro e w1 ⟨rfl, rfl⟩)
        | fail)
      go_ret
      exact ⟨rfl, hk⟩
set_option maxRecDepth 20000 in
set_option maxHeartbeats 4000000 in
theorem propEdges_20 (w : World) (ht : TabN w) :
    Calls Tryd.prog 7 #[modeV 2 0] w fun e w' => e = .returned (.bool true) ∧ Kept w w' := by
  have f0 : mapS 2 0 2 = (1, 0) := by decide
  have f1 : mapS 2 0 3 = (0, 0) := by decide
  have f2 : vertB 2 0 = true := by decide
  have F := Lib.hid (And.intro f0 (And.intro f1 f2))
  clear f0 f1 f2
  have hk : Kept w w := Kept.refl w
  go_enter Tryd.func7, Tryd.ntmps7
  go_wp2_with fail
  refine with_boxes1 ?_
  intro X hX m
  have hsz := hk.size
  replace hk := hk.trans hX
  clear hX
  replace m_l := m.lt
  replace m_0 := m.at 0 _ rfl
  replace m_1 := m.at 1 _ rfl
  refine (awake9_any _ (ht.kept hk)).mono ?_
  rintro e w1 ⟨rfl, hn⟩
  replace hk := hk.trans hn
  replace m := m.kept hn
  clear hn
  replace m_l := m.lt
  replace m_0 := m.at 0 _ rfl
  replace m_1 := m.at 1 _ rfl
  go_wp2
  obtain ⟨g, hg⟩ : ∃ g : Nat, w.heap.size = g := ⟨_, rfl⟩
  rw [hg] at m ⊢
  clear hg
  go_loopw [3] (fun i wx => ∃ k : Nat, k ≤ 4 ∧ i = .int .i64 k ∧ Kept w wx ∧ Own wx g 23 #[.int .i64 2, .int .i64 0]) (fun i _ => 4 - (intOf i).toNat)
  case atStart => exact ⟨0, Nat.zero_le _, rfl, hk, m⟩
  case round =>
    clear hk m
    obtain ⟨k, hk4, rfl, hk, m⟩ := hrel
    rcases (by omega : k = 0 ∨ k = 1 ∨ k = 2 ∨ k = 3 ∨ k = 4) with rfl | rfl | rfl | rfl | rfl
    · have e1 : mapS 2 0 10 = (6, 0) := by decide
      have e2 : mapS 2 0 18 = (14, 0) := by decide
      have e3 : sideS 2 0 0 = (0, 0) := by decide
      have c0 := m.at 0 _ rfl
      have c1 := m.at 1 _ rfl
      have cl := m.lt
      go_wp2_with fail
      refine (propMap_any _ _ _ _ (ht.kept hk).tab).mono ?_
      rintro e w1 ⟨rfl, hn⟩
      replace hk := hk.trans hn
      replace m := m.kept hn
      clear hn c0 c1 cl
      have c0 := m.at 0 _ rfl
      have c1 := m.at 1 _ rfl
      have cl := m.lt
      go_wp2_with fail
      refine (propMap_any _ _ _ _ (ht.kept hk).tab).mono ?_
      rintro e w1 ⟨rfl, hn⟩
      replace hk := hk.trans hn
      replace m := m.kept hn
      clear hn c0 c1 cl
      have c0 := m.at 0 _ rfl
      have c1 := m.at 1 _ rfl
      have cl := m.lt
      go_wp2_with (first
        | (go_at_call 17; refine (refSide_any _ _ _ _).mono ?_; rintro e w1 ⟨rfl, hn⟩; replace hk := hk.trans hn; replace m := m.kept hn; clear hn c0 c1 cl; have c0 := m.at 0 _ rfl; have c1 := m.at 1 _ rfl; have cl := m.lt)
        | (go_at_call 14; refine (num_any _ _).mono ?_; rintro e w1 ⟨rfl, rfl⟩)
        | fail)
      go_roundw
      case rel => exact ⟨1, by omega, rfl, hk, m⟩
      case measure => simp [intOf]
    · have e1 : mapS 2 0 11 = (9, 0) := by decide
      have e2 : mapS 2 0 19 = (17, 0) := by decide
      have e3 : sideS 2 0 1 = (3, 0) := by decide
      have c0 := m.at 0 _ rfl
      have c1 := m.at 1 _ rfl
      have cl := m.lt
      go_wp2_with fail
      refine (propMap_any _ _ _ _ (ht.kept hk).tab).mono ?_
      rintro e w1 ⟨rfl, hn⟩
      replace hk := hk.trans hn
      replace m := m.kept hn
      clear hn c0 c1 cl
      have c0 := m.at 0 _ rfl
      have c1 := m.at 1 _ rfl
      have cl := m.lt
      go_wp2_with fail
      refine (propMap_any _ _ _ _ (ht.kept hk).tab).mono ?_
      rintro e w1 ⟨rfl, hn⟩
      replace hk := hk.trans hn
      replace m := m.kept hn
      clear hn c0 c1 cl
      have c0 := m.at 0 _ rfl
      have c1 := m.at 1 _ rfl
      have cl := m.lt
      go_wp2_with (first
        | (go_at_call 17; refine (refSide_any _ _ _ _).mono ?_; rintro e w1 ⟨rfl, hn⟩; replace hk := hk.trans hn; replace m := m.kept hn; clear hn c0 c1 cl; have c0 := m.at 0 _ rfl; have c1 := m.at 1 _ rfl; have cl := m.lt)
        | (go_at_call 14; refine (num_any _ _).mono ?_; rintro e w1 ⟨rfl, rfl⟩)
        | fail)
      go_roundw
      case rel => exact ⟨2, by omega, rfl, hk, m⟩
      case measure => simp [intOf]
    · have e1 : mapS 2 0 12 = (7, 0) := by decide
      have e2 : mapS 2 0 20 = (15, 0) := by decide
      have e3 : sideS 2 0 2 = (1, 0) := by decide
      have c0 := m.at 0 _ rfl
      have c1 := m.at 1 _ rfl
      have cl := m.lt
      go_wp2_with fail
      refine (propMap_any _ _ _ _ (ht.kept hk).tab).mono ?_
      rintro e w1 ⟨rfl, hn⟩
      replace hk := hk.trans hn
      replace m := m.kept hn
      clear hn c0 c1 cl
      have c0 := m.at 0 _ rfl
      have c1 := m.at 1 _ rfl
      have cl := m.lt
      go_wp2_with fail
      refine (propMap_any _ _ _ _ (ht.kept hk).tab).mono ?_
      rintro e w1 ⟨rfl, hn⟩
      replace hk := hk.trans hn
      replace m := m.kept hn
      clear hn c0 c1 cl
      have c0 := m.at 0 _ rfl
      have c1 := m.at 1 _ rfl
      have cl := m.lt
      go_wp2_with (first
        | (go_at_call 17; refine (refSide_any _ _ _ _).mono ?_; rintro e w1 ⟨rfl, hn⟩; replace hk := hk.trans hn; replace m := m.kept hn; clear hn c0 c1 cl; have c0 := m.at 0 _ rfl; have c1 := m.at 1 _ rfl; have cl := m.lt)
        | (go_at_call 14; refine (num_any _ _).mono ?_; rintro e w1 ⟨rfl, rfl⟩)
        | fail)
      go_roundw
      case rel => exact ⟨3, by omega, rfl, hk, m⟩
      case measure => simp [intOf]
    · have e1 : mapS 2 0 13 = (8, 0) := by decide
      have e2 : mapS 2 0 21 = (16, 0) := by decide
      have e3 : sideS 2 0 3 = (2, 0) := by decide
      have c0 := m.at 0 _ rfl
      have c1 := m.at 1 _ rfl
      have cl := m.lt
      go_wp2_with fail
      refine (propMap_any _ _ _ _ (ht.kept hk).tab).mono ?_
      rintro e w1 ⟨rfl, hn⟩
      replace hk := hk.trans hn
      replace m := m.kept hn
      clear hn c0 c1 cl
      have c0 := m.at 0 _ rfl
      have c1 := m.at 1 _ rfl
      have cl := m.lt
      go_wp2_with fail
      refine (propMap_any _ _ _ _ (ht.kept hk).tab).mono ?_
      rintro e w1 ⟨rfl, hn⟩
      replace hk := hk.trans hn
      replace m := m.kept hn
      clear hn c0 c1 cl
      have c0 := m.at 0 _ rfl
      have c1 := m.at 1 _ rfl
      have cl := m.lt
      go_wp2_with (first
        | (go_at_call 17; refine (refSide_any _ _ _ _).mono ?_; rintro e w1 ⟨rfl, hn⟩; replace hk := hk.trans hn; replace m := m.kept hn; clear hn c0 c1 cl; have c0 := m.at 0 _ rfl; have c1 := m.at 1 _ rfl; have cl := m.lt)
        | (go_at_call 14; refine (num_any _ _).mono ?_; rintro e w1 ⟨rfl, rfl⟩)
        | fail)
      go_roundw
      case rel => exact ⟨4, by omega, rfl, hk, m⟩
      case measure => simp [intOf]
    · have c0 := m.at 0 _ rfl
      have c1 := m.at 1 _ rfl
      have cl := m.lt
      have f0 := F.out.1
      have f1 := F.out.2.1
      have f2 := F.out.2.2
      go_wp2_with fail
      refine (propMap_any _ _ _ _ (ht.kept hk).tab).mono ?_
      rintro e w1 ⟨rfl, hn⟩
      replace hk := hk.trans hn
      replace m := m.kept hn
      clear hn c0 c1 cl
      have c0 := m.at 0 _ rfl
      have c1 := m.at 1 _ rfl
      have cl := m.lt
      go_wp2_with fail
      refine (propMap_any _ _ _ _ (ht.kept hk).tab).mono ?_
      rintro e w1 ⟨rfl, hn⟩
      replace hk := hk.trans hn
      replace m := m.kept hn
      clear hn c0 c1 cl
      have c0 := m.at 0 _ rfl
      have c1 := m.at 1 _ rfl
      have cl := m.lt
      go_wp2_with (first
        | (go_at_call 18; refine (refVertical_any _ _ _).mono ?_; rintro e w1 ⟨rfl, hn⟩; replace hk := hk.trans hn)
        | (go_at_call 14; refine (num_any _ _).mono ?_; rintro e w1 ⟨rfl, rfl⟩)
        | fail)
      go_ret
      exact ⟨rfl, hk⟩
set_option maxRecDepth 20000 in
set_option maxHeartbeats 4000000 in
theorem propEdges_21 (w : World) (ht : TabN w) :
    Calls Tryd.prog 7 #[modeV 2 1] w fun e w' => e = .returned (.bool true) ∧ Kept w w' := by
  have f0 : mapS 2 1 2 = (1, 0) := by decide
  have f1 : mapS 2 1 3 = (0, 0) := by decide
  have f2 : vertB 2 1 = true := by decide
  have F := Lib.hid (And.intro f0 (And.intro f1 f2))
  clear f0 f1 f2
  have hk : Kept w w := Kept.refl w
  go_enter Tryd.func7, Tryd.ntmps7
  go_wp2_with fail
  refine with_boxes1 ?_
  intro X hX m
  have hsz := hk.size
  replace hk := hk.trans hX
  clear hX
  replace m_l := m.lt
  replace m_0 := m.at 0 _ rfl
  replace m_1 := m.at 1 _ rfl
  refine (awake9_any _ (ht.kept hk)).mono ?_
  rintro e w1 ⟨rfl, hn⟩
  replace hk := hk.trans hn
  replace m := m.kept hn
  clear hn
  replace m_l := m.lt
  replace m_0 := m.at 0 _ rfl
  replace m_1 := m.at 1 _ rfl
  go_wp2
  obtain ⟨g, hg⟩ : ∃ g : Nat, w.heap.size = g := ⟨_, rfl⟩
  rw [hg] at m ⊢
  clear hg
  go_loopw [3] (fun i wx => ∃ k : Nat, k ≤ 4 ∧ i = .int .i64 k ∧ Kept w wx ∧ Own wx g 23 #[.int .i64 2, .int .i64 1]) (fun i _ => 4 - (intOf i).toNat)
  case atStart => exact ⟨0, Nat.zero_le _, rfl, hk, m⟩
  case round =>
    clear hk m
    obtain ⟨k, hk4, rfl, hk, m⟩ := hrel
    rcases (by omega : k = 0 ∨ k = 1 ∨ k = 2 ∨ k = 3 ∨ k = 4) with rfl | rfl | rfl | rfl | rfl
    · have e1 : mapS 2 1 10 = (7, 0) := by decide
      have e2 : mapS 2 1 18 = (15, 0) := by decide
      have e3 : sideS 2 1 0 = (1, 0) := by decide
      have c0 := m.at 0 _ rfl
      have c1 := m.at 1 _ rfl
      have cl := m.lt
      go_wp2_with fail
      refine (propMap_any _ _ _ _ (ht.kept hk).tab).mono ?_
      rintro e w1 ⟨rfl, hn⟩
      replace hk := hk.trans hn
      replace m := m.kept hn
      clear hn c0 c1 cl
      have c0 := m.at 0 _ rfl
      have c1 := m.at 1 _ rfl
      have cl := m.lt
      go_wp2_with fail
      refine (propMap_any _ _ _ _ (ht.kept hk).tab).mono ?_
      rintro e w1 ⟨rfl, hn⟩
      replace hk := hk.trans hn
      replace m := m.kept hn
      clear hn c0 c1 cl
      have c0 := m.at 0 _ rfl
      have c1 := m.at 1 _ rfl
      have cl := m.lt
      go_wp2_with (first
        | (go_at_call 17; refine (refSide_any _ _ _ _).mono ?_; rintro e w1 ⟨rfl, hn⟩; replace hk := hk.trans hn; replace m := m.kept hn; clear hn c0 c1 cl; have c0 := m.at 0 _ rfl; have c1 := m.at 1 _ rfl; have cl := m.lt)
        | (go_at_call 14; refine (num_any _ _).mono ?_; rintro e w1 ⟨rfl, rfl⟩)
        | fail)
      go_roundw
      case rel => exact ⟨1, by omega, rfl, hk, m⟩
      case measure => simp [intOf]
    · have e1 : mapS 2 1 11 = (9, 0) := by decide
      have e2 : mapS 2 1 19 = (17, 0) := by decide
      have e3 : sideS 2 1 1 = (3, 0) := by decide
      have c0 := m.at 0 _ rfl
      have c1 := m.at 1 _ rfl
      have cl := m.lt
      go_wp2_with fail
      refine (propMap_any _ _ _ _ (ht.kept hk).tab).mono ?_
      rintro e w1 ⟨rfl, hn⟩
      replace hk := hk.trans hn
      replace m := m.kept hn
      clear hn c0 c1 cl
      have c0 := m.at 0 _ rfl
      have c1 := m.at 1 _ rfl
      have cl := m.lt
      go_wp2_with fail
      refine (propMap_any _ _ _ _ (ht.kept hk).tab).mono ?_
      rintro e w1 ⟨rfl, hn⟩
      replace hk := hk.trans hn
      replace m := m.kept hn
      clear hn c0 c1 cl
      have c0 := m.at 0 _ rfl
      have c1 := m.at 1 _ rfl
      have cl := m.lt
      go_wp2_with (first
        | (go_at_call 17; refine (refSide_any _ _ _ _).mono ?_; rintro e w1 ⟨rfl, hn⟩; replace hk := hk.trans hn; replace m := m.kept hn; clear hn c0 c1 cl; have c0 := m.at 0 _ rfl; have c1 := m.at 1 _ rfl; have cl := m.lt)
        | (go_at_call 14; refine (num_any _ _).mono ?_; rintro e w1 ⟨rfl, rfl⟩)
        | fail)
      go_roundw
      case rel => exact ⟨2, by omega, rfl, hk, m⟩
      case measure => simp [intOf]
    · have e1 : mapS 2 1 12 = (6, 0) := by decide
      have e2 : mapS 2 1 20 = (14, 0) := by decide
      have e3 : sideS 2 1 2 = (0, 0) := by decide
      have c0 := m.at 0 _ rfl
      have c1 := m.at 1 _ rfl
      have cl := m.lt
      go_wp2_with fail
      refine (propMap_any _ _ _ _ (ht.kept hk).tab).mono ?_
      rintro e w1 ⟨rfl, hn⟩
      replace hk := hk.trans hn
      replace m := m.kept hn
      clear hn c0 c1 cl
      have c0 := m.at 0 _ rfl
      have c1 := m.at 1 _ rfl
      have cl := m.lt
      go_wp2_with fail
      refine (propMap_any _ _ _ _ (ht.kept hk).tab).mono ?_
      rintro e w1 ⟨rfl, hn⟩
      replace hk := hk.trans hn
      replace m := m.kept hn
      clear hn c0 c1 cl
      have c0 := m.at 0 _ rfl
      have c1 := m.at 1 _ rfl
      have cl := m.lt
      go_wp2_with (first
        | (go_at_call 17; refine (refSide_any _ _ _ _).mono ?_; rintro e w1 ⟨rfl, hn⟩; replace hk := hk.trans hn; replace m := m.kept hn; clear hn c0 c1 cl; have c0 := m.at 0 _ rfl; have c1 := m.at 1 _ rfl; have cl := m.lt)
        | (go_at_call 14; refine (num_any _ _).mono ?_; rintro e w1 ⟨rfl, rfl⟩)
        | fail)
      go_roundw
      case rel => exact ⟨3, by omega, rfl, hk, m⟩
      case measure => simp [intOf]
    · have e1 : mapS 2 1 13 = (8, 0) := by decide
      have e2 : mapS 2 1 21 = (16, 0) := by decide
      have e3 : sideS 2 1 3 = (2, 0) := by decide
      have c0 := m.at 0 _ rfl
      have c1 := m.at 1 _ rfl
      have cl := m.lt
      go_wp2_with fail
      refine (propMap_any _ _ _ _ (ht.kept hk).tab).mono ?_
      rintro e w1 ⟨rfl, hn⟩
      replace hk := hk.trans hn
      replace m := m.kept hn
      clear hn c0 c1 cl
      have c0 := m.at 0 _ rfl
      have c1 := m.at 1 _ rfl
      have cl := m.lt
      go_wp2_with fail
      refine (propMap_any _ _ _ _ (ht.kept hk).tab).mono ?_
      rintro e w1 ⟨rfl, hn⟩
      replace hk := hk.trans hn
      replace m := m.kept hn
      clear hn c0 c1 cl
      have c0 := m.at 0 _ rfl
      have c1 := m.at 1 _ rfl
      have cl := m.lt
      go_wp2_with (first
        | (go_at_call 17; refine (refSide_any _ _ _ _).mono ?_; rintro e w1 ⟨rfl, hn⟩; replace hk := hk.trans hn; replace m := m.kept hn; clear hn c0 c1 cl; have c0 := m.at 0 _ rfl; have c1 := m.at 1 _ rfl; have cl := m.lt)
        | (go_at_call 14; refine (num_any _ _).mono ?_; rintro e w1 ⟨rfl, rfl⟩)
        | fail)
      go_roundw
      case rel => exact ⟨4, by omega, rfl, hk, m⟩
      case measure => simp [intOf]
    · have c0 := m.at 0 _ rfl
      have c1 := m.at 1 _ rfl
      have cl := m.lt
      have f0 := F.out.1
      have f1 := F.out.2.1
      have f2 := F.out.2.2
      go_wp2_with fail
      refine (propMap_any _ _ _ _ (ht.kept hk).tab).mono ?_
      rintro e w1 ⟨rfl, hn⟩
      replace hk := hk.trans hn
      replace m := m.kept hn
      clear hn c0 c1 cl
      have c0 := m.at 0 _ rfl
      have c1 := m.at 1 _ rfl
      have cl := m.lt
      go_wp2_with fail
      refine (propMap_any _ _ _ _ (ht.kept hk).tab).mono ?_
      rintro e w1 ⟨rfl, hn⟩
      replace hk := hk.trans hn
      replace m := m.kept hn
      clear hn c0 c1 cl
      have c0 := m.at 0 _ rfl
      have c1 := m.at 1 _ rfl
      have cl := m.lt
      go_wp2_with (first
        | (go_at_call 18; refine (refVertical_any _ _ _).mono ?_; rintro e w1 ⟨rfl, hn⟩; replace hk := hk.trans hn)
        | (go_at_call 14; refine (num_any _ _).mono ?_; rintro e w1 ⟨rfl, rfl⟩)
        | fail)
      go_ret
      exact ⟨rfl, hk⟩
theorem propEdges_no (wm di : Int) (h : modeMayB wm di = false) (w : World) (ht : TabN w) :
    Calls Tryd.prog 7 #[modeV wm di] w fun e w' => e = .returned (.bool true) ∧ Kept w w' := by
  have e1 : mapS wm di 10 = (0, 900) := if_neg (by simp [h])
  have e2 : mapS wm di 18 = (0, 900) := if_neg (by simp [h])
  have hk : Kept w w := Kept.refl w
  go_enter Tryd.func7, Tryd.ntmps7
  go_wp2_with fail
  refine with_boxes1 ?_
  intro X hX m
  have hsz := hk.size
  replace hk := hk.trans hX
  clear hX
  replace m_l := m.lt
  replace m_0 := m.at 0 _ rfl
  replace m_1 := m.at 1 _ rfl
  refine (awake9_any _ (ht.kept hk)).mono ?_
  rintro e w1 ⟨rfl, hn⟩
  replace hk := hk.trans hn
  replace m := m.kept hn
  clear hn
  replace m_l := m.lt
  replace m_0 := m.at 0 _ rfl
  replace m_1 := m.at 1 _ rfl
  go_wp2
  refine wp_loop_rounds 1 ?_
  rw [rounds_succ]
  go_wp2_with fail
  refine (propMap_any _ _ _ _ (ht.kept hk).tab).mono ?_
  rintro e w1 ⟨rfl, hn⟩
  replace hk := hk.trans hn
  replace m := m.kept hn
  clear hn
  replace m_l := m.lt
  replace m_0 := m.at 0 _ rfl
  replace m_1 := m.at 1 _ rfl
  go_wp2_with fail
  refine (propMap_any _ _ _ _ (ht.kept hk).tab).mono ?_
  rintro e w1 ⟨rfl, hn⟩
  replace hk := hk.trans hn
  replace m := m.kept hn
  clear hn
  replace m_l := m.lt
  replace m_0 := m.at 0 _ rfl
  replace m_1 := m.at 1 _ rfl
  go_wp2_with fail
  refine (num_any _ _).mono ?_
  rintro e w1 ⟨rfl, rfl⟩
  go_wp2_with fail
  refine (refModeMay_any _ _ _).mono ?_
  rintro e w1 ⟨rfl, hn⟩
  replace hk := hk.trans hn
  replace m := m.kept hn
  clear hn
  replace m_l := m.lt
  replace m_0 := m.at 0 _ rfl
  replace m_1 := m.at 1 _ rfl
  go_wp2
  go_ret
  exact ⟨rfl, hk⟩
theorem propEdges_walk (wm di : Int) (w : World) (ht : TabN w) :
    Calls Tryd.prog 7 #[modeV wm di] w fun e w' => e = .returned (.bool true) ∧ Kept w w' := by
  cases h : modeMayB wm di
  · exact propEdges_no wm di h w ht
  · obtain ⟨⟨a1, a2⟩, b1, b2⟩ := modeMayB_true.1 h
    rcases (by omega : wm = 0 ∨ wm = 1 ∨ wm = 2) with rfl | rfl | rfl <;> rcases (by omega : di = 0 ∨ di = 1) with rfl | rfl
    · exact propEdges_00 w ht
    · exact propEdges_01 w ht
    · exact propEdges_10 w ht
    · exact propEdges_11 w ht
    · exact propEdges_20 w ht
    · exact propEdges_21 w ht
end Go.Proofs.YtgofhpalceopiaaDoor
