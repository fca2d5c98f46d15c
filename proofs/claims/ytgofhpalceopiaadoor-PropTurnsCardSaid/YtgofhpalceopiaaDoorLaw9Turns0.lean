/- Layer 9: modes that differ in their direction alone. -/
import Derived.Test.YtgofhpalceopiaaDoorAwake9
import Derived.Test.YtgofhpalceopiaaDoorMask
namespace Go.Proofs.YtgofhpalceopiaaDoor
open Go.RowKit
set_option linter.unusedSimpArgs false
set_option linter.unusedVariables false
set_option maxRecDepth 20000 in
set_option maxHeartbeats 8000000 in
theorem propTurns_0 (c : Int) (hi : wrap64 ((IntKind.u64.wrap c).tmod 3) = 0) (w : World) (ht : TabN w) :
    Calls Tryd.prog 6 #[.int .i64 c] w fun e w' => e = .returned (.bool true) ∧ Kept w w' := by
  have hk : Kept w w := Kept.refl w
  go_enter Tryd.func6, Tryd.ntmps6
  go_wp2_with fail
  refine (awake9_any _ (ht.kept hk)).mono ?_
  rintro e w1 ⟨rfl, hn⟩
  replace hk := hk.trans hn
  clear hn
  go_wp2
  rw [hi]
  go_loopw [4] (fun i wx => ∃ k : Nat, k ≤ 29 ∧ i = .int .i64 k ∧ Kept w wx) (fun i _ => 29 - (intOf i).toNat)
  case atStart => exact ⟨0, Nat.zero_le _, rfl, hk⟩
  case round =>
    clear hk hi
    obtain ⟨k, hk9, rfl, hk⟩ := hrel
    rcases (by omega : k = 0 ∨ k = 1 ∨ k = 2 ∨ k = 3 ∨ k = 4 ∨ k = 5 ∨ k = 6 ∨ k = 7 ∨ k = 8 ∨ k = 9 ∨ k = 10 ∨ k = 11 ∨ k = 12 ∨ k = 13 ∨ k = 14 ∨ k = 15 ∨ k = 16 ∨ k = 17 ∨ k = 18 ∨ k = 19 ∨ k = 20 ∨ k = 21 ∨ k = 22 ∨ k = 23 ∨ k = 24 ∨ k = 25 ∨ k = 26 ∨ k = 27 ∨ k = 28 ∨ k = 29) with rfl | rfl | rfl | rfl | rfl | rfl | rfl | rfl | rfl | rfl | rfl | rfl | rfl | rfl | rfl | rfl | rfl | rfl | rfl | rfl | rfl | rfl | rfl | rfl | rfl | rfl | rfl | rfl | rfl | rfl
    · have e1 : mapS 0 0 0 = (0, 0) := by decide
      have e2 : mapS 0 1 0 = (0, 0) := by decide
      go_wp2_with fail
      refine (propMap_any _ _ _ _ (ht.kept hk).tab).mono ?_
      rintro e w1 ⟨rfl, hn⟩
      replace hk := hk.trans hn
      clear hn
      go_wp2_with fail
      refine (propMap_any _ _ _ _ (ht.kept hk).tab).mono ?_
      rintro e w1 ⟨rfl, hn⟩
      replace hk := hk.trans hn
      clear hn
      go_wp2_with (first
        | (go_at_call 14; refine (num_any _ _).mono ?_; rintro e w1 ⟨rfl, rfl⟩)
        | fail)
      go_roundw
      case rel => exact ⟨1, by omega, rfl, hk⟩
      case measure => simp [intOf]
    · have e1 : mapS 0 0 1 = (1, 0) := by decide
      have e2 : mapS 0 1 1 = (1, 0) := by decide
      go_wp2_with fail
      refine (propMap_any _ _ _ _ (ht.kept hk).tab).mono ?_
      rintro e w1 ⟨rfl, hn⟩
      replace hk := hk.trans hn
      clear hn
      go_wp2_with fail
      refine (propMap_any _ _ _ _ (ht.kept hk).tab).mono ?_
      rintro e w1 ⟨rfl, hn⟩
      replace hk := hk.trans hn
      clear hn
      go_wp2_with (first
        | (go_at_call 14; refine (num_any _ _).mono ?_; rintro e w1 ⟨rfl, rfl⟩)
        | fail)
      go_roundw
      case rel => exact ⟨2, by omega, rfl, hk⟩
      case measure => simp [intOf]
    · have e1 : mapS 0 0 2 = (0, 0) := by decide
      have e2 : mapS 0 1 2 = (0, 0) := by decide
      go_wp2_with fail
      refine (propMap_any _ _ _ _ (ht.kept hk).tab).mono ?_
      rintro e w1 ⟨rfl, hn⟩
      replace hk := hk.trans hn
      clear hn
      go_wp2_with fail
      refine (propMap_any _ _ _ _ (ht.kept hk).tab).mono ?_
      rintro e w1 ⟨rfl, hn⟩
      replace hk := hk.trans hn
      clear hn
      go_wp2_with (first
        | (go_at_call 14; refine (num_any _ _).mono ?_; rintro e w1 ⟨rfl, rfl⟩)
        | fail)
      go_roundw
      case rel => exact ⟨3, by omega, rfl, hk⟩
      case measure => simp [intOf]
    · have e1 : mapS 0 0 3 = (1, 0) := by decide
      have e2 : mapS 0 1 3 = (1, 0) := by decide
      go_wp2_with fail
      refine (propMap_any _ _ _ _ (ht.kept hk).tab).mono ?_
      rintro e w1 ⟨rfl, hn⟩
      replace hk := hk.trans hn
      clear hn
      go_wp2_with fail
      refine (propMap_any _ _ _ _ (ht.kept hk).tab).mono ?_
      rintro e w1 ⟨rfl, hn⟩
      replace hk := hk.trans hn
      clear hn
      go_wp2_with (first
        | (go_at_call 14; refine (num_any _ _).mono ?_; rintro e w1 ⟨rfl, rfl⟩)
        | fail)
      go_roundw
      case rel => exact ⟨4, by omega, rfl, hk⟩
      case measure => simp [intOf]
    · have e1 : mapS 0 0 4 = (4, 0) := by decide
      have e2 : mapS 0 1 4 = (4, 0) := by decide
      go_wp2_with fail
      refine (propMap_any _ _ _ _ (ht.kept hk).tab).mono ?_
      rintro e w1 ⟨rfl, hn⟩
      replace hk := hk.trans hn
      clear hn
      go_wp2_with fail
      refine (propMap_any _ _ _ _ (ht.kept hk).tab).mono ?_
      rintro e w1 ⟨rfl, hn⟩
      replace hk := hk.trans hn
      clear hn
      go_wp2_with (first
        | (go_at_call 14; refine (num_any _ _).mono ?_; rintro e w1 ⟨rfl, rfl⟩)
        | fail)
      go_roundw
      case rel => exact ⟨5, by omega, rfl, hk⟩
      case measure => simp [intOf]
    · have e1 : mapS 0 0 5 = (5, 0) := by decide
      have e2 : mapS 0 1 5 = (5, 0) := by decide
      go_wp2_with fail
      refine (propMap_any _ _ _ _ (ht.kept hk).tab).mono ?_
      rintro e w1 ⟨rfl, hn⟩
      replace hk := hk.trans hn
      clear hn
      go_wp2_with fail
      refine (propMap_any _ _ _ _ (ht.kept hk).tab).mono ?_
      rintro e w1 ⟨rfl, hn⟩
      replace hk := hk.trans hn
      clear hn
      go_wp2_with (first
        | (go_at_call 14; refine (num_any _ _).mono ?_; rintro e w1 ⟨rfl, rfl⟩)
        | fail)
      go_roundw
      case rel => exact ⟨6, by omega, rfl, hk⟩
      case measure => simp [intOf]
    · have e1 : mapS 0 0 6 = (6, 0) := by decide
      have e2 : mapS 0 1 6 = (6, 0) := by decide
      go_wp2_with fail
      refine (propMap_any _ _ _ _ (ht.kept hk).tab).mono ?_
      rintro e w1 ⟨rfl, hn⟩
      replace hk := hk.trans hn
      clear hn
      go_wp2_with fail
      refine (propMap_any _ _ _ _ (ht.kept hk).tab).mono ?_
      rintro e w1 ⟨rfl, hn⟩
      replace hk := hk.trans hn
      clear hn
      go_wp2_with (first
        | (go_at_call 14; refine (num_any _ _).mono ?_; rintro e w1 ⟨rfl, rfl⟩)
        | fail)
      go_roundw
      case rel => exact ⟨7, by omega, rfl, hk⟩
      case measure => simp [intOf]
    · have e1 : mapS 0 0 7 = (7, 0) := by decide
      have e2 : mapS 0 1 7 = (7, 0) := by decide
      go_wp2_with fail
      refine (propMap_any _ _ _ _ (ht.kept hk).tab).mono ?_
      rintro e w1 ⟨rfl, hn⟩
      replace hk := hk.trans hn
      clear hn
      go_wp2_with fail
      refine (propMap_any _ _ _ _ (ht.kept hk).tab).mono ?_
      rintro e w1 ⟨rfl, hn⟩
      replace hk := hk.trans hn
      clear hn
      go_wp2_with (first
        | (go_at_call 14; refine (num_any _ _).mono ?_; rintro e w1 ⟨rfl, rfl⟩)
        | fail)
      go_roundw
      case rel => exact ⟨8, by omega, rfl, hk⟩
      case measure => simp [intOf]
    · have e1 : mapS 0 0 8 = (8, 0) := by decide
      have e2 : mapS 0 1 8 = (8, 0) := by decide
      go_wp2_with fail
      refine (propMap_any _ _ _ _ (ht.kept hk).tab).mono ?_
      rintro e w1 ⟨rfl, hn⟩
      replace hk := hk.trans hn
      clear hn
      go_wp2_with fail
      refine (propMap_any _ _ _ _ (ht.kept hk).tab).mono ?_
      rintro e w1 ⟨rfl, hn⟩
      replace hk := hk.trans hn
      clear hn
      go_wp2_with (first
        | (go_at_call 14; refine (num_any _ _).mono ?_; rintro e w1 ⟨rfl, rfl⟩)
        | fail)
      go_roundw
      case rel => exact ⟨9, by omega, rfl, hk⟩
      case measure => simp [intOf]
    · have e1 : mapS 0 0 9 = (9, 0) := by decide
      have e2 : mapS 0 1 9 = (9, 0) := by decide
      go_wp2_with fail
      refine (propMap_any _ _ _ _ (ht.kept hk).tab).mono ?_
      rintro e w1 ⟨rfl, hn⟩
      replace hk := hk.trans hn
      clear hn
      go_wp2_with fail
      refine (propMap_any _ _ _ _ (ht.kept hk).tab).mono ?_
      rintro e w1 ⟨rfl, hn⟩
      replace hk := hk.trans hn
      clear hn
      go_wp2_with (first
        | (go_at_call 14; refine (num_any _ _).mono ?_; rintro e w1 ⟨rfl, rfl⟩)
        | fail)
      go_roundw
      case rel => exact ⟨10, by omega, rfl, hk⟩
      case measure => simp [intOf]
    · have e1 : mapS 0 0 10 = (8, 0) := by decide
      have e2 : mapS 0 1 10 = (8, 0) := by decide
      go_wp2_with fail
      refine (propMap_any _ _ _ _ (ht.kept hk).tab).mono ?_
      rintro e w1 ⟨rfl, hn⟩
      replace hk := hk.trans hn
      clear hn
      go_wp2_with fail
      refine (propMap_any _ _ _ _ (ht.kept hk).tab).mono ?_
      rintro e w1 ⟨rfl, hn⟩
      replace hk := hk.trans hn
      clear hn
      go_wp2_with (first
        | (go_at_call 14; refine (num_any _ _).mono ?_; rintro e w1 ⟨rfl, rfl⟩)
        | fail)
      go_roundw
      case rel => exact ⟨11, by omega, rfl, hk⟩
      case measure => simp [intOf]
    · have e1 : mapS 0 0 11 = (7, 0) := by decide
      have e2 : mapS 0 1 11 = (6, 0) := by decide
      go_wp2_with fail
      refine (propMap_any _ _ _ _ (ht.kept hk).tab).mono ?_
      rintro e w1 ⟨rfl, hn⟩
      replace hk := hk.trans hn
      clear hn
      go_wp2_with fail
      refine (propMap_any _ _ _ _ (ht.kept hk).tab).mono ?_
      rintro e w1 ⟨rfl, hn⟩
      replace hk := hk.trans hn
      clear hn
      go_wp2_with (first
        | (go_at_call 14; refine (num_any _ _).mono ?_; rintro e w1 ⟨rfl, rfl⟩)
        | fail)
      go_roundw
      case rel => exact ⟨12, by omega, rfl, hk⟩
      case measure => simp [intOf]
    · have e1 : mapS 0 0 12 = (9, 0) := by decide
      have e2 : mapS 0 1 12 = (9, 0) := by decide
      go_wp2_with fail
      refine (propMap_any _ _ _ _ (ht.kept hk).tab).mono ?_
      rintro e w1 ⟨rfl, hn⟩
      replace hk := hk.trans hn
      clear hn
      go_wp2_with fail
      refine (propMap_any _ _ _ _ (ht.kept hk).tab).mono ?_
      rintro e w1 ⟨rfl, hn⟩
      replace hk := hk.trans hn
      clear hn
      go_wp2_with (first
        | (go_at_call 14; refine (num_any _ _).mono ?_; rintro e w1 ⟨rfl, rfl⟩)
        | fail)
      go_roundw
      case rel => exact ⟨13, by omega, rfl, hk⟩
      case measure => simp [intOf]
    · have e1 : mapS 0 0 13 = (6, 0) := by decide
      have e2 : mapS 0 1 13 = (7, 0) := by decide
      go_wp2_with fail
      refine (propMap_any _ _ _ _ (ht.kept hk).tab).mono ?_
      rintro e w1 ⟨rfl, hn⟩
      replace hk := hk.trans hn
      clear hn
      go_wp2_with fail
      refine (propMap_any _ _ _ _ (ht.kept hk).tab).mono ?_
      rintro e w1 ⟨rfl, hn⟩
      replace hk := hk.trans hn
      clear hn
      go_wp2_with (first
        | (go_at_call 14; refine (num_any _ _).mono ?_; rintro e w1 ⟨rfl, rfl⟩)
        | fail)
      go_roundw
      case rel => exact ⟨14, by omega, rfl, hk⟩
      case measure => simp [intOf]
    · have e1 : mapS 0 0 14 = (14, 0) := by decide
      have e2 : mapS 0 1 14 = (14, 0) := by decide
      go_wp2_with fail
      refine (propMap_any _ _ _ _ (ht.kept hk).tab).mono ?_
      rintro e w1 ⟨rfl, hn⟩
      replace hk := hk.trans hn
      clear hn
      go_wp2_with fail
      refine (propMap_any _ _ _ _ (ht.kept hk).tab).mono ?_
      rintro e w1 ⟨rfl, hn⟩
      replace hk := hk.trans hn
      clear hn
      go_wp2_with (first
        | (go_at_call 14; refine (num_any _ _).mono ?_; rintro e w1 ⟨rfl, rfl⟩)
        | fail)
      go_roundw
      case rel => exact ⟨15, by omega, rfl, hk⟩
      case measure => simp [intOf]
    · have e1 : mapS 0 0 15 = (15, 0) := by decide
      have e2 : mapS 0 1 15 = (15, 0) := by decide
      go_wp2_with fail
      refine (propMap_any _ _ _ _ (ht.kept hk).tab).mono ?_
      rintro e w1 ⟨rfl, hn⟩
      replace hk := hk.trans hn
      clear hn
      go_wp2_with fail
      refine (propMap_any _ _ _ _ (ht.kept hk).tab).mono ?_
      rintro e w1 ⟨rfl, hn⟩
      replace hk := hk.trans hn
      clear hn
      go_wp2_with (first
        | (go_at_call 14; refine (num_any _ _).mono ?_; rintro e w1 ⟨rfl, rfl⟩)
        | fail)
      go_roundw
      case rel => exact ⟨16, by omega, rfl, hk⟩
      case measure => simp [intOf]
    · have e1 : mapS 0 0 16 = (16, 0) := by decide
      have e2 : mapS 0 1 16 = (16, 0) := by decide
      go_wp2_with fail
      refine (propMap_any _ _ _ _ (ht.kept hk).tab).mono ?_
      rintro e w1 ⟨rfl, hn⟩
      replace hk := hk.trans hn
      clear hn
      go_wp2_with fail
      refine (propMap_any _ _ _ _ (ht.kept hk).tab).mono ?_
      rintro e w1 ⟨rfl, hn⟩
      replace hk := hk.trans hn
      clear hn
      go_wp2_with (first
        | (go_at_call 14; refine (num_any _ _).mono ?_; rintro e w1 ⟨rfl, rfl⟩)
        | fail)
      go_roundw
      case rel => exact ⟨17, by omega, rfl, hk⟩
      case measure => simp [intOf]
    · have e1 : mapS 0 0 17 = (17, 0) := by decide
      have e2 : mapS 0 1 17 = (17, 0) := by decide
      go_wp2_with fail
      refine (propMap_any _ _ _ _ (ht.kept hk).tab).mono ?_
      rintro e w1 ⟨rfl, hn⟩
      replace hk := hk.trans hn
      clear hn
      go_wp2_with fail
      refine (propMap_any _ _ _ _ (ht.kept hk).tab).mono ?_
      rintro e w1 ⟨rfl, hn⟩
      replace hk := hk.trans hn
      clear hn
      go_wp2_with (first
        | (go_at_call 14; refine (num_any _ _).mono ?_; rintro e w1 ⟨rfl, rfl⟩)
        | fail)
      go_roundw
      case rel => exact ⟨18, by omega, rfl, hk⟩
      case measure => simp [intOf]
    · have e1 : mapS 0 0 18 = (16, 0) := by decide
      have e2 : mapS 0 1 18 = (16, 0) := by decide
      go_wp2_with fail
      refine (propMap_any _ _ _ _ (ht.kept hk).tab).mono ?_
      rintro e w1 ⟨rfl, hn⟩
      replace hk := hk.trans hn
      clear hn
      go_wp2_with fail
      refine (propMap_any _ _ _ _ (ht.kept hk).tab).mono ?_
      rintro e w1 ⟨rfl, hn⟩
      replace hk := hk.trans hn
      clear hn
      go_wp2_with (first
        | (go_at_call 14; refine (num_any _ _).mono ?_; rintro e w1 ⟨rfl, rfl⟩)
        | fail)
      go_roundw
      case rel => exact ⟨19, by omega, rfl, hk⟩
      case measure => simp [intOf]
    · have e1 : mapS 0 0 19 = (15, 0) := by decide
      have e2 : mapS 0 1 19 = (14, 0) := by decide
      go_wp2_with fail
      refine (propMap_any _ _ _ _ (ht.kept hk).tab).mono ?_
      rintro e w1 ⟨rfl, hn⟩
      replace hk := hk.trans hn
      clear hn
      go_wp2_with fail
      refine (propMap_any _ _ _ _ (ht.kept hk).tab).mono ?_
      rintro e w1 ⟨rfl, hn⟩
      replace hk := hk.trans hn
      clear hn
      go_wp2_with (first
        | (go_at_call 14; refine (num_any _ _).mono ?_; rintro e w1 ⟨rfl, rfl⟩)
        | fail)
      go_roundw
      case rel => exact ⟨20, by omega, rfl, hk⟩
      case measure => simp [intOf]
    · have e1 : mapS 0 0 20 = (17, 0) := by decide
      have e2 : mapS 0 1 20 = (17, 0) := by decide
      go_wp2_with fail
      refine (propMap_any _ _ _ _ (ht.kept hk).tab).mono ?_
      rintro e w1 ⟨rfl, hn⟩
      replace hk := hk.trans hn
      clear hn
      go_wp2_with fail
      refine (propMap_any _ _ _ _ (ht.kept hk).tab).mono ?_
      rintro e w1 ⟨rfl, hn⟩
      replace hk := hk.trans hn
      clear hn
      go_wp2_with (first
        | (go_at_call 14; refine (num_any _ _).mono ?_; rintro e w1 ⟨rfl, rfl⟩)
        | fail)
      go_roundw
      case rel => exact ⟨21, by omega, rfl, hk⟩
      case measure => simp [intOf]
    · have e1 : mapS 0 0 21 = (14, 0) := by decide
      have e2 : mapS 0 1 21 = (15, 0) := by decide
      go_wp2_with fail
      refine (propMap_any _ _ _ _ (ht.kept hk).tab).mono ?_
      rintro e w1 ⟨rfl, hn⟩
      replace hk := hk.trans hn
      clear hn
      go_wp2_with fail
      refine (propMap_any _ _ _ _ (ht.kept hk).tab).mono ?_
      rintro e w1 ⟨rfl, hn⟩
      replace hk := hk.trans hn
      clear hn
      go_wp2_with (first
        | (go_at_call 14; refine (num_any _ _).mono ?_; rintro e w1 ⟨rfl, rfl⟩)
        | fail)
      go_roundw
      case rel => exact ⟨22, by omega, rfl, hk⟩
      case measure => simp [intOf]
    · have e1 : mapS 0 0 22 = (22, 0) := by decide
      have e2 : mapS 0 1 22 = (22, 0) := by decide
      go_wp2_with fail
      refine (propMap_any _ _ _ _ (ht.kept hk).tab).mono ?_
      rintro e w1 ⟨rfl, hn⟩
      replace hk := hk.trans hn
      clear hn
      go_wp2_with fail
      refine (propMap_any _ _ _ _ (ht.kept hk).tab).mono ?_
      rintro e w1 ⟨rfl, hn⟩
      replace hk := hk.trans hn
      clear hn
      go_wp2_with (first
        | (go_at_call 14; refine (num_any _ _).mono ?_; rintro e w1 ⟨rfl, rfl⟩)
        | fail)
      go_roundw
      case rel => exact ⟨23, by omega, rfl, hk⟩
      case measure => simp [intOf]
    · have e1 : mapS 0 0 23 = (23, 0) := by decide
      have e2 : mapS 0 1 23 = (23, 0) := by decide
      go_wp2_with fail
      refine (propMap_any _ _ _ _ (ht.kept hk).tab).mono ?_
      rintro e w1 ⟨rfl, hn⟩
      replace hk := hk.trans hn
      clear hn
      go_wp2_with fail
      refine (propMap_any _ _ _ _ (ht.kept hk).tab).mono ?_
      rintro e w1 ⟨rfl, hn⟩
      replace hk := hk.trans hn
      clear hn
      go_wp2_with (first
        | (go_at_call 14; refine (num_any _ _).mono ?_; rintro e w1 ⟨rfl, rfl⟩)
        | fail)
      go_roundw
      case rel => exact ⟨24, by omega, rfl, hk⟩
      case measure => simp [intOf]
    · have e1 : mapS 0 0 24 = (24, 0) := by decide
      have e2 : mapS 0 1 24 = (24, 0) := by decide
      go_wp2_with fail
      refine (propMap_any _ _ _ _ (ht.kept hk).tab).mono ?_
      rintro e w1 ⟨rfl, hn⟩
      replace hk := hk.trans hn
      clear hn
      go_wp2_with fail
      refine (propMap_any _ _ _ _ (ht.kept hk).tab).mono ?_
      rintro e w1 ⟨rfl, hn⟩
      replace hk := hk.trans hn
      clear hn
      go_wp2_with (first
        | (go_at_call 14; refine (num_any _ _).mono ?_; rintro e w1 ⟨rfl, rfl⟩)
        | fail)
      go_roundw
      case rel => exact ⟨25, by omega, rfl, hk⟩
      case measure => simp [intOf]
    · have e1 : mapS 0 0 25 = (25, 0) := by decide
      have e2 : mapS 0 1 25 = (25, 0) := by decide
      go_wp2_with fail
      refine (propMap_any _ _ _ _ (ht.kept hk).tab).mono ?_
      rintro e w1 ⟨rfl, hn⟩
      replace hk := hk.trans hn
      clear hn
      go_wp2_with fail
      refine (propMap_any _ _ _ _ (ht.kept hk).tab).mono ?_
      rintro e w1 ⟨rfl, hn⟩
      replace hk := hk.trans hn
      clear hn
      go_wp2_with (first
        | (go_at_call 14; refine (num_any _ _).mono ?_; rintro e w1 ⟨rfl, rfl⟩)
        | fail)
      go_roundw
      case rel => exact ⟨26, by omega, rfl, hk⟩
      case measure => simp [intOf]
    · have e1 : mapS 0 0 26 = (26, 0) := by decide
      have e2 : mapS 0 1 26 = (26, 0) := by decide
      go_wp2_with fail
      refine (propMap_any _ _ _ _ (ht.kept hk).tab).mono ?_
      rintro e w1 ⟨rfl, hn⟩
      replace hk := hk.trans hn
      clear hn
      go_wp2_with fail
      refine (propMap_any _ _ _ _ (ht.kept hk).tab).mono ?_
      rintro e w1 ⟨rfl, hn⟩
      replace hk := hk.trans hn
      clear hn
      go_wp2_with (first
        | (go_at_call 14; refine (num_any _ _).mono ?_; rintro e w1 ⟨rfl, rfl⟩)
        | fail)
      go_roundw
      case rel => exact ⟨27, by omega, rfl, hk⟩
      case measure => simp [intOf]
    · have e1 : mapS 0 0 27 = (27, 0) := by decide
      have e2 : mapS 0 1 27 = (27, 0) := by decide
      go_wp2_with fail
      refine (propMap_any _ _ _ _ (ht.kept hk).tab).mono ?_
      rintro e w1 ⟨rfl, hn⟩
      replace hk := hk.trans hn
      clear hn
      go_wp2_with fail
      refine (propMap_any _ _ _ _ (ht.kept hk).tab).mono ?_
      rintro e w1 ⟨rfl, hn⟩
      replace hk := hk.trans hn
      clear hn
      go_wp2_with (first
        | (go_at_call 14; refine (num_any _ _).mono ?_; rintro e w1 ⟨rfl, rfl⟩)
        | fail)
      go_roundw
      case rel => exact ⟨28, by omega, rfl, hk⟩
      case measure => simp [intOf]
    · have e1 : mapS 0 0 28 = (28, 0) := by decide
      have e2 : mapS 0 1 28 = (28, 0) := by decide
      go_wp2_with fail
      refine (propMap_any _ _ _ _ (ht.kept hk).tab).mono ?_
      rintro e w1 ⟨rfl, hn⟩
      replace hk := hk.trans hn
      clear hn
      go_wp2_with fail
      refine (propMap_any _ _ _ _ (ht.kept hk).tab).mono ?_
      rintro e w1 ⟨rfl, hn⟩
      replace hk := hk.trans hn
      clear hn
      go_wp2_with (first
        | (go_at_call 14; refine (num_any _ _).mono ?_; rintro e w1 ⟨rfl, rfl⟩)
        | fail)
      go_roundw
      case rel => exact ⟨29, by omega, rfl, hk⟩
      case measure => simp [intOf]
    · go_wp2
      go_ret
      exact ⟨rfl, hk⟩
end Go.Proofs.YtgofhpalceopiaaDoor
