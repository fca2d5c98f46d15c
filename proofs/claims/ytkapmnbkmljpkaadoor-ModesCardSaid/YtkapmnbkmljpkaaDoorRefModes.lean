/- Layer 2: the document's modes, rows of modes compared, spoiled. -/
import Derived.Test.YtkapmnbkmljpkaaDoorRefMode
import Derived.Test.YtkapmnbkmljpkaaDoorModes6
import Derived.Deep.QuietTactic
import Derived.BigQuiet
import Derived.RegionTactic
namespace Go.Proofs.YtkapmnbkmljpkaaDoor
open Go.RowKit
set_option linter.unusedSimpArgs false
set_option maxHeartbeats 1000000 in
theorem refModes_any (w : World) :
    Calls Tryd.prog 20 #[] w fun e w' => ∃ v, e = .returned v ∧ w'.ownsRow w.heap.size 23 2 v 6 allModes ∧ Kept w w' := by
  obtain ⟨i0, hi, hz0, hz1, hz2⟩ := info_parts modeInfo
  go_enter Tryd.func20, Tryd.ntmps20
  go_wp2
  go_loopw [1, 2] (fun v i wx => ∃ k : Nat, k ≤ 6 ∧ i = .int .i64 k ∧ wx.ownsRow w.heap.size 23 2 v k (allModes.take (2 * k)) ∧ Kept w wx) (fun _ i _ => 6 - (intOf i).toNat)
  case atStart => exact ⟨0, Nat.zero_le _, rfl, World.ownsRow_nil _ _ _ _, Kept.refl _⟩
  case round =>
    obtain ⟨k, hk4, rfl, hown, hk⟩ := hrel
    have hsz := hk.size
    rcases (by omega : k = 0 ∨ k = 1 ∨ k = 2 ∨ k = 3 ∨ k = 4 ∨ k = 5 ∨ k = 6) with rfl | rfl | rfl | rfl | rfl | rfl | rfl
    case inr.inr.inr.inr.inr.inr =>
      go_wp2
      go_ret
      exact ⟨_, rfl, hown, hk⟩
    case inl =>
      go_wp2_with (at_builtin; refine wpList_append_own _ rfl _ _ 29 rfl w.heap.size 23 i0 (.agg #[.int .i64 0, .int .i64 0]) 2 16 Tryd.underlying29 hi hz0 hz1 hz2 rfl (by decide) _ _ _ rfl (hown.alloc _) ⟨wr.heap.size, 0, none⟩ 1 1 [.int .i64 0, .int .i64 0] rfl rfl (lit_cells wr #[.int .i64 0, .int .i64 0] 23) (by simp [Value.oneCell']) (by simp [maxLen]) (by decide) (by simp; omega) ?_; intro v2 w2 hown2 hg2 _)
      have hk2 : Kept w w2 := (hk.alloc _).grown hg2 (row_ge hown)
      exact ⟨⟨0 + 1, by omega, rfl, hown2, hk2⟩, by simp [intOf]⟩
    case inr.inl =>
      go_wp2_with (at_builtin; refine wpList_append_own _ rfl _ _ 29 rfl w.heap.size 23 i0 (.agg #[.int .i64 0, .int .i64 0]) 2 16 Tryd.underlying29 hi hz0 hz1 hz2 rfl (by decide) _ _ _ rfl (hown.alloc _) ⟨wr.heap.size, 0, none⟩ 1 1 [.int .i64 0, .int .i64 1] rfl rfl (lit_cells wr #[.int .i64 0, .int .i64 1] 23) (by simp [Value.oneCell']) (by simp [maxLen]) (by decide) (by simp; omega) ?_; intro v2 w2 hown2 hg2 _)
      have hk2 : Kept w w2 := (hk.alloc _).grown hg2 (row_ge hown)
      exact ⟨⟨1 + 1, by omega, rfl, hown2, hk2⟩, by simp [intOf]⟩
    case inr.inr.inl =>
      go_wp2_with (at_builtin; refine wpList_append_own _ rfl _ _ 29 rfl w.heap.size 23 i0 (.agg #[.int .i64 0, .int .i64 0]) 2 16 Tryd.underlying29 hi hz0 hz1 hz2 rfl (by decide) _ _ _ rfl (hown.alloc _) ⟨wr.heap.size, 0, none⟩ 1 1 [.int .i64 1, .int .i64 0] rfl rfl (lit_cells wr #[.int .i64 1, .int .i64 0] 23) (by simp [Value.oneCell']) (by simp [maxLen]) (by decide) (by simp; omega) ?_; intro v2 w2 hown2 hg2 _)
      have hk2 : Kept w w2 := (hk.alloc _).grown hg2 (row_ge hown)
      exact ⟨⟨2 + 1, by omega, rfl, hown2, hk2⟩, by simp [intOf]⟩
    case inr.inr.inr.inl =>
      go_wp2_with (at_builtin; refine wpList_append_own _ rfl _ _ 29 rfl w.heap.size 23 i0 (.agg #[.int .i64 0, .int .i64 0]) 2 16 Tryd.underlying29 hi hz0 hz1 hz2 rfl (by decide) _ _ _ rfl (hown.alloc _) ⟨wr.heap.size, 0, none⟩ 1 1 [.int .i64 1, .int .i64 1] rfl rfl (lit_cells wr #[.int .i64 1, .int .i64 1] 23) (by simp [Value.oneCell']) (by simp [maxLen]) (by decide) (by simp; omega) ?_; intro v2 w2 hown2 hg2 _)
      have hk2 : Kept w w2 := (hk.alloc _).grown hg2 (row_ge hown)
      exact ⟨⟨3 + 1, by omega, rfl, hown2, hk2⟩, by simp [intOf]⟩
    case inr.inr.inr.inr.inl =>
      go_wp2_with (at_builtin; refine wpList_append_own _ rfl _ _ 29 rfl w.heap.size 23 i0 (.agg #[.int .i64 0, .int .i64 0]) 2 16 Tryd.underlying29 hi hz0 hz1 hz2 rfl (by decide) _ _ _ rfl (hown.alloc _) ⟨wr.heap.size, 0, none⟩ 1 1 [.int .i64 2, .int .i64 0] rfl rfl (lit_cells wr #[.int .i64 2, .int .i64 0] 23) (by simp [Value.oneCell']) (by simp [maxLen]) (by decide) (by simp; omega) ?_; intro v2 w2 hown2 hg2 _)
      have hk2 : Kept w w2 := (hk.alloc _).grown hg2 (row_ge hown)
      exact ⟨⟨4 + 1, by omega, rfl, hown2, hk2⟩, by simp [intOf]⟩
    case inr.inr.inr.inr.inr.inl =>
      go_wp2_with (at_builtin; refine wpList_append_own _ rfl _ _ 29 rfl w.heap.size 23 i0 (.agg #[.int .i64 0, .int .i64 0]) 2 16 Tryd.underlying29 hi hz0 hz1 hz2 rfl (by decide) _ _ _ rfl (hown.alloc _) ⟨wr.heap.size, 0, none⟩ 1 1 [.int .i64 2, .int .i64 1] rfl rfl (lit_cells wr #[.int .i64 2, .int .i64 1] 23) (by simp [Value.oneCell']) (by simp [maxLen]) (by decide) (by simp; omega) ?_; intro v2 w2 hown2 hg2 _)
      have hk2 : Kept w w2 := (hk.alloc _).grown hg2 (row_ge hown)
      exact ⟨⟨5 + 1, by omega, rfl, hown2, hk2⟩, by simp [intOf]⟩
theorem refModes_lies (w : World) :
    Calls Tryd.prog 20 #[] w fun e w' => ∃ g cap, e = .returned (.slice (some ⟨g, 0, none⟩) 6 cap) ∧ Lies w w' g allModes ∧ Kept w w' :=
  (refModes_any w).mono fun e w' ⟨v, he, ho, hk⟩ => by
    obtain ⟨g, cap, hv, hl⟩ := lies_of ho (by decide)
    exact ⟨g, cap, by rw [he, hv], hl, hk⟩
set_option maxHeartbeats 1000000 in
theorem sameModes_yes (g1 g2 cap1 cap2 : Nat) (w : World) (h1 : Modes6 w g1) (h2 : Modes6 w g2) :
    Calls Tryd.prog 19 #[.slice (some ⟨g1, 0, none⟩) 6 cap1, .slice (some ⟨g2, 0, none⟩) 6 cap2] w fun e w' => e = .returned (.bool true) ∧ Kept w w' := by
  go_enter Tryd.func19, Tryd.ntmps19
  go_wp2
  go_loopw [5] (fun n wx => ∃ k : Nat, k ≤ 6 ∧ n = .int .i64 k ∧ Kept w wx) (fun n _ => 6 - (intOf n).toNat)
  case atStart => exact ⟨0, Nat.zero_le _, rfl, Kept.refl _⟩
  case round =>
    obtain ⟨k, hk4, rfl, hk⟩ := hrel
    obtain ⟨a, a0, a1, a2, a3, a4, a5, a6, a7, a8, a9, a10, a11⟩ := h1.kept hk
    obtain ⟨b, b0, b1, b2, b3, b4, b5, b6, b7, b8, b9, b10, b11⟩ := h2.kept hk
    clear h1 h2
    rcases (by omega : k = 0 ∨ k = 1 ∨ k = 2 ∨ k = 3 ∨ k = 4 ∨ k = 5 ∨ k = 6) with rfl | rfl | rfl | rfl | rfl | rfl | rfl
    case inr.inr.inr.inr.inr.inr =>
      go_wp2
      go_ret
      exact ⟨rfl, hk⟩
    all_goals
      go_wp2
      go_quiet (fail)
      go_wp2
      go_roundw
      case rel => first | exact ⟨1, by omega, rfl, (by first | ((repeat (first | with_reducible exact hk | with_reducible refine Kept.alloc ?_ _ | with_reducible refine Kept.drew ?_ | with_reducible refine Kept.drewN ?_ _ | with_reducible refine Kept.set ?_ (by first | (simp; done) | (simp; omega) | omega) _)); done) | exact hk | exact (hk.alloc _) | exact ((hk.alloc _).alloc _) | exact (((hk.alloc _).alloc _).alloc _) | exact ((((hk.alloc _).alloc _).alloc _).alloc _) | exact (((((hk.alloc _).alloc _).alloc _).alloc _).alloc _) | exact ((((((hk.alloc _).alloc _).alloc _).alloc _).alloc _).alloc _) | (repeat (first | exact hk | refine Kept.alloc ?_ _ | refine Kept.drew ?_ | refine Kept.drewN ?_ _ | refine Kept.set ?_ (by first | (simp; done) | (simp; omega) | omega) _)))⟩ | exact ⟨2, by omega, rfl, (by first | ((repeat (first | with_reducible exact hk | with_reducible refine Kept.alloc ?_ _ | with_reducible refine Kept.drew ?_ | with_reducible refine Kept.drewN ?_ _ | with_reducible refine Kept.set ?_ (by first | (simp; done) | (simp; omega) | omega) _)); done) | exact hk | exact (hk.alloc _) | exact ((hk.alloc _).alloc _) | exact (((hk.alloc _).alloc _).alloc _) | exact ((((hk.alloc _).alloc _).alloc _).alloc _) | exact (((((hk.alloc _).alloc _).alloc _).alloc _).alloc _) | exact ((((((hk.alloc _).alloc _).alloc _).alloc _).alloc _).alloc _) | (repeat (first | exact hk | refine Kept.alloc ?_ _ | refine Kept.drew ?_ | refine Kept.drewN ?_ _ | refine Kept.set ?_ (by first | (simp; done) | (simp; omega) | omega) _)))⟩ | exact ⟨3, by omega, rfl, (by first | ((repeat (first | with_reducible exact hk | with_reducible refine Kept.alloc ?_ _ | with_reducible refine Kept.drew ?_ | with_reducible refine Kept.drewN ?_ _ | with_reducible refine Kept.set ?_ (by first | (simp; done) | (simp; omega) | omega) _)); done) | exact hk | exact (hk.alloc _) | exact ((hk.alloc _).alloc _) | exact (((hk.alloc _).alloc _).alloc _) | exact ((((hk.alloc _).alloc _).alloc _).alloc _) | exact (((((hk.alloc _).alloc _).alloc _).alloc _).alloc _) | exact ((((((hk.alloc _).alloc _).alloc _).alloc _).alloc _).alloc _) | (repeat (first | exact hk | refine Kept.alloc ?_ _ | refine Kept.drew ?_ | refine Kept.drewN ?_ _ | refine Kept.set ?_ (by first | (simp; done) | (simp; omega) | omega) _)))⟩ | exact ⟨4, by omega, rfl, (by first | ((repeat (first | with_reducible exact hk | with_reducible refine Kept.alloc ?_ _ | with_reducible refine Kept.drew ?_ | with_reducible refine Kept.drewN ?_ _ | with_reducible refine Kept.set ?_ (by first | (simp; done) | (simp; omega) | omega) _)); done) | exact hk | exact (hk.alloc _) | exact ((hk.alloc _).alloc _) | exact (((hk.alloc _).alloc _).alloc _) | exact ((((hk.alloc _).alloc _).alloc _).alloc _) | exact (((((hk.alloc _).alloc _).alloc _).alloc _).alloc _) | exact ((((((hk.alloc _).alloc _).alloc _).alloc _).alloc _).alloc _) | (repeat (first | exact hk | refine Kept.alloc ?_ _ | refine Kept.drew ?_ | refine Kept.drewN ?_ _ | refine Kept.set ?_ (by first | (simp; done) | (simp; omega) | omega) _)))⟩ | exact ⟨5, by omega, rfl, (by first | ((repeat (first | with_reducible exact hk | with_reducible refine Kept.alloc ?_ _ | with_reducible refine Kept.drew ?_ | with_reducible refine Kept.drewN ?_ _ | with_reducible refine Kept.set ?_ (by first | (simp; done) | (simp; omega) | omega) _)); done) | exact hk | exact (hk.alloc _) | exact ((hk.alloc _).alloc _) | exact (((hk.alloc _).alloc _).alloc _) | exact ((((hk.alloc _).alloc _).alloc _).alloc _) | exact (((((hk.alloc _).alloc _).alloc _).alloc _).alloc _) | exact ((((((hk.alloc _).alloc _).alloc _).alloc _).alloc _).alloc _) | (repeat (first | exact hk | refine Kept.alloc ?_ _ | refine Kept.drew ?_ | refine Kept.drewN ?_ _ | refine Kept.set ?_ (by first | (simp; done) | (simp; omega) | omega) _)))⟩ | exact ⟨6, by omega, rfl, (by first | ((repeat (first | with_reducible exact hk | with_reducible refine Kept.alloc ?_ _ | with_reducible refine Kept.drew ?_ | with_reducible refine Kept.drewN ?_ _ | with_reducible refine Kept.set ?_ (by first | (simp; done) | (simp; omega) | omega) _)); done) | exact hk | exact (hk.alloc _) | exact ((hk.alloc _).alloc _) | exact (((hk.alloc _).alloc _).alloc _) | exact ((((hk.alloc _).alloc _).alloc _).alloc _) | exact (((((hk.alloc _).alloc _).alloc _).alloc _).alloc _) | exact ((((((hk.alloc _).alloc _).alloc _).alloc _).alloc _).alloc _) | (repeat (first | exact hk | refine Kept.alloc ?_ _ | refine Kept.drew ?_ | refine Kept.drewN ?_ _ | refine Kept.set ?_ (by first | (simp; done) | (simp; omega) | omega) _)))⟩
      case measure => simp [intOf]
end Go.Proofs.YtkapmnbkmljpkaaDoor
