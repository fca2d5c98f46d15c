/- Layer 2: all edges, by hand. -/
import Derived.Test.YtkapmnbkmljpkaaDoorModes6
import Derived.Test.YtkapmnbkmljpkaaDoorBoxes
namespace Go.Proofs.YtkapmnbkmljpkaaDoor
open Go.RowKit
set_option maxHeartbeats 4000000 in
theorem modeTable_0 (a : Int) (hi : wrap64 ((IntKind.u64.wrap a).tmod 6) = 0) (w : World) (ht : Tab w) :
    Calls Tryd.prog 6 #[.int .i64 a] w fun e w' => e = .returned (.bool true) ∧ Kept w w' := by
  have e0 : edgeS 0 0 0 = (3, 0) := by decide
  have e1 : edgeS 0 0 1 = (1, 0) := by decide
  have e2 : edgeS 0 0 2 = (0, 0) := by decide
  have e3 : edgeS 0 0 3 = (2, 0) := by decide
  have hk : Kept w w := Kept.refl w
  go_enter Tryd.func6, Tryd.ntmps6
  go_wp2_with (first
    | (go_at_call 22; refine (awake2_any _ (ht.kept (by first | exact hk | exact (hk.alloc _) | exact ((hk.alloc _).alloc _) | exact (((hk.alloc _).alloc _).alloc _) | exact ((((hk.alloc _).alloc _).alloc _).alloc _) | exact (((((hk.alloc _).alloc _).alloc _).alloc _).alloc _) | exact ((((((hk.alloc _).alloc _).alloc _).alloc _).alloc _).alloc _)))).mono ?_; rintro e w1 ⟨rfl, hn⟩; replace hk := Kept.trans (by first | exact hk | exact (hk.alloc _) | exact ((hk.alloc _).alloc _) | exact (((hk.alloc _).alloc _).alloc _) | exact ((((hk.alloc _).alloc _).alloc _).alloc _) | exact (((((hk.alloc _).alloc _).alloc _).alloc _).alloc _) | exact ((((((hk.alloc _).alloc _).alloc _).alloc _).alloc _).alloc _)) hn)
    | fail)
  refine with_boxes7 ?_
  intro X hX B0 B1 B2 B3 B4 B5 B6
  replace hk := hk.trans hX
  clear hX hn
  have hb := B0.boxed
  replace B6 := B6.boxed
  clear B0 B1 B2 B3 B4 B5
  refine (modeAll_lies _).mono ?_
  rintro e w1 ⟨g, cap, rfl, hl, hn⟩
  replace hk := Kept.trans (by first | exact hk | exact (hk.alloc _) | exact ((hk.alloc _).alloc _) | exact (((hk.alloc _).alloc _).alloc _) | exact ((((hk.alloc _).alloc _).alloc _).alloc _) | exact (((((hk.alloc _).alloc _).alloc _).alloc _).alloc _) | exact ((((((hk.alloc _).alloc _).alloc _).alloc _).alloc _).alloc _)) hn
  replace hb := hb.kept hn
  replace B6 := B6.kept hn
  obtain ⟨hg, c0, c1, c2, c3, c4, c5, c6, c7, c8, c9, c10, c11⟩ := modes6_of hl
  clear hl
  go_wp2
  simp only [hi]
  clear hi
  go_loopw [6] (fun n wx => ∃ k : Nat, k ≤ 4 ∧ n = .int .i64 k ∧ Kept w1 wx) (fun n _ => 4 - (intOf n).toNat)
  case atStart => exact ⟨0, Nat.zero_le _, rfl, Kept.refl _⟩
  case round =>
    obtain ⟨k, hk4, rfl, hx⟩ := hrel
    replace hk := hk.trans hx
    have hb_0 := (hb.kept hx).cell 0 _ rfl
    have hb_1 := (hb.kept hx).cell 1 _ rfl
    have hb_2 := (hb.kept hx).cell 2 _ rfl
    have hb_3 := (hb.kept hx).cell 3 _ rfl
    have hb_l := (hb.kept hx).lt
    have hd_l := (B6.kept hx).lt
    have hd_0 := (B6.kept hx).cell 0 _ rfl
    have ha := (hx.cell (p := ⟨g, 0, none⟩) hg).trans c0
    have hb' := (hx.cell (p := ⟨g, 1, none⟩) hg).trans c1
    have hgx := Nat.lt_of_lt_of_le hg hx.size
    clear hn c0 c1 c2 c3 c4 c5 c6 c7 c8 c9 c10 c11 
    rcases (by omega : k = 0 ∨ k = 1 ∨ k = 2 ∨ k = 3 ∨ k = 4) with rfl | rfl | rfl | rfl | rfl
    case inr.inr.inr.inr =>
      go_wp2
      go_ret
      exact ⟨rfl, hk⟩
    all_goals
      go_wp2_with (first
        | (go_at_call 9; refine (modeEdge_any _ _ _ _ (ht.kept (by first | exact hk | exact (hk.alloc _) | exact ((hk.alloc _).alloc _) | exact (((hk.alloc _).alloc _).alloc _) | exact ((((hk.alloc _).alloc _).alloc _).alloc _) | exact (((((hk.alloc _).alloc _).alloc _).alloc _).alloc _) | exact ((((((hk.alloc _).alloc _).alloc _).alloc _).alloc _).alloc _)))).mono ?_; rintro e w2 ⟨rfl, hn⟩; replace hk := Kept.trans (by first | exact hk | exact (hk.alloc _) | exact ((hk.alloc _).alloc _) | exact (((hk.alloc _).alloc _).alloc _) | exact ((((hk.alloc _).alloc _).alloc _).alloc _) | exact (((((hk.alloc _).alloc _).alloc _).alloc _).alloc _) | exact ((((((hk.alloc _).alloc _).alloc _).alloc _).alloc _).alloc _)) hn; replace hx := hx.trans hn; replace hb := hb.kept hx; replace B6 := B6.kept hx; have hb_0 := hb.cell 0 _ rfl; have hb_1 := hb.cell 1 _ rfl; have hb_2 := hb.cell 2 _ rfl; have hb_3 := hb.cell 3 _ rfl; have hb_l := hb.lt; have hd_l := B6.lt; have hd_0 := B6.cell 0 _ rfl)
        | (go_at_call 14; refine (num_any _ _).mono ?_; rintro e w1 ⟨rfl, rfl⟩)
        | fail)
      go_roundw
      case rel => first | exact ⟨1, by omega, rfl, hx⟩ | exact ⟨2, by omega, rfl, hx⟩ | exact ⟨3, by omega, rfl, hx⟩ | exact ⟨4, by omega, rfl, hx⟩
      case measure => simp [intOf]
set_option maxHeartbeats 4000000 in
theorem modeTable_1 (a : Int) (hi : wrap64 ((IntKind.u64.wrap a).tmod 6) = 1) (w : World) (ht : Tab w) :
    Calls Tryd.prog 6 #[.int .i64 a] w fun e w' => e = .returned (.bool true) ∧ Kept w w' := by
  have e0 : edgeS 0 1 0 = (1, 0) := by decide
  have e1 : edgeS 0 1 1 = (3, 0) := by decide
  have e2 : edgeS 0 1 2 = (0, 0) := by decide
  have e3 : edgeS 0 1 3 = (2, 0) := by decide
  have hk : Kept w w := Kept.refl w
  go_enter Tryd.func6, Tryd.ntmps6
  go_wp2_with (first
    | (go_at_call 22; refine (awake2_any _ (ht.kept (by first | exact hk | exact (hk.alloc _) | exact ((hk.alloc _).alloc _) | exact (((hk.alloc _).alloc _).alloc _) | exact ((((hk.alloc _).alloc _).alloc _).alloc _) | exact (((((hk.alloc _).alloc _).alloc _).alloc _).alloc _) | exact ((((((hk.alloc _).alloc _).alloc _).alloc _).alloc _).alloc _)))).mono ?_; rintro e w1 ⟨rfl, hn⟩; replace hk := Kept.trans (by first | exact hk | exact (hk.alloc _) | exact ((hk.alloc _).alloc _) | exact (((hk.alloc _).alloc _).alloc _) | exact ((((hk.alloc _).alloc _).alloc _).alloc _) | exact (((((hk.alloc _).alloc _).alloc _).alloc _).alloc _) | exact ((((((hk.alloc _).alloc _).alloc _).alloc _).alloc _).alloc _)) hn)
    | fail)
  refine with_boxes7 ?_
  intro X hX B0 B1 B2 B3 B4 B5 B6
  replace hk := hk.trans hX
  clear hX hn
  have hb := B1.boxed
  replace B6 := B6.boxed
  clear B0 B1 B2 B3 B4 B5
  refine (modeAll_lies _).mono ?_
  rintro e w1 ⟨g, cap, rfl, hl, hn⟩
  replace hk := Kept.trans (by first | exact hk | exact (hk.alloc _) | exact ((hk.alloc _).alloc _) | exact (((hk.alloc _).alloc _).alloc _) | exact ((((hk.alloc _).alloc _).alloc _).alloc _) | exact (((((hk.alloc _).alloc _).alloc _).alloc _).alloc _) | exact ((((((hk.alloc _).alloc _).alloc _).alloc _).alloc _).alloc _)) hn
  replace hb := hb.kept hn
  replace B6 := B6.kept hn
  obtain ⟨hg, c0, c1, c2, c3, c4, c5, c6, c7, c8, c9, c10, c11⟩ := modes6_of hl
  clear hl
  go_wp2
  simp only [hi]
  clear hi
  go_loopw [6] (fun n wx => ∃ k : Nat, k ≤ 4 ∧ n = .int .i64 k ∧ Kept w1 wx) (fun n _ => 4 - (intOf n).toNat)
  case atStart => exact ⟨0, Nat.zero_le _, rfl, Kept.refl _⟩
  case round =>
    obtain ⟨k, hk4, rfl, hx⟩ := hrel
    replace hk := hk.trans hx
    have hb_0 := (hb.kept hx).cell 0 _ rfl
    have hb_1 := (hb.kept hx).cell 1 _ rfl
    have hb_2 := (hb.kept hx).cell 2 _ rfl
    have hb_3 := (hb.kept hx).cell 3 _ rfl
    have hb_l := (hb.kept hx).lt
    have hd_l := (B6.kept hx).lt
    have hd_0 := (B6.kept hx).cell 1 _ rfl
    have ha := (hx.cell (p := ⟨g, 2, none⟩) hg).trans c2
    have hb' := (hx.cell (p := ⟨g, 3, none⟩) hg).trans c3
    have hgx := Nat.lt_of_lt_of_le hg hx.size
    clear hn c0 c1 c2 c3 c4 c5 c6 c7 c8 c9 c10 c11 
    rcases (by omega : k = 0 ∨ k = 1 ∨ k = 2 ∨ k = 3 ∨ k = 4) with rfl | rfl | rfl | rfl | rfl
    case inr.inr.inr.inr =>
      go_wp2
      go_ret
      exact ⟨rfl, hk⟩
    all_goals
      go_wp2_with (first
        | (go_at_call 9; refine (modeEdge_any _ _ _ _ (ht.kept (by first | exact hk | exact (hk.alloc _) | exact ((hk.alloc _).alloc _) | exact (((hk.alloc _).alloc _).alloc _) | exact ((((hk.alloc _).alloc _).alloc _).alloc _) | exact (((((hk.alloc _).alloc _).alloc _).alloc _).alloc _) | exact ((((((hk.alloc _).alloc _).alloc _).alloc _).alloc _).alloc _)))).mono ?_; rintro e w2 ⟨rfl, hn⟩; replace hk := Kept.trans (by first | exact hk | exact (hk.alloc _) | exact ((hk.alloc _).alloc _) | exact (((hk.alloc _).alloc _).alloc _) | exact ((((hk.alloc _).alloc _).alloc _).alloc _) | exact (((((hk.alloc _).alloc _).alloc _).alloc _).alloc _) | exact ((((((hk.alloc _).alloc _).alloc _).alloc _).alloc _).alloc _)) hn; replace hx := hx.trans hn; replace hb := hb.kept hx; replace B6 := B6.kept hx; have hb_0 := hb.cell 0 _ rfl; have hb_1 := hb.cell 1 _ rfl; have hb_2 := hb.cell 2 _ rfl; have hb_3 := hb.cell 3 _ rfl; have hb_l := hb.lt; have hd_l := B6.lt; have hd_0 := B6.cell 1 _ rfl)
        | (go_at_call 14; refine (num_any _ _).mono ?_; rintro e w1 ⟨rfl, rfl⟩)
        | fail)
      go_roundw
      case rel => first | exact ⟨1, by omega, rfl, hx⟩ | exact ⟨2, by omega, rfl, hx⟩ | exact ⟨3, by omega, rfl, hx⟩ | exact ⟨4, by omega, rfl, hx⟩
      case measure => simp [intOf]
set_option maxHeartbeats 4000000 in
theorem modeTable_2 (a : Int) (hi : wrap64 ((IntKind.u64.wrap a).tmod 6) = 2) (w : World) (ht : Tab w) :
    Calls Tryd.prog 6 #[.int .i64 a] w fun e w' => e = .returned (.bool true) ∧ Kept w w' := by
  have e0 : edgeS 1 0 0 = (0, 0) := by decide
  have e1 : edgeS 1 0 1 = (2, 0) := by decide
  have e2 : edgeS 1 0 2 = (1, 0) := by decide
  have e3 : edgeS 1 0 3 = (3, 0) := by decide
  have hk : Kept w w := Kept.refl w
  go_enter Tryd.func6, Tryd.ntmps6
  go_wp2_with (first
    | (go_at_call 22; refine (awake2_any _ (ht.kept (by first | exact hk | exact (hk.alloc _) | exact ((hk.alloc _).alloc _) | exact (((hk.alloc _).alloc _).alloc _) | exact ((((hk.alloc _).alloc _).alloc _).alloc _) | exact (((((hk.alloc _).alloc _).alloc _).alloc _).alloc _) | exact ((((((hk.alloc _).alloc _).alloc _).alloc _).alloc _).alloc _)))).mono ?_; rintro e w1 ⟨rfl, hn⟩; replace hk := Kept.trans (by first | exact hk | exact (hk.alloc _) | exact ((hk.alloc _).alloc _) | exact (((hk.alloc _).alloc _).alloc _) | exact ((((hk.alloc _).alloc _).alloc _).alloc _) | exact (((((hk.alloc _).alloc _).alloc _).alloc _).alloc _) | exact ((((((hk.alloc _).alloc _).alloc _).alloc _).alloc _).alloc _)) hn)
    | fail)
  refine with_boxes7 ?_
  intro X hX B0 B1 B2 B3 B4 B5 B6
  replace hk := hk.trans hX
  clear hX hn
  have hb := B2.boxed
  replace B6 := B6.boxed
  clear B0 B1 B2 B3 B4 B5
  refine (modeAll_lies _).mono ?_
  rintro e w1 ⟨g, cap, rfl, hl, hn⟩
  replace hk := Kept.trans (by first | exact hk | exact (hk.alloc _) | exact ((hk.alloc _).alloc _) | exact (((hk.alloc _).alloc _).alloc _) | exact ((((hk.alloc _).alloc _).alloc _).alloc _) | exact (((((hk.alloc _).alloc _).alloc _).alloc _).alloc _) | exact ((((((hk.alloc _).alloc _).alloc _).alloc _).alloc _).alloc _)) hn
  replace hb := hb.kept hn
  replace B6 := B6.kept hn
  obtain ⟨hg, c0, c1, c2, c3, c4, c5, c6, c7, c8, c9, c10, c11⟩ := modes6_of hl
  clear hl
  go_wp2
  simp only [hi]
  clear hi
  go_loopw [6] (fun n wx => ∃ k : Nat, k ≤ 4 ∧ n = .int .i64 k ∧ Kept w1 wx) (fun n _ => 4 - (intOf n).toNat)
  case atStart => exact ⟨0, Nat.zero_le _, rfl, Kept.refl _⟩
  case round =>
    obtain ⟨k, hk4, rfl, hx⟩ := hrel
    replace hk := hk.trans hx
    have hb_0 := (hb.kept hx).cell 0 _ rfl
    have hb_1 := (hb.kept hx).cell 1 _ rfl
    have hb_2 := (hb.kept hx).cell 2 _ rfl
    have hb_3 := (hb.kept hx).cell 3 _ rfl
    have hb_l := (hb.kept hx).lt
    have hd_l := (B6.kept hx).lt
    have hd_0 := (B6.kept hx).cell 2 _ rfl
    have ha := (hx.cell (p := ⟨g, 4, none⟩) hg).trans c4
    have hb' := (hx.cell (p := ⟨g, 5, none⟩) hg).trans c5
    have hgx := Nat.lt_of_lt_of_le hg hx.size
    clear hn c0 c1 c2 c3 c4 c5 c6 c7 c8 c9 c10 c11 
    rcases (by omega : k = 0 ∨ k = 1 ∨ k = 2 ∨ k = 3 ∨ k = 4) with rfl | rfl | rfl | rfl | rfl
    case inr.inr.inr.inr =>
      go_wp2
      go_ret
      exact ⟨rfl, hk⟩
    all_goals
      go_wp2_with (first
        | (go_at_call 9; refine (modeEdge_any _ _ _ _ (ht.kept (by first | exact hk | exact (hk.alloc _) | exact ((hk.alloc _).alloc _) | exact (((hk.alloc _).alloc _).alloc _) | exact ((((hk.alloc _).alloc _).alloc _).alloc _) | exact (((((hk.alloc _).alloc _).alloc _).alloc _).alloc _) | exact ((((((hk.alloc _).alloc _).alloc _).alloc _).alloc _).alloc _)))).mono ?_; rintro e w2 ⟨rfl, hn⟩; replace hk := Kept.trans (by first | exact hk | exact (hk.alloc _) | exact ((hk.alloc _).alloc _) | exact (((hk.alloc _).alloc _).alloc _) | exact ((((hk.alloc _).alloc _).alloc _).alloc _) | exact (((((hk.alloc _).alloc _).alloc _).alloc _).alloc _) | exact ((((((hk.alloc _).alloc _).alloc _).alloc _).alloc _).alloc _)) hn; replace hx := hx.trans hn; replace hb := hb.kept hx; replace B6 := B6.kept hx; have hb_0 := hb.cell 0 _ rfl; have hb_1 := hb.cell 1 _ rfl; have hb_2 := hb.cell 2 _ rfl; have hb_3 := hb.cell 3 _ rfl; have hb_l := hb.lt; have hd_l := B6.lt; have hd_0 := B6.cell 2 _ rfl)
        | (go_at_call 14; refine (num_any _ _).mono ?_; rintro e w1 ⟨rfl, rfl⟩)
        | fail)
      go_roundw
      case rel => first | exact ⟨1, by omega, rfl, hx⟩ | exact ⟨2, by omega, rfl, hx⟩ | exact ⟨3, by omega, rfl, hx⟩ | exact ⟨4, by omega, rfl, hx⟩
      case measure => simp [intOf]
set_option maxHeartbeats 4000000 in
theorem modeTable_3 (a : Int) (hi : wrap64 ((IntKind.u64.wrap a).tmod 6) = 3) (w : World) (ht : Tab w) :
    Calls Tryd.prog 6 #[.int .i64 a] w fun e w' => e = .returned (.bool true) ∧ Kept w w' := by
  have e0 : edgeS 1 1 0 = (2, 0) := by decide
  have e1 : edgeS 1 1 1 = (0, 0) := by decide
  have e2 : edgeS 1 1 2 = (1, 0) := by decide
  have e3 : edgeS 1 1 3 = (3, 0) := by decide
  have hk : Kept w w := Kept.refl w
  go_enter Tryd.func6, Tryd.ntmps6
  go_wp2_with (first
    | (go_at_call 22; refine (awake2_any _ (ht.kept (by first | exact hk | exact (hk.alloc _) | exact ((hk.alloc _).alloc _) | exact (((hk.alloc _).alloc _).alloc _) | exact ((((hk.alloc _).alloc _).alloc _).alloc _) | exact (((((hk.alloc _).alloc _).alloc _).alloc _).alloc _) | exact ((((((hk.alloc _).alloc _).alloc _).alloc _).alloc _).alloc _)))).mono ?_; rintro e w1 ⟨rfl, hn⟩; replace hk := Kept.trans (by first | exact hk | exact (hk.alloc _) | exact ((hk.alloc _).alloc _) | exact (((hk.alloc _).alloc _).alloc _) | exact ((((hk.alloc _).alloc _).alloc _).alloc _) | exact (((((hk.alloc _).alloc _).alloc _).alloc _).alloc _) | exact ((((((hk.alloc _).alloc _).alloc _).alloc _).alloc _).alloc _)) hn)
    | fail)
  refine with_boxes7 ?_
  intro X hX B0 B1 B2 B3 B4 B5 B6
  replace hk := hk.trans hX
  clear hX hn
  have hb := B3.boxed
  replace B6 := B6.boxed
  clear B0 B1 B2 B3 B4 B5
  refine (modeAll_lies _).mono ?_
  rintro e w1 ⟨g, cap, rfl, hl, hn⟩
  replace hk := Kept.trans (by first | exact hk | exact (hk.alloc _) | exact ((hk.alloc _).alloc _) | exact (((hk.alloc _).alloc _).alloc _) | exact ((((hk.alloc _).alloc _).alloc _).alloc _) | exact (((((hk.alloc _).alloc _).alloc _).alloc _).alloc _) | exact ((((((hk.alloc _).alloc _).alloc _).alloc _).alloc _).alloc _)) hn
  replace hb := hb.kept hn
  replace B6 := B6.kept hn
  obtain ⟨hg, c0, c1, c2, c3, c4, c5, c6, c7, c8, c9, c10, c11⟩ := modes6_of hl
  clear hl
  go_wp2
  simp only [hi]
  clear hi
  go_loopw [6] (fun n wx => ∃ k : Nat, k ≤ 4 ∧ n = .int .i64 k ∧ Kept w1 wx) (fun n _ => 4 - (intOf n).toNat)
  case atStart => exact ⟨0, Nat.zero_le _, rfl, Kept.refl _⟩
  case round =>
    obtain ⟨k, hk4, rfl, hx⟩ := hrel
    replace hk := hk.trans hx
    have hb_0 := (hb.kept hx).cell 0 _ rfl
    have hb_1 := (hb.kept hx).cell 1 _ rfl
    have hb_2 := (hb.kept hx).cell 2 _ rfl
    have hb_3 := (hb.kept hx).cell 3 _ rfl
    have hb_l := (hb.kept hx).lt
    have hd_l := (B6.kept hx).lt
    have hd_0 := (B6.kept hx).cell 3 _ rfl
    have ha := (hx.cell (p := ⟨g, 6, none⟩) hg).trans c6
    have hb' := (hx.cell (p := ⟨g, 7, none⟩) hg).trans c7
    have hgx := Nat.lt_of_lt_of_le hg hx.size
    clear hn c0 c1 c2 c3 c4 c5 c6 c7 c8 c9 c10 c11 
    rcases (by omega : k = 0 ∨ k = 1 ∨ k = 2 ∨ k = 3 ∨ k = 4) with rfl | rfl | rfl | rfl | rfl
    case inr.inr.inr.inr =>
      go_wp2
      go_ret
      exact ⟨rfl, hk⟩
    all_goals
      go_wp2_with (first
        | (go_at_call 9; refine (modeEdge_any _ _ _ _ (ht.kept (by first | exact hk | exact (hk.alloc _) | exact ((hk.alloc _).alloc _) | exact (((hk.alloc _).alloc _).alloc _) | exact ((((hk.alloc _).alloc _).alloc _).alloc _) | exact (((((hk.alloc _).alloc _).alloc _).alloc _).alloc _) | exact ((((((hk.alloc _).alloc _).alloc _).alloc _).alloc _).alloc _)))).mono ?_; rintro e w2 ⟨rfl, hn⟩; replace hk := Kept.trans (by first | exact hk | exact (hk.alloc _) | exact ((hk.alloc _).alloc _) | exact (((hk.alloc _).alloc _).alloc _) | exact ((((hk.alloc _).alloc _).alloc _).alloc _) | exact (((((hk.alloc _).alloc _).alloc _).alloc _).alloc _) | exact ((((((hk.alloc _).alloc _).alloc _).alloc _).alloc _).alloc _)) hn; replace hx := hx.trans hn; replace hb := hb.kept hx; replace B6 := B6.kept hx; have hb_0 := hb.cell 0 _ rfl; have hb_1 := hb.cell 1 _ rfl; have hb_2 := hb.cell 2 _ rfl; have hb_3 := hb.cell 3 _ rfl; have hb_l := hb.lt; have hd_l := B6.lt; have hd_0 := B6.cell 3 _ rfl)
        | (go_at_call 14; refine (num_any _ _).mono ?_; rintro e w1 ⟨rfl, rfl⟩)
        | fail)
      go_roundw
      case rel => first | exact ⟨1, by omega, rfl, hx⟩ | exact ⟨2, by omega, rfl, hx⟩ | exact ⟨3, by omega, rfl, hx⟩ | exact ⟨4, by omega, rfl, hx⟩
      case measure => simp [intOf]
set_option maxHeartbeats 4000000 in
theorem modeTable_4 (a : Int) (hi : wrap64 ((IntKind.u64.wrap a).tmod 6) = 4) (w : World) (ht : Tab w) :
    Calls Tryd.prog 6 #[.int .i64 a] w fun e w' => e = .returned (.bool true) ∧ Kept w w' := by
  have e0 : edgeS 2 0 0 = (0, 0) := by decide
  have e1 : edgeS 2 0 1 = (2, 0) := by decide
  have e2 : edgeS 2 0 2 = (3, 0) := by decide
  have e3 : edgeS 2 0 3 = (1, 0) := by decide
  have hk : Kept w w := Kept.refl w
  go_enter Tryd.func6, Tryd.ntmps6
  go_wp2_with (first
    | (go_at_call 22; refine (awake2_any _ (ht.kept (by first | exact hk | exact (hk.alloc _) | exact ((hk.alloc _).alloc _) | exact (((hk.alloc _).alloc _).alloc _) | exact ((((hk.alloc _).alloc _).alloc _).alloc _) | exact (((((hk.alloc _).alloc _).alloc _).alloc _).alloc _) | exact ((((((hk.alloc _).alloc _).alloc _).alloc _).alloc _).alloc _)))).mono ?_; rintro e w1 ⟨rfl, hn⟩; replace hk := Kept.trans (by first | exact hk | exact (hk.alloc _) | exact ((hk.alloc _).alloc _) | exact (((hk.alloc _).alloc _).alloc _) | exact ((((hk.alloc _).alloc _).alloc _).alloc _) | exact (((((hk.alloc _).alloc _).alloc _).alloc _).alloc _) | exact ((((((hk.alloc _).alloc _).alloc _).alloc _).alloc _).alloc _)) hn)
    | fail)
  refine with_boxes7 ?_
  intro X hX B0 B1 B2 B3 B4 B5 B6
  replace hk := hk.trans hX
  clear hX hn
  have hb := B4.boxed
  replace B6 := B6.boxed
  clear B0 B1 B2 B3 B4 B5
  refine (modeAll_lies _).mono ?_
  rintro e w1 ⟨g, cap, rfl, hl, hn⟩
  replace hk := Kept.trans (by first | exact hk | exact (hk.alloc _) | exact ((hk.alloc _).alloc _) | exact (((hk.alloc _).alloc _).alloc _) | exact ((((hk.alloc _).alloc _).alloc _).alloc _) | exact (((((hk.alloc _).alloc _).alloc _).alloc _).alloc _) | exact ((((((hk.alloc _).alloc _).alloc _).alloc _).alloc _).alloc _)) hn
  replace hb := hb.kept hn
  replace B6 := B6.kept hn
  obtain ⟨hg, c0, c1, c2, c3, c4, c5, c6, c7, c8, c9, c10, c11⟩ := modes6_of hl
  clear hl
  go_wp2
  simp only [hi]
  clear hi
  go_loopw [6] (fun n wx => ∃ k : Nat, k ≤ 4 ∧ n = .int .i64 k ∧ Kept w1 wx) (fun n _ => 4 - (intOf n).toNat)
  case atStart => exact ⟨0, Nat.zero_le _, rfl, Kept.refl _⟩
  case round =>
    obtain ⟨k, hk4, rfl, hx⟩ := hrel
    replace hk := hk.trans hx
    have hb_0 := (hb.kept hx).cell 0 _ rfl
    have hb_1 := (hb.kept hx).cell 1 _ rfl
    have hb_2 := (hb.kept hx).cell 2 _ rfl
    have hb_3 := (hb.kept hx).cell 3 _ rfl
    have hb_l := (hb.kept hx).lt
    have hd_l := (B6.kept hx).lt
    have hd_0 := (B6.kept hx).cell 4 _ rfl
    have ha := (hx.cell (p := ⟨g, 8, none⟩) hg).trans c8
    have hb' := (hx.cell (p := ⟨g, 9, none⟩) hg).trans c9
    have hgx := Nat.lt_of_lt_of_le hg hx.size
    clear hn c0 c1 c2 c3 c4 c5 c6 c7 c8 c9 c10 c11 
    rcases (by omega : k = 0 ∨ k = 1 ∨ k = 2 ∨ k = 3 ∨ k = 4) with rfl | rfl | rfl | rfl | rfl
    case inr.inr.inr.inr =>
      go_wp2
      go_ret
      exact ⟨rfl, hk⟩
    all_goals
      go_wp2_with (first
        | (go_at_call 9; refine (modeEdge_any _ _ _ _ (ht.kept (by first | exact hk | exact (hk.alloc _) | exact ((hk.alloc _).alloc _) | exact (((hk.alloc _).alloc _).alloc _) | exact ((((hk.alloc _).alloc _).alloc _).alloc _) | exact (((((hk.alloc _).alloc _).alloc _).alloc _).alloc _) | exact ((((((hk.alloc _).alloc _).alloc _).alloc _).alloc _).alloc _)))).mono ?_; rintro e w2 ⟨rfl, hn⟩; replace hk := Kept.trans (by first | exact hk | exact (hk.alloc _) | exact ((hk.alloc _).alloc _) | exact (((hk.alloc _).alloc _).alloc _) | exact ((((hk.alloc _).alloc _).alloc _).alloc _) | exact (((((hk.alloc _).alloc _).alloc _).alloc _).alloc _) | exact ((((((hk.alloc _).alloc _).alloc _).alloc _).alloc _).alloc _)) hn; replace hx := hx.trans hn; replace hb := hb.kept hx; replace B6 := B6.kept hx; have hb_0 := hb.cell 0 _ rfl; have hb_1 := hb.cell 1 _ rfl; have hb_2 := hb.cell 2 _ rfl; have hb_3 := hb.cell 3 _ rfl; have hb_l := hb.lt; have hd_l := B6.lt; have hd_0 := B6.cell 4 _ rfl)
        | (go_at_call 14; refine (num_any _ _).mono ?_; rintro e w1 ⟨rfl, rfl⟩)
        | fail)
      go_roundw
      case rel => first | exact ⟨1, by omega, rfl, hx⟩ | exact ⟨2, by omega, rfl, hx⟩ | exact ⟨3, by omega, rfl, hx⟩ | exact ⟨4, by omega, rfl, hx⟩
      case measure => simp [intOf]
set_option maxHeartbeats 4000000 in
theorem modeTable_5 (a : Int) (hi : wrap64 ((IntKind.u64.wrap a).tmod 6) = 5) (w : World) (ht : Tab w) :
    Calls Tryd.prog 6 #[.int .i64 a] w fun e w' => e = .returned (.bool true) ∧ Kept w w' := by
  have e0 : edgeS 2 1 0 = (2, 0) := by decide
  have e1 : edgeS 2 1 1 = (0, 0) := by decide
  have e2 : edgeS 2 1 2 = (3, 0) := by decide
  have e3 : edgeS 2 1 3 = (1, 0) := by decide
  have hk : Kept w w := Kept.refl w
  go_enter Tryd.func6, Tryd.ntmps6
  go_wp2_with (first
    | (go_at_call 22; refine (awake2_any _ (ht.kept (by first | exact hk | exact (hk.alloc _) | exact ((hk.alloc _).alloc _) | exact (((hk.alloc _).alloc _).alloc _) | exact ((((hk.alloc _).alloc _).alloc _).alloc _) | exact (((((hk.alloc _).alloc _).alloc _).alloc _).alloc _) | exact ((((((hk.alloc _).alloc _).alloc _).alloc _).alloc _).alloc _)))).mono ?_; rintro e w1 ⟨rfl, hn⟩; replace hk := Kept.trans (by first | exact hk | exact (hk.alloc _) | exact ((hk.alloc _).alloc _) | exact (((hk.alloc _).alloc _).alloc _) | exact ((((hk.alloc _).alloc _).alloc _).alloc _) | exact (((((hk.alloc _).alloc _).alloc _).alloc _).alloc _) | exact ((((((hk.alloc _).alloc _).alloc _).alloc _).alloc _).alloc _)) hn)
    | fail)
  refine with_boxes7 ?_
  intro X hX B0 B1 B2 B3 B4 B5 B6
  replace hk := hk.trans hX
  clear hX hn
  have hb := B5.boxed
  replace B6 := B6.boxed
  clear B0 B1 B2 B3 B4 B5
  refine (modeAll_lies _).mono ?_
  rintro e w1 ⟨g, cap, rfl, hl, hn⟩
  replace hk := Kept.trans (by first | exact hk | exact (hk.alloc _) | exact ((hk.alloc _).alloc _) | exact (((hk.alloc _).alloc _).alloc _) | exact ((((hk.alloc _).alloc _).alloc _).alloc _) | exact (((((hk.alloc _).alloc _).alloc _).alloc _).alloc _) | exact ((((((hk.alloc _).alloc _).alloc _).alloc _).alloc _).alloc _)) hn
  replace hb := hb.kept hn
  replace B6 := B6.kept hn
  obtain ⟨hg, c0, c1, c2, c3, c4, c5, c6, c7, c8, c9, c10, c11⟩ := modes6_of hl
  clear hl
  go_wp2
  simp only [hi]
  clear hi
  go_loopw [6] (fun n wx => ∃ k : Nat, k ≤ 4 ∧ n = .int .i64 k ∧ Kept w1 wx) (fun n _ => 4 - (intOf n).toNat)
  case atStart => exact ⟨0, Nat.zero_le _, rfl, Kept.refl _⟩
  case round =>
    obtain ⟨k, hk4, rfl, hx⟩ := hrel
    replace hk := hk.trans hx
    have hb_0 := (hb.kept hx).cell 0 _ rfl
    have hb_1 := (hb.kept hx).cell 1 _ rfl
    have hb_2 := (hb.kept hx).cell 2 _ rfl
    have hb_3 := (hb.kept hx).cell 3 _ rfl
    have hb_l := (hb.kept hx).lt
    have hd_l := (B6.kept hx).lt
    have hd_0 := (B6.kept hx).cell 5 _ rfl
    have ha := (hx.cell (p := ⟨g, 10, none⟩) hg).trans c10
    have hb' := (hx.cell (p := ⟨g, 11, none⟩) hg).trans c11
    have hgx := Nat.lt_of_lt_of_le hg hx.size
    clear hn c0 c1 c2 c3 c4 c5 c6 c7 c8 c9 c10 c11 
    rcases (by omega : k = 0 ∨ k = 1 ∨ k = 2 ∨ k = 3 ∨ k = 4) with rfl | rfl | rfl | rfl | rfl
    case inr.inr.inr.inr =>
      go_wp2
      go_ret
      exact ⟨rfl, hk⟩
    all_goals
      go_wp2_with (first
        | (go_at_call 9; refine (modeEdge_any _ _ _ _ (ht.kept (by first | exact hk | exact (hk.alloc _) | exact ((hk.alloc _).alloc _) | exact (((hk.alloc _).alloc _).alloc _) | exact ((((hk.alloc _).alloc _).alloc _).alloc _) | exact (((((hk.alloc _).alloc _).alloc _).alloc _).alloc _) | exact ((((((hk.alloc _).alloc _).alloc _).alloc _).alloc _).alloc _)))).mono ?_; rintro e w2 ⟨rfl, hn⟩; replace hk := Kept.trans (by first | exact hk | exact (hk.alloc _) | exact ((hk.alloc _).alloc _) | exact (((hk.alloc _).alloc _).alloc _) | exact ((((hk.alloc _).alloc _).alloc _).alloc _) | exact (((((hk.alloc _).alloc _).alloc _).alloc _).alloc _) | exact ((((((hk.alloc _).alloc _).alloc _).alloc _).alloc _).alloc _)) hn; replace hx := hx.trans hn; replace hb := hb.kept hx; replace B6 := B6.kept hx; have hb_0 := hb.cell 0 _ rfl; have hb_1 := hb.cell 1 _ rfl; have hb_2 := hb.cell 2 _ rfl; have hb_3 := hb.cell 3 _ rfl; have hb_l := hb.lt; have hd_l := B6.lt; have hd_0 := B6.cell 5 _ rfl)
        | (go_at_call 14; refine (num_any _ _).mono ?_; rintro e w1 ⟨rfl, rfl⟩)
        | fail)
      go_roundw
      case rel => first | exact ⟨1, by omega, rfl, hx⟩ | exact ⟨2, by omega, rfl, hx⟩ | exact ⟨3, by omega, rfl, hx⟩ | exact ⟨4, by omega, rfl, hx⟩
      case measure => simp [intOf]
theorem modeTable_walk (a : Int) (w : World) (ht : Tab w) :
    Calls Tryd.prog 6 #[.int .i64 a] w fun e w' => e = .returned (.bool true) ∧ Kept w w' := by
  obtain ⟨i, hi, i1, i2⟩ := urest a 6 (by decide) (by decide)
  rcases (by omega : i = 0 ∨ i = 1 ∨ i = 2 ∨ i = 3 ∨ i = 4 ∨ i = 5) with rfl | rfl | rfl | rfl | rfl | rfl
  · exact modeTable_0 a hi w ht
  · exact modeTable_1 a hi w ht
  · exact modeTable_2 a hi w ht
  · exact modeTable_3 a hi w ht
  · exact modeTable_4 a hi w ht
  · exact modeTable_5 a hi w ht
end Go.Proofs.YtkapmnbkmljpkaaDoor
