/- Layer 2: sides and edges are told of one another. -/
import Derived.Test.YtkapmnbkmljpkaaDoorModes6
namespace Go.Proofs.YtkapmnbkmljpkaaDoor
open Go.RowKit
set_option maxHeartbeats 4000000 in
theorem modeSides_0 (a : Int) (hi : wrap64 ((IntKind.u64.wrap a).tmod 6) = 0) (w : World) (ht : Tab w) :
    Calls Tryd.prog 4 #[.int .i64 a] w fun e w' => e = .returned (.bool true) ∧ Kept w w' := by
  have e0 : edgeS 0 0 0 = (3, 0) := by decide
  have e1 : edgeS 0 0 1 = (1, 0) := by decide
  have e2 : edgeS 0 0 2 = (0, 0) := by decide
  have e3 : edgeS 0 0 3 = (2, 0) := by decide
  have s0 : sideS 0 0 3 = (0, 0) := by decide
  have s1 : sideS 0 0 1 = (1, 0) := by decide
  have s2 : sideS 0 0 0 = (2, 0) := by decide
  have s3 : sideS 0 0 2 = (3, 0) := by decide
  have x0 : bits .xor .i64 0 1 = 1 := by decide
  have x1 : bits .xor .i64 1 1 = 0 := by decide
  have x2 : bits .xor .i64 2 1 = 3 := by decide
  have x3 : bits .xor .i64 3 1 = 2 := by decide
  have v0 : vertB 0 0 = false := by decide
  have hk : Kept w w := Kept.refl w
  go_enter Tryd.func4, Tryd.ntmps4
  go_wp2_with (first
    | (go_at_call 22; refine (awake2_any _ (ht.kept (by first | exact hk | exact (hk.alloc _) | exact ((hk.alloc _).alloc _) | exact (((hk.alloc _).alloc _).alloc _) | exact ((((hk.alloc _).alloc _).alloc _).alloc _) | exact (((((hk.alloc _).alloc _).alloc _).alloc _).alloc _) | exact ((((((hk.alloc _).alloc _).alloc _).alloc _).alloc _).alloc _)))).mono ?_; rintro e w1 ⟨rfl, hn⟩; replace hk := Kept.trans (by first | exact hk | exact (hk.alloc _) | exact ((hk.alloc _).alloc _) | exact (((hk.alloc _).alloc _).alloc _) | exact ((((hk.alloc _).alloc _).alloc _).alloc _) | exact (((((hk.alloc _).alloc _).alloc _).alloc _).alloc _) | exact ((((((hk.alloc _).alloc _).alloc _).alloc _).alloc _).alloc _)) hn)
    | (go_at_call 13; refine (modeAll_lies _).mono ?_; rintro e w1 ⟨g, cap, rfl, hl, hn⟩; replace hk := Kept.trans (by first | exact hk | exact (hk.alloc _) | exact ((hk.alloc _).alloc _) | exact (((hk.alloc _).alloc _).alloc _) | exact ((((hk.alloc _).alloc _).alloc _).alloc _) | exact (((((hk.alloc _).alloc _).alloc _).alloc _).alloc _) | exact ((((((hk.alloc _).alloc _).alloc _).alloc _).alloc _).alloc _)) hn; have hm := modes6_of hl; obtain ⟨hg, c0, c1, c2, c3, c4, c5, c6, c7, c8, c9, c10, c11⟩ := hm)
    | fail)
  simp only [hi]
  clear hi
  obtain ⟨wo, hwo⟩ : ∃ wo : World, Kept w wo ∧ Boxed (wo.alloc (.cells #[.int .i64 0, .int .i64 0] 23)) wo.heap.size [.int .i64 0, .int .i64 0] ∧ wo = w1 := ⟨w1, hk, Boxed.new _ _ _, rfl⟩
  obtain ⟨hko, hb, rfl⟩ := hwo
  go_loopw [5] (fun n wx => ∃ k : Nat, k ≤ 4 ∧ n = .int .i64 k ∧ Kept w wx ∧ Boxed wx wo.heap.size [.int .i64 0, .int .i64 0]) (fun n _ => 4 - (intOf n).toNat)
  case atStart => exact ⟨0, Nat.zero_le _, rfl, hko.alloc _, hb⟩
  case round =>
    clear hk hb hn hl hg c0 c1 c2 c3 c4 c5 c6 c7 c8 c9 c10 c11
    obtain ⟨k, hk4, rfl, hk, hb⟩ := hrel
    have hb_l := hb.lt
    have hb_0 := hb.cell 0 _ rfl
    have hb_1 := hb.cell 1 _ rfl
    rcases (by omega : k = 0 ∨ k = 1 ∨ k = 2 ∨ k = 3 ∨ k = 4) with rfl | rfl | rfl | rfl | rfl
    case inr.inr.inr.inr =>
      go_wp2
      go_ret
      exact ⟨rfl, hk⟩
    all_goals
      go_wp2_with (first
        | (go_at_call 9; refine (modeEdge_any _ _ _ _ (ht.kept (by first | exact hk | exact (hk.alloc _) | exact ((hk.alloc _).alloc _) | exact (((hk.alloc _).alloc _).alloc _) | exact ((((hk.alloc _).alloc _).alloc _).alloc _) | exact (((((hk.alloc _).alloc _).alloc _).alloc _).alloc _) | exact ((((((hk.alloc _).alloc _).alloc _).alloc _).alloc _).alloc _)))).mono ?_; rintro e w1 ⟨rfl, hn⟩; replace hk := Kept.trans (by first | exact hk | exact (hk.alloc _) | exact ((hk.alloc _).alloc _) | exact (((hk.alloc _).alloc _).alloc _) | exact ((((hk.alloc _).alloc _).alloc _).alloc _) | exact (((((hk.alloc _).alloc _).alloc _).alloc _).alloc _) | exact ((((((hk.alloc _).alloc _).alloc _).alloc _).alloc _).alloc _)) hn; replace hb := Boxed.kept (by first | exact hb | exact (hb.alloc _) | exact ((hb.alloc _).alloc _) | exact (((hb.alloc _).alloc _).alloc _) | exact ((((hb.alloc _).alloc _).alloc _).alloc _) | exact (((((hb.alloc _).alloc _).alloc _).alloc _).alloc _) | exact ((((((hb.alloc _).alloc _).alloc _).alloc _).alloc _).alloc _)) hn; have hb_l := hb.lt; have hb_0 := hb.cell 0 _ rfl; have hb_1 := hb.cell 1 _ rfl)
        | (go_at_call 11; refine (modeSide_any _ _ _ _ (ht.kept (by first | exact hk | exact (hk.alloc _) | exact ((hk.alloc _).alloc _) | exact (((hk.alloc _).alloc _).alloc _) | exact ((((hk.alloc _).alloc _).alloc _).alloc _) | exact (((((hk.alloc _).alloc _).alloc _).alloc _).alloc _) | exact ((((((hk.alloc _).alloc _).alloc _).alloc _).alloc _).alloc _)))).mono ?_; rintro e w1 ⟨rfl, hn⟩; replace hk := Kept.trans (by first | exact hk | exact (hk.alloc _) | exact ((hk.alloc _).alloc _) | exact (((hk.alloc _).alloc _).alloc _) | exact ((((hk.alloc _).alloc _).alloc _).alloc _) | exact (((((hk.alloc _).alloc _).alloc _).alloc _).alloc _) | exact ((((((hk.alloc _).alloc _).alloc _).alloc _).alloc _).alloc _)) hn; replace hb := Boxed.kept (by first | exact hb | exact (hb.alloc _) | exact ((hb.alloc _).alloc _) | exact (((hb.alloc _).alloc _).alloc _) | exact ((((hb.alloc _).alloc _).alloc _).alloc _) | exact (((((hb.alloc _).alloc _).alloc _).alloc _).alloc _) | exact ((((((hb.alloc _).alloc _).alloc _).alloc _).alloc _).alloc _)) hn; have hb_l := hb.lt; have hb_0 := hb.cell 0 _ rfl; have hb_1 := hb.cell 1 _ rfl)
        | (go_at_call 17; refine (modeVertical_any _ _ _).mono ?_; rintro e w1 ⟨rfl, hn⟩; replace hk := Kept.trans (by first | exact hk | exact (hk.alloc _) | exact ((hk.alloc _).alloc _) | exact (((hk.alloc _).alloc _).alloc _) | exact ((((hk.alloc _).alloc _).alloc _).alloc _) | exact (((((hk.alloc _).alloc _).alloc _).alloc _).alloc _) | exact ((((((hk.alloc _).alloc _).alloc _).alloc _).alloc _).alloc _)) hn; replace hb := Boxed.kept (by first | exact hb | exact (hb.alloc _) | exact ((hb.alloc _).alloc _) | exact (((hb.alloc _).alloc _).alloc _) | exact ((((hb.alloc _).alloc _).alloc _).alloc _) | exact (((((hb.alloc _).alloc _).alloc _).alloc _).alloc _) | exact ((((((hb.alloc _).alloc _).alloc _).alloc _).alloc _).alloc _)) hn; have hb_l := hb.lt; have hb_0 := hb.cell 0 _ rfl; have hb_1 := hb.cell 1 _ rfl)
        | (go_at_call 14; refine (num_any _ _).mono ?_; rintro e w1 ⟨rfl, rfl⟩)
        | fail)
      go_roundw
      case rel => first | exact ⟨1, by omega, rfl, hk, hb⟩ | exact ⟨2, by omega, rfl, hk, hb⟩ | exact ⟨3, by omega, rfl, hk, hb⟩ | exact ⟨4, by omega, rfl, hk, hb⟩
      case measure => simp [intOf]
set_option maxHeartbeats 4000000 in
theorem modeSides_1 (a : Int) (hi : wrap64 ((IntKind.u64.wrap a).tmod 6) = 1) (w : World) (ht : Tab w) :
    Calls Tryd.prog 4 #[.int .i64 a] w fun e w' => e = .returned (.bool true) ∧ Kept w w' := by
  have e0 : edgeS 0 1 0 = (1, 0) := by decide
  have e1 : edgeS 0 1 1 = (3, 0) := by decide
  have e2 : edgeS 0 1 2 = (0, 0) := by decide
  have e3 : edgeS 0 1 3 = (2, 0) := by decide
  have s0 : sideS 0 1 1 = (0, 0) := by decide
  have s1 : sideS 0 1 3 = (1, 0) := by decide
  have s2 : sideS 0 1 0 = (2, 0) := by decide
  have s3 : sideS 0 1 2 = (3, 0) := by decide
  have x0 : bits .xor .i64 0 1 = 1 := by decide
  have x1 : bits .xor .i64 1 1 = 0 := by decide
  have x2 : bits .xor .i64 2 1 = 3 := by decide
  have x3 : bits .xor .i64 3 1 = 2 := by decide
  have v0 : vertB 0 1 = false := by decide
  have hk : Kept w w := Kept.refl w
  go_enter Tryd.func4, Tryd.ntmps4
  go_wp2_with (first
    | (go_at_call 22; refine (awake2_any _ (ht.kept (by first | exact hk | exact (hk.alloc _) | exact ((hk.alloc _).alloc _) | exact (((hk.alloc _).alloc _).alloc _) | exact ((((hk.alloc _).alloc _).alloc _).alloc _) | exact (((((hk.alloc _).alloc _).alloc _).alloc _).alloc _) | exact ((((((hk.alloc _).alloc _).alloc _).alloc _).alloc _).alloc _)))).mono ?_; rintro e w1 ⟨rfl, hn⟩; replace hk := Kept.trans (by first | exact hk | exact (hk.alloc _) | exact ((hk.alloc _).alloc _) | exact (((hk.alloc _).alloc _).alloc _) | exact ((((hk.alloc _).alloc _).alloc _).alloc _) | exact (((((hk.alloc _).alloc _).alloc _).alloc _).alloc _) | exact ((((((hk.alloc _).alloc _).alloc _).alloc _).alloc _).alloc _)) hn)
    | (go_at_call 13; refine (modeAll_lies _).mono ?_; rintro e w1 ⟨g, cap, rfl, hl, hn⟩; replace hk := Kept.trans (by first | exact hk | exact (hk.alloc _) | exact ((hk.alloc _).alloc _) | exact (((hk.alloc _).alloc _).alloc _) | exact ((((hk.alloc _).alloc _).alloc _).alloc _) | exact (((((hk.alloc _).alloc _).alloc _).alloc _).alloc _) | exact ((((((hk.alloc _).alloc _).alloc _).alloc _).alloc _).alloc _)) hn; have hm := modes6_of hl; obtain ⟨hg, c0, c1, c2, c3, c4, c5, c6, c7, c8, c9, c10, c11⟩ := hm)
    | fail)
  simp only [hi]
  clear hi
  obtain ⟨wo, hwo⟩ : ∃ wo : World, Kept w wo ∧ Boxed (wo.alloc (.cells #[.int .i64 0, .int .i64 1] 23)) wo.heap.size [.int .i64 0, .int .i64 1] ∧ wo = w1 := ⟨w1, hk, Boxed.new _ _ _, rfl⟩
  obtain ⟨hko, hb, rfl⟩ := hwo
  go_loopw [5] (fun n wx => ∃ k : Nat, k ≤ 4 ∧ n = .int .i64 k ∧ Kept w wx ∧ Boxed wx wo.heap.size [.int .i64 0, .int .i64 1]) (fun n _ => 4 - (intOf n).toNat)
  case atStart => exact ⟨0, Nat.zero_le _, rfl, hko.alloc _, hb⟩
  case round =>
    clear hk hb hn hl hg c0 c1 c2 c3 c4 c5 c6 c7 c8 c9 c10 c11
    obtain ⟨k, hk4, rfl, hk, hb⟩ := hrel
    have hb_l := hb.lt
    have hb_0 := hb.cell 0 _ rfl
    have hb_1 := hb.cell 1 _ rfl
    rcases (by omega : k = 0 ∨ k = 1 ∨ k = 2 ∨ k = 3 ∨ k = 4) with rfl | rfl | rfl | rfl | rfl
    case inr.inr.inr.inr =>
      go_wp2
      go_ret
      exact ⟨rfl, hk⟩
    all_goals
      go_wp2_with (first
        | (go_at_call 9; refine (modeEdge_any _ _ _ _ (ht.kept (by first | exact hk | exact (hk.alloc _) | exact ((hk.alloc _).alloc _) | exact (((hk.alloc _).alloc _).alloc _) | exact ((((hk.alloc _).alloc _).alloc _).alloc _) | exact (((((hk.alloc _).alloc _).alloc _).alloc _).alloc _) | exact ((((((hk.alloc _).alloc _).alloc _).alloc _).alloc _).alloc _)))).mono ?_; rintro e w1 ⟨rfl, hn⟩; replace hk := Kept.trans (by first | exact hk | exact (hk.alloc _) | exact ((hk.alloc _).alloc _) | exact (((hk.alloc _).alloc _).alloc _) | exact ((((hk.alloc _).alloc _).alloc _).alloc _) | exact (((((hk.alloc _).alloc _).alloc _).alloc _).alloc _) | exact ((((((hk.alloc _).alloc _).alloc _).alloc _).alloc _).alloc _)) hn; replace hb := Boxed.kept (by first | exact hb | exact (hb.alloc _) | exact ((hb.alloc _).alloc _) | exact (((hb.alloc _).alloc _).alloc _) | exact ((((hb.alloc _).alloc _).alloc _).alloc _) | exact (((((hb.alloc _).alloc _).alloc _).alloc _).alloc _) | exact ((((((hb.alloc _).alloc _).alloc _).alloc _).alloc _).alloc _)) hn; have hb_l := hb.lt; have hb_0 := hb.cell 0 _ rfl; have hb_1 := hb.cell 1 _ rfl)
        | (go_at_call 11; refine (modeSide_any _ _ _ _ (ht.kept (by first | exact hk | exact (hk.alloc _) | exact ((hk.alloc _).alloc _) | exact (((hk.alloc _).alloc _).alloc _) | exact ((((hk.alloc _).alloc _).alloc _).alloc _) | exact (((((hk.alloc _).alloc _).alloc _).alloc _).alloc _) | exact ((((((hk.alloc _).alloc _).alloc _).alloc _).alloc _).alloc _)))).mono ?_; rintro e w1 ⟨rfl, hn⟩; replace hk := Kept.trans (by first | exact hk | exact (hk.alloc _) | exact ((hk.alloc _).alloc _) | exact (((hk.alloc _).alloc _).alloc _) | exact ((((hk.alloc _).alloc _).alloc _).alloc _) | exact (((((hk.alloc _).alloc _).alloc _).alloc _).alloc _) | exact ((((((hk.alloc _).alloc _).alloc _).alloc _).alloc _).alloc _)) hn; replace hb := Boxed.kept (by first | exact hb | exact (hb.alloc _) | exact ((hb.alloc _).alloc _) | exact (((hb.alloc _).alloc _).alloc _) | exact ((((hb.alloc _).alloc _).alloc _).alloc _) | exact (((((hb.alloc _).alloc _).alloc _).alloc _).alloc _) | exact ((((((hb.alloc _).alloc _).alloc _).alloc _).alloc _).alloc _)) hn; have hb_l := hb.lt; have hb_0 := hb.cell 0 _ rfl; have hb_1 := hb.cell 1 _ rfl)
        | (go_at_call 17; refine (modeVertical_any _ _ _).mono ?_; rintro e w1 ⟨rfl, hn⟩; replace hk := Kept.trans (by first | exact hk | exact (hk.alloc _) | exact ((hk.alloc _).alloc _) | exact (((hk.alloc _).alloc _).alloc _) | exact ((((hk.alloc _).alloc _).alloc _).alloc _) | exact (((((hk.alloc _).alloc _).alloc _).alloc _).alloc _) | exact ((((((hk.alloc _).alloc _).alloc _).alloc _).alloc _).alloc _)) hn; replace hb := Boxed.kept (by first | exact hb | exact (hb.alloc _) | exact ((hb.alloc _).alloc _) | exact (((hb.alloc _).alloc _).alloc _) | exact ((((hb.alloc _).alloc _).alloc _).alloc _) | exact (((((hb.alloc _).alloc _).alloc _).alloc _).alloc _) | exact ((((((hb.alloc _).alloc _).alloc _).alloc _).alloc _).alloc _)) hn; have hb_l := hb.lt; have hb_0 := hb.cell 0 _ rfl; have hb_1 := hb.cell 1 _ rfl)
        | (go_at_call 14; refine (num_any _ _).mono ?_; rintro e w1 ⟨rfl, rfl⟩)
        | fail)
      go_roundw
      case rel => first | exact ⟨1, by omega, rfl, hk, hb⟩ | exact ⟨2, by omega, rfl, hk, hb⟩ | exact ⟨3, by omega, rfl, hk, hb⟩ | exact ⟨4, by omega, rfl, hk, hb⟩
      case measure => simp [intOf]
set_option maxHeartbeats 4000000 in
theorem modeSides_2 (a : Int) (hi : wrap64 ((IntKind.u64.wrap a).tmod 6) = 2) (w : World) (ht : Tab w) :
    Calls Tryd.prog 4 #[.int .i64 a] w fun e w' => e = .returned (.bool true) ∧ Kept w w' := by
  have e0 : edgeS 1 0 0 = (0, 0) := by decide
  have e1 : edgeS 1 0 1 = (2, 0) := by decide
  have e2 : edgeS 1 0 2 = (1, 0) := by decide
  have e3 : edgeS 1 0 3 = (3, 0) := by decide
  have s0 : sideS 1 0 0 = (0, 0) := by decide
  have s1 : sideS 1 0 2 = (1, 0) := by decide
  have s2 : sideS 1 0 1 = (2, 0) := by decide
  have s3 : sideS 1 0 3 = (3, 0) := by decide
  have x0 : bits .xor .i64 0 1 = 1 := by decide
  have x1 : bits .xor .i64 1 1 = 0 := by decide
  have x2 : bits .xor .i64 2 1 = 3 := by decide
  have x3 : bits .xor .i64 3 1 = 2 := by decide
  have v0 : vertB 1 0 = true := by decide
  have hk : Kept w w := Kept.refl w
  go_enter Tryd.func4, Tryd.ntmps4
  go_wp2_with (first
    | (go_at_call 22; refine (awake2_any _ (ht.kept (by first | exact hk | exact (hk.alloc _) | exact ((hk.alloc _).alloc _) | exact (((hk.alloc _).alloc _).alloc _) | exact ((((hk.alloc _).alloc _).alloc _).alloc _) | exact (((((hk.alloc _).alloc _).alloc _).alloc _).alloc _) | exact ((((((hk.alloc _).alloc _).alloc _).alloc _).alloc _).alloc _)))).mono ?_; rintro e w1 ⟨rfl, hn⟩; replace hk := Kept.trans (by first | exact hk | exact (hk.alloc _) | exact ((hk.alloc _).alloc _) | exact (((hk.alloc _).alloc _).alloc _) | exact ((((hk.alloc _).alloc _).alloc _).alloc _) | exact (((((hk.alloc _).alloc _).alloc _).alloc _).alloc _) | exact ((((((hk.alloc _).alloc _).alloc _).alloc _).alloc _).alloc _)) hn)
    | (go_at_call 13; refine (modeAll_lies _).mono ?_; rintro e w1 ⟨g, cap, rfl, hl, hn⟩; replace hk := Kept.trans (by first | exact hk | exact (hk.alloc _) | exact ((hk.alloc _).alloc _) | exact (((hk.alloc _).alloc _).alloc _) | exact ((((hk.alloc _).alloc _).alloc _).alloc _) | exact (((((hk.alloc _).alloc _).alloc _).alloc _).alloc _) | exact ((((((hk.alloc _).alloc _).alloc _).alloc _).alloc _).alloc _)) hn; have hm := modes6_of hl; obtain ⟨hg, c0, c1, c2, c3, c4, c5, c6, c7, c8, c9, c10, c11⟩ := hm)
    | fail)
  simp only [hi]
  clear hi
  obtain ⟨wo, hwo⟩ : ∃ wo : World, Kept w wo ∧ Boxed (wo.alloc (.cells #[.int .i64 1, .int .i64 0] 23)) wo.heap.size [.int .i64 1, .int .i64 0] ∧ wo = w1 := ⟨w1, hk, Boxed.new _ _ _, rfl⟩
  obtain ⟨hko, hb, rfl⟩ := hwo
  go_loopw [5] (fun n wx => ∃ k : Nat, k ≤ 4 ∧ n = .int .i64 k ∧ Kept w wx ∧ Boxed wx wo.heap.size [.int .i64 1, .int .i64 0]) (fun n _ => 4 - (intOf n).toNat)
  case atStart => exact ⟨0, Nat.zero_le _, rfl, hko.alloc _, hb⟩
  case round =>
    clear hk hb hn hl hg c0 c1 c2 c3 c4 c5 c6 c7 c8 c9 c10 c11
    obtain ⟨k, hk4, rfl, hk, hb⟩ := hrel
    have hb_l := hb.lt
    have hb_0 := hb.cell 0 _ rfl
    have hb_1 := hb.cell 1 _ rfl
    rcases (by omega : k = 0 ∨ k = 1 ∨ k = 2 ∨ k = 3 ∨ k = 4) with rfl | rfl | rfl | rfl | rfl
    case inr.inr.inr.inr =>
      go_wp2
      go_ret
      exact ⟨rfl, hk⟩
    all_goals
      go_wp2_with (first
        | (go_at_call 9; refine (modeEdge_any _ _ _ _ (ht.kept (by first | exact hk | exact (hk.alloc _) | exact ((hk.alloc _).alloc _) | exact (((hk.alloc _).alloc _).alloc _) | exact ((((hk.alloc _).alloc _).alloc _).alloc _) | exact (((((hk.alloc _).alloc _).alloc _).alloc _).alloc _) | exact ((((((hk.alloc _).alloc _).alloc _).alloc _).alloc _).alloc _)))).mono ?_; rintro e w1 ⟨rfl, hn⟩; replace hk := Kept.trans (by first | exact hk | exact (hk.alloc _) | exact ((hk.alloc _).alloc _) | exact (((hk.alloc _).alloc _).alloc _) | exact ((((hk.alloc _).alloc _).alloc _).alloc _) | exact (((((hk.alloc _).alloc _).alloc _).alloc _).alloc _) | exact ((((((hk.alloc _).alloc _).alloc _).alloc _).alloc _).alloc _)) hn; replace hb := Boxed.kept (by first | exact hb | exact (hb.alloc _) | exact ((hb.alloc _).alloc _) | exact (((hb.alloc _).alloc _).alloc _) | exact ((((hb.alloc _).alloc _).alloc _).alloc _) | exact (((((hb.alloc _).alloc _).alloc _).alloc _).alloc _) | exact ((((((hb.alloc _).alloc _).alloc _).alloc _).alloc _).alloc _)) hn; have hb_l := hb.lt; have hb_0 := hb.cell 0 _ rfl; have hb_1 := hb.cell 1 _ rfl)
        | (go_at_call 11; refine (modeSide_any _ _ _ _ (ht.kept (by first | exact hk | exact (hk.alloc _) | exact ((hk.alloc _).alloc _) | exact (((hk.alloc _).alloc _).alloc _) | exact ((((hk.alloc _).alloc _).alloc _).alloc _) | exact (((((hk.alloc _).alloc _).alloc _).alloc _).alloc _) | exact ((((((hk.alloc _).alloc _).alloc _).alloc _).alloc _).alloc _)))).mono ?_; rintro e w1 ⟨rfl, hn⟩; replace hk := Kept.trans (by first | exact hk | exact (hk.alloc _) | exact ((hk.alloc _).alloc _) | exact (((hk.alloc _).alloc _).alloc _) | exact ((((hk.alloc _).alloc _).alloc _).alloc _) | exact (((((hk.alloc _).alloc _).alloc _).alloc _).alloc _) | exact ((((((hk.alloc _).alloc _).alloc _).alloc _).alloc _).alloc _)) hn; replace hb := Boxed.kept (by first | exact hb | exact (hb.alloc _) | exact ((hb.alloc _).alloc _) | exact (((hb.alloc _).alloc _).alloc _) | exact ((((hb.alloc _).alloc _).alloc _).alloc _) | exact (((((hb.alloc _).alloc _).alloc _).alloc _).alloc _) | exact ((((((hb.alloc _).alloc _).alloc _).alloc _).alloc _).alloc _)) hn; have hb_l := hb.lt; have hb_0 := hb.cell 0 _ rfl; have hb_1 := hb.cell 1 _ rfl)
        | (go_at_call 17; refine (modeVertical_any _ _ _).mono ?_; rintro e w1 ⟨rfl, hn⟩; replace hk := Kept.trans (by first | exact hk | exact (hk.alloc _) | exact ((hk.alloc _).alloc _) | exact (((hk.alloc _).alloc _).alloc _) | exact ((((hk.alloc _).alloc _).alloc _).alloc _) | exact (((((hk.alloc _).alloc _).alloc _).alloc _).alloc _) | exact ((((((hk.alloc _).alloc _).alloc _).alloc _).alloc _).alloc _)) hn; replace hb := Boxed.kept (by first | exact hb | exact (hb.alloc _) | exact ((hb.alloc _).alloc _) | exact (((hb.alloc _).alloc _).alloc _) | exact ((((hb.alloc _).alloc _).alloc _).alloc _) | exact (((((hb.alloc _).alloc _).alloc _).alloc _).alloc _) | exact ((((((hb.alloc _).alloc _).alloc _).alloc _).alloc _).alloc _)) hn; have hb_l := hb.lt; have hb_0 := hb.cell 0 _ rfl; have hb_1 := hb.cell 1 _ rfl)
        | (go_at_call 14; refine (num_any _ _).mono ?_; rintro e w1 ⟨rfl, rfl⟩)
        | fail)
      go_roundw
      case rel => first | exact ⟨1, by omega, rfl, hk, hb⟩ | exact ⟨2, by omega, rfl, hk, hb⟩ | exact ⟨3, by omega, rfl, hk, hb⟩ | exact ⟨4, by omega, rfl, hk, hb⟩
      case measure => simp [intOf]
set_option maxHeartbeats 4000000 in
theorem modeSides_3 (a : Int) (hi : wrap64 ((IntKind.u64.wrap a).tmod 6) = 3) (w : World) (ht : Tab w) :
    Calls Tryd.prog 4 #[.int .i64 a] w fun e w' => e = .returned (.bool true) ∧ Kept w w' := by
  have e0 : edgeS 1 1 0 = (2, 0) := by decide
  have e1 : edgeS 1 1 1 = (0, 0) := by decide
  have e2 : edgeS 1 1 2 = (1, 0) := by decide
  have e3 : edgeS 1 1 3 = (3, 0) := by decide
  have s0 : sideS 1 1 2 = (0, 0) := by decide
  have s1 : sideS 1 1 0 = (1, 0) := by decide
  have s2 : sideS 1 1 1 = (2, 0) := by decide
  have s3 : sideS 1 1 3 = (3, 0) := by decide
  have x0 : bits .xor .i64 0 1 = 1 := by decide
  have x1 : bits .xor .i64 1 1 = 0 := by decide
  have x2 : bits .xor .i64 2 1 = 3 := by decide
  have x3 : bits .xor .i64 3 1 = 2 := by decide
  have v0 : vertB 1 1 = true := by decide
  have hk : Kept w w := Kept.refl w
  go_enter Tryd.func4, Tryd.ntmps4
  go_wp2_with (first
    | (go_at_call 22; refine (awake2_any _ (ht.kept (by first | exact hk | exact (hk.alloc _) | exact ((hk.alloc _).alloc _) | exact (((hk.alloc _).alloc _).alloc _) | exact ((((hk.alloc _).alloc _).alloc _).alloc _) | exact (((((hk.alloc _).alloc _).alloc _).alloc _).alloc _) | exact ((((((hk.alloc _).alloc _).alloc _).alloc _).alloc _).alloc _)))).mono ?_; rintro e w1 ⟨rfl, hn⟩; replace hk := Kept.trans (by first | exact hk | exact (hk.alloc _) | exact ((hk.alloc _).alloc _) | exact (((hk.alloc _).alloc _).alloc _) | exact ((((hk.alloc _).alloc _).alloc _).alloc _) | exact (((((hk.alloc _).alloc _).alloc _).alloc _).alloc _) | exact ((((((hk.alloc _).alloc _).alloc _).alloc _).alloc _).alloc _)) hn)
    | (go_at_call 13; refine (modeAll_lies _).mono ?_; rintro e w1 ⟨g, cap, rfl, hl, hn⟩; replace hk := Kept.trans (by first | exact hk | exact (hk.alloc _) | exact ((hk.alloc _).alloc _) | exact (((hk.alloc _).alloc _).alloc _) | exact ((((hk.alloc _).alloc _).alloc _).alloc _) | exact (((((hk.alloc _).alloc _).alloc _).alloc _).alloc _) | exact ((((((hk.alloc _).alloc _).alloc _).alloc _).alloc _).alloc _)) hn; have hm := modes6_of hl; obtain ⟨hg, c0, c1, c2, c3, c4, c5, c6, c7, c8, c9, c10, c11⟩ := hm)
    | fail)
  simp only [hi]
  clear hi
  obtain ⟨wo, hwo⟩ : ∃ wo : World, Kept w wo ∧ Boxed (wo.alloc (.cells #[.int .i64 1, .int .i64 1] 23)) wo.heap.size [.int .i64 1, .int .i64 1] ∧ wo = w1 := ⟨w1, hk, Boxed.new _ _ _, rfl⟩
  obtain ⟨hko, hb, rfl⟩ := hwo
  go_loopw [5] (fun n wx => ∃ k : Nat, k ≤ 4 ∧ n = .int .i64 k ∧ Kept w wx ∧ Boxed wx wo.heap.size [.int .i64 1, .int .i64 1]) (fun n _ => 4 - (intOf n).toNat)
  case atStart => exact ⟨0, Nat.zero_le _, rfl, hko.alloc _, hb⟩
  case round =>
    clear hk hb hn hl hg c0 c1 c2 c3 c4 c5 c6 c7 c8 c9 c10 c11
    obtain ⟨k, hk4, rfl, hk, hb⟩ := hrel
    have hb_l := hb.lt
    have hb_0 := hb.cell 0 _ rfl
    have hb_1 := hb.cell 1 _ rfl
    rcases (by omega : k = 0 ∨ k = 1 ∨ k = 2 ∨ k = 3 ∨ k = 4) with rfl | rfl | rfl | rfl | rfl
    case inr.inr.inr.inr =>
      go_wp2
      go_ret
      exact ⟨rfl, hk⟩
    all_goals
      go_wp2_with (first
        | (go_at_call 9; refine (modeEdge_any _ _ _ _ (ht.kept (by first | exact hk | exact (hk.alloc _) | exact ((hk.alloc _).alloc _) | exact (((hk.alloc _).alloc _).alloc _) | exact ((((hk.alloc _).alloc _).alloc _).alloc _) | exact (((((hk.alloc _).alloc _).alloc _).alloc _).alloc _) | exact ((((((hk.alloc _).alloc _).alloc _).alloc _).alloc _).alloc _)))).mono ?_; rintro e w1 ⟨rfl, hn⟩; replace hk := Kept.trans (by first | exact hk | exact (hk.alloc _) | exact ((hk.alloc _).alloc _) | exact (((hk.alloc _).alloc _).alloc _) | exact ((((hk.alloc _).alloc _).alloc _).alloc _) | exact (((((hk.alloc _).alloc _).alloc _).alloc _).alloc _) | exact ((((((hk.alloc _).alloc _).alloc _).alloc _).alloc _).alloc _)) hn; replace hb := Boxed.kept (by first | exact hb | exact (hb.alloc _) | exact ((hb.alloc _).alloc _) | exact (((hb.alloc _).alloc _).alloc _) | exact ((((hb.alloc _).alloc _).alloc _).alloc _) | exact (((((hb.alloc _).alloc _).alloc _).alloc _).alloc _) | exact ((((((hb.alloc _).alloc _).alloc _).alloc _).alloc _).alloc _)) hn; have hb_l := hb.lt; have hb_0 := hb.cell 0 _ rfl; have hb_1 := hb.cell 1 _ rfl)
        | (go_at_call 11; refine (modeSide_any _ _ _ _ (ht.kept (by first | exact hk | exact (hk.alloc _) | exact ((hk.alloc _).alloc _) | exact (((hk.alloc _).alloc _).alloc _) | exact ((((hk.alloc _).alloc _).alloc _).alloc _) | exact (((((hk.alloc _).alloc _).alloc _).alloc _).alloc _) | exact ((((((hk.alloc _).alloc _).alloc _).alloc _).alloc _).alloc _)))).mono ?_; rintro e w1 ⟨rfl, hn⟩; replace hk := Kept.trans (by first | exact hk | exact (hk.alloc _) | exact ((hk.alloc _).alloc _) | exact (((hk.alloc _).alloc _).alloc _) | exact ((((hk.alloc _).alloc _).alloc _).alloc _) | exact (((((hk.alloc _).alloc _).alloc _).alloc _).alloc _) | exact ((((((hk.alloc _).alloc _).alloc _).alloc _).alloc _).alloc _)) hn; replace hb := Boxed.kept (by first | exact hb | exact (hb.alloc _) | exact ((hb.alloc _).alloc _) | exact (((hb.alloc _).alloc _).alloc _) | exact ((((hb.alloc _).alloc _).alloc _).alloc _) | exact (((((hb.alloc _).alloc _).alloc _).alloc _).alloc _) | exact ((((((hb.alloc _).alloc _).alloc _).alloc _).alloc _).alloc _)) hn; have hb_l := hb.lt; have hb_0 := hb.cell 0 _ rfl; have hb_1 := hb.cell 1 _ rfl)
        | (go_at_call 17; refine (modeVertical_any _ _ _).mono ?_; rintro e w1 ⟨rfl, hn⟩; replace hk := Kept.trans (by first | exact hk | exact (hk.alloc _) | exact ((hk.alloc _).alloc _) | exact (((hk.alloc _).alloc _).alloc _) | exact ((((hk.alloc _).alloc _).alloc _).alloc _) | exact (((((hk.alloc _).alloc _).alloc _).alloc _).alloc _) | exact ((((((hk.alloc _).alloc _).alloc _).alloc _).alloc _).alloc _)) hn; replace hb := Boxed.kept (by first | exact hb | exact (hb.alloc _) | exact ((hb.alloc _).alloc _) | exact (((hb.alloc _).alloc _).alloc _) | exact ((((hb.alloc _).alloc _).alloc _).alloc _) | exact (((((hb.alloc _).alloc _).alloc _).alloc _).alloc _) | exact ((((((hb.alloc _).alloc _).alloc _).alloc _).alloc _).alloc _)) hn; have hb_l := hb.lt; have hb_0 := hb.cell 0 _ rfl; have hb_1 := hb.cell 1 _ rfl)
        | (go_at_call 14; refine (num_any _ _).mono ?_; rintro e w1 ⟨rfl, rfl⟩)
        | fail)
      go_roundw
      case rel => first | exact ⟨1, by omega, rfl, hk, hb⟩ | exact ⟨2, by omega, rfl, hk, hb⟩ | exact ⟨3, by omega, rfl, hk, hb⟩ | exact ⟨4, by omega, rfl, hk, hb⟩
      case measure => simp [intOf]
set_option maxHeartbeats 4000000 in
theorem modeSides_4 (a : Int) (hi : wrap64 ((IntKind.u64.wrap a).tmod 6) = 4) (w : World) (ht : Tab w) :
    Calls Tryd.prog 4 #[.int .i64 a] w fun e w' => e = .returned (.bool true) ∧ Kept w w' := by
  have e0 : edgeS 2 0 0 = (0, 0) := by decide
  have e1 : edgeS 2 0 1 = (2, 0) := by decide
  have e2 : edgeS 2 0 2 = (3, 0) := by decide
  have e3 : edgeS 2 0 3 = (1, 0) := by decide
  have s0 : sideS 2 0 0 = (0, 0) := by decide
  have s1 : sideS 2 0 2 = (1, 0) := by decide
  have s2 : sideS 2 0 3 = (2, 0) := by decide
  have s3 : sideS 2 0 1 = (3, 0) := by decide
  have x0 : bits .xor .i64 0 1 = 1 := by decide
  have x1 : bits .xor .i64 1 1 = 0 := by decide
  have x2 : bits .xor .i64 2 1 = 3 := by decide
  have x3 : bits .xor .i64 3 1 = 2 := by decide
  have v0 : vertB 2 0 = true := by decide
  have hk : Kept w w := Kept.refl w
  go_enter Tryd.func4, Tryd.ntmps4
  go_wp2_with (first
    | (go_at_call 22; refine (awake2_any _ (ht.kept (by first | exact hk | exact (hk.alloc _) | exact ((hk.alloc _).alloc _) | exact (((hk.alloc _).alloc _).alloc _) | exact ((((hk.alloc _).alloc _).alloc _).alloc _) | exact (((((hk.alloc _).alloc _).alloc _).alloc _).alloc _) | exact ((((((hk.alloc _).alloc _).alloc _).alloc _).alloc _).alloc _)))).mono ?_; rintro e w1 ⟨rfl, hn⟩; replace hk := Kept.trans (by first | exact hk | exact (hk.alloc _) | exact ((hk.alloc _).alloc _) | exact (((hk.alloc _).alloc _).alloc _) | exact ((((hk.alloc _).alloc _).alloc _).alloc _) | exact (((((hk.alloc _).alloc _).alloc _).alloc _).alloc _) | exact ((((((hk.alloc _).alloc _).alloc _).alloc _).alloc _).alloc _)) hn)
    | (go_at_call 13; refine (modeAll_lies _).mono ?_; rintro e w1 ⟨g, cap, rfl, hl, hn⟩; replace hk := Kept.trans (by first | exact hk | exact (hk.alloc _) | exact ((hk.alloc _).alloc _) | exact (((hk.alloc _).alloc _).alloc _) | exact ((((hk.alloc _).alloc _).alloc _).alloc _) | exact (((((hk.alloc _).alloc _).alloc _).alloc _).alloc _) | exact ((((((hk.alloc _).alloc _).alloc _).alloc _).alloc _).alloc _)) hn; have hm := modes6_of hl; obtain ⟨hg, c0, c1, c2, c3, c4, c5, c6, c7, c8, c9, c10, c11⟩ := hm)
    | fail)
  simp only [hi]
  clear hi
  obtain ⟨wo, hwo⟩ : ∃ wo : World, Kept w wo ∧ Boxed (wo.alloc (.cells #[.int .i64 2, .int .i64 0] 23)) wo.heap.size [.int .i64 2, .int .i64 0] ∧ wo = w1 := ⟨w1, hk, Boxed.new _ _ _, rfl⟩
  obtain ⟨hko, hb, rfl⟩ := hwo
  go_loopw [5] (fun n wx => ∃ k : Nat, k ≤ 4 ∧ n = .int .i64 k ∧ Kept w wx ∧ Boxed wx wo.heap.size [.int .i64 2, .int .i64 0]) (fun n _ => 4 - (intOf n).toNat)
  case atStart => exact ⟨0, Nat.zero_le _, rfl, hko.alloc _, hb⟩
  case round =>
    clear hk hb hn hl hg c0 c1 c2 c3 c4 c5 c6 c7 c8 c9 c10 c11
    obtain ⟨k, hk4, rfl, hk, hb⟩ := hrel
    have hb_l := hb.lt
    have hb_0 := hb.cell 0 _ rfl
    have hb_1 := hb.cell 1 _ rfl
    rcases (by omega : k = 0 ∨ k = 1 ∨ k = 2 ∨ k = 3 ∨ k = 4) with rfl | rfl | rfl | rfl | rfl
    case inr.inr.inr.inr =>
      go_wp2
      go_ret
      exact ⟨rfl, hk⟩
    all_goals
      go_wp2_with (first
        | (go_at_call 9; refine (modeEdge_any _ _ _ _ (ht.kept (by first | exact hk | exact (hk.alloc _) | exact ((hk.alloc _).alloc _) | exact (((hk.alloc _).alloc _).alloc _) | exact ((((hk.alloc _).alloc _).alloc _).alloc _) | exact (((((hk.alloc _).alloc _).alloc _).alloc _).alloc _) | exact ((((((hk.alloc _).alloc _).alloc _).alloc _).alloc _).alloc _)))).mono ?_; rintro e w1 ⟨rfl, hn⟩; replace hk := Kept.trans (by first | exact hk | exact (hk.alloc _) | exact ((hk.alloc _).alloc _) | exact (((hk.alloc _).alloc _).alloc _) | exact ((((hk.alloc _).alloc _).alloc _).alloc _) | exact (((((hk.alloc _).alloc _).alloc _).alloc _).alloc _) | exact ((((((hk.alloc _).alloc _).alloc _).alloc _).alloc _).alloc _)) hn; replace hb := Boxed.kept (by first | exact hb | exact (hb.alloc _) | exact ((hb.alloc _).alloc _) | exact (((hb.alloc _).alloc _).alloc _) | exact ((((hb.alloc _).alloc _).alloc _).alloc _) | exact (((((hb.alloc _).alloc _).alloc _).alloc _).alloc _) | exact ((((((hb.alloc _).alloc _).alloc _).alloc _).alloc _).alloc _)) hn; have hb_l := hb.lt; have hb_0 := hb.cell 0 _ rfl; have hb_1 := hb.cell 1 _ rfl)
        | (go_at_call 11; refine (modeSide_any _ _ _ _ (ht.kept (by first | exact hk | exact (hk.alloc _) | exact ((hk.alloc _).alloc _) | exact (((hk.alloc _).alloc _).alloc _) | exact ((((hk.alloc _).alloc _).alloc _).alloc _) | exact (((((hk.alloc _).alloc _).alloc _).alloc _).alloc _) | exact ((((((hk.alloc _).alloc _).alloc _).alloc _).alloc _).alloc _)))).mono ?_; rintro e w1 ⟨rfl, hn⟩; replace hk := Kept.trans (by first | exact hk | exact (hk.alloc _) | exact ((hk.alloc _).alloc _) | exact (((hk.alloc _).alloc _).alloc _) | exact ((((hk.alloc _).alloc _).alloc _).alloc _) | exact (((((hk.alloc _).alloc _).alloc _).alloc _).alloc _) | exact ((((((hk.alloc _).alloc _).alloc _).alloc _).alloc _).alloc _)) hn; replace hb := Boxed.kept (by first | exact hb | exact (hb.alloc _) | exact ((hb.alloc _).alloc _) | exact (((hb.alloc _).alloc _).alloc _) | exact ((((hb.alloc _).alloc _).alloc _).alloc _) | exact (((((hb.alloc _).alloc _).alloc _).alloc _).alloc _) | exact ((((((hb.alloc _).alloc _).alloc _).alloc _).alloc _).alloc _)) hn; have hb_l := hb.lt; have hb_0 := hb.cell 0 _ rfl; have hb_1 := hb.cell 1 _ rfl)
        | (go_at_call 17; refine (modeVertical_any _ _ _).mono ?_; rintro e w1 ⟨rfl, hn⟩; replace hk := Kept.trans (by first | exact hk | exact (hk.alloc _) | exact ((hk.alloc _).alloc _) | exact (((hk.alloc _).alloc _).alloc _) | exact ((((hk.alloc _).alloc _).alloc _).alloc _) | exact (((((hk.alloc _).alloc _).alloc _).alloc _).alloc _) | exact ((((((hk.alloc _).alloc _).alloc _).alloc _).alloc _).alloc _)) hn; replace hb := Boxed.kept (by first | exact hb | exact (hb.alloc _) | exact ((hb.alloc _).alloc _) | exact (((hb.alloc _).alloc _).alloc _) | exact ((((hb.alloc _).alloc _).alloc _).alloc _) | exact (((((hb.alloc _).alloc _).alloc _).alloc _).alloc _) | exact ((((((hb.alloc _).alloc _).alloc _).alloc _).alloc _).alloc _)) hn; have hb_l := hb.lt; have hb_0 := hb.cell 0 _ rfl; have hb_1 := hb.cell 1 _ rfl)
        | (go_at_call 14; refine (num_any _ _).mono ?_; rintro e w1 ⟨rfl, rfl⟩)
        | fail)
      go_roundw
      case rel => first | exact ⟨1, by omega, rfl, hk, hb⟩ | exact ⟨2, by omega, rfl, hk, hb⟩ | exact ⟨3, by omega, rfl, hk, hb⟩ | exact ⟨4, by omega, rfl, hk, hb⟩
      case measure => simp [intOf]
set_option maxHeartbeats 4000000 in
theorem modeSides_5 (a : Int) (hi : wrap64 ((IntKind.u64.wrap a).tmod 6) = 5) (w : World) (ht : Tab w) :
    Calls Tryd.prog 4 #[.int .i64 a] w fun e w' => e = .returned (.bool true) ∧ Kept w w' := by
  have e0 : edgeS 2 1 0 = (2, 0) := by decide
  have e1 : edgeS 2 1 1 = (0, 0) := by decide
  have e2 : edgeS 2 1 2 = (3, 0) := by decide
  have e3 : edgeS 2 1 3 = (1, 0) := by decide
  have s0 : sideS 2 1 2 = (0, 0) := by decide
  have s1 : sideS 2 1 0 = (1, 0) := by decide
  have s2 : sideS 2 1 3 = (2, 0) := by decide
  have s3 : sideS 2 1 1 = (3, 0) := by decide
  have x0 : bits .xor .i64 0 1 = 1 := by decide
  have x1 : bits .xor .i64 1 1 = 0 := by decide
  have x2 : bits .xor .i64 2 1 = 3 := by decide
  have x3 : bits .xor .i64 3 1 = 2 := by decide
  have v0 : vertB 2 1 = true := by decide
  have hk : Kept w w := Kept.refl w
  go_enter Tryd.func4, Tryd.ntmps4
  go_wp2_with (first
    | (go_at_call 22; refine (awake2_any _ (ht.kept (by first | exact hk | exact (hk.alloc _) | exact ((hk.alloc _).alloc _) | exact (((hk.alloc _).alloc _).alloc _) | exact ((((hk.alloc _).alloc _).alloc _).alloc _) | exact (((((hk.alloc _).alloc _).alloc _).alloc _).alloc _) | exact ((((((hk.alloc _).alloc _).alloc _).alloc _).alloc _).alloc _)))).mono ?_; rintro e w1 ⟨rfl, hn⟩; replace hk := Kept.trans (by first | exact hk | exact (hk.alloc _) | exact ((hk.alloc _).alloc _) | exact (((hk.alloc _).alloc _).alloc _) | exact ((((hk.alloc _).alloc _).alloc _).alloc _) | exact (((((hk.alloc _).alloc _).alloc _).alloc _).alloc _) | exact ((((((hk.alloc _).alloc _).alloc _).alloc _).alloc _).alloc _)) hn)
    | (go_at_call 13; refine (modeAll_lies _).mono ?_; rintro e w1 ⟨g, cap, rfl, hl, hn⟩; replace hk := Kept.trans (by first | exact hk | exact (hk.alloc _) | exact ((hk.alloc _).alloc _) | exact (((hk.alloc _).alloc _).alloc _) | exact ((((hk.alloc _).alloc _).alloc _).alloc _) | exact (((((hk.alloc _).alloc _).alloc _).alloc _).alloc _) | exact ((((((hk.alloc _).alloc _).alloc _).alloc _).alloc _).alloc _)) hn; have hm := modes6_of hl; obtain ⟨hg, c0, c1, c2, c3, c4, c5, c6, c7, c8, c9, c10, c11⟩ := hm)
    | fail)
  simp only [hi]
  clear hi
  obtain ⟨wo, hwo⟩ : ∃ wo : World, Kept w wo ∧ Boxed (wo.alloc (.cells #[.int .i64 2, .int .i64 1] 23)) wo.heap.size [.int .i64 2, .int .i64 1] ∧ wo = w1 := ⟨w1, hk, Boxed.new _ _ _, rfl⟩
  obtain ⟨hko, hb, rfl⟩ := hwo
  go_loopw [5] (fun n wx => ∃ k : Nat, k ≤ 4 ∧ n = .int .i64 k ∧ Kept w wx ∧ Boxed wx wo.heap.size [.int .i64 2, .int .i64 1]) (fun n _ => 4 - (intOf n).toNat)
  case atStart => exact ⟨0, Nat.zero_le _, rfl, hko.alloc _, hb⟩
  case round =>
    clear hk hb hn hl hg c0 c1 c2 c3 c4 c5 c6 c7 c8 c9 c10 c11
    obtain ⟨k, hk4, rfl, hk, hb⟩ := hrel
    have hb_l := hb.lt
    have hb_0 := hb.cell 0 _ rfl
    have hb_1 := hb.cell 1 _ rfl
    rcases (by omega : k = 0 ∨ k = 1 ∨ k = 2 ∨ k = 3 ∨ k = 4) with rfl | rfl | rfl | rfl | rfl
    case inr.inr.inr.inr =>
      go_wp2
      go_ret
      exact ⟨rfl, hk⟩
    all_goals
      go_wp2_with (first
        | (go_at_call 9; refine (modeEdge_any _ _ _ _ (ht.kept (by first | exact hk | exact (hk.alloc _) | exact ((hk.alloc _).alloc _) | exact (((hk.alloc _).alloc _).alloc _) | exact ((((hk.alloc _).alloc _).alloc _).alloc _) | exact (((((hk.alloc _).alloc _).alloc _).alloc _).alloc _) | exact ((((((hk.alloc _).alloc _).alloc _).alloc _).alloc _).alloc _)))).mono ?_; rintro e w1 ⟨rfl, hn⟩; replace hk := Kept.trans (by first | exact hk | exact (hk.alloc _) | exact ((hk.alloc _).alloc _) | exact (((hk.alloc _).alloc _).alloc _) | exact ((((hk.alloc _).alloc _).alloc _).alloc _) | exact (((((hk.alloc _).alloc _).alloc _).alloc _).alloc _) | exact ((((((hk.alloc _).alloc _).alloc _).alloc _).alloc _).alloc _)) hn; replace hb := Boxed.kept (by first | exact hb | exact (hb.alloc _) | exact ((hb.alloc _).alloc _) | exact (((hb.alloc _).alloc _).alloc _) | exact ((((hb.alloc _).alloc _).alloc _).alloc _) | exact (((((hb.alloc _).alloc _).alloc _).alloc _).alloc _) | exact ((((((hb.alloc _).alloc _).alloc _).alloc _).alloc _).alloc _)) hn; have hb_l := hb.lt; have hb_0 := hb.cell 0 _ rfl; have hb_1 := hb.cell 1 _ rfl)
        | (go_at_call 11; refine (modeSide_any _ _ _ _ (ht.kept (by first | exact hk | exact (hk.alloc _) | exact ((hk.alloc _).alloc _) | exact (((hk.alloc _).alloc _).alloc _) | exact ((((hk.alloc _).alloc _).alloc _).alloc _) | exact (((((hk.alloc _).alloc _).alloc _).alloc _).alloc _) | exact ((((((hk.alloc _).alloc _).alloc _).alloc _).alloc _).alloc _)))).mono ?_; rintro e w1 ⟨rfl, hn⟩; replace hk := Kept.trans (by first | exact hk | exact (hk.alloc _) | exact ((hk.alloc _).alloc _) | exact (((hk.alloc _).alloc _).alloc _) | exact ((((hk.alloc _).alloc _).alloc _).alloc _) | exact (((((hk.alloc _).alloc _).alloc _).alloc _).alloc _) | exact ((((((hk.alloc _).alloc _).alloc _).alloc _).alloc _).alloc _)) hn; replace hb := Boxed.kept (by first | exact hb | exact (hb.alloc _) | exact ((hb.alloc _).alloc _) | exact (((hb.alloc _).alloc _).alloc _) | exact ((((hb.alloc _).alloc _).alloc _).alloc _) | exact (((((hb.alloc _).alloc _).alloc _).alloc _).alloc _) | exact ((((((hb.alloc _).alloc _).alloc _).alloc _).alloc _).alloc _)) hn; have hb_l := hb.lt; have hb_0 := hb.cell 0 _ rfl; have hb_1 := hb.cell 1 _ rfl)
        | (go_at_call 17; refine (modeVertical_any _ _ _).mono ?_; rintro e w1 ⟨rfl, hn⟩; replace hk := Kept.trans (by first | exact hk | exact (hk.alloc _) | exact ((hk.alloc _).alloc _) | exact (((hk.alloc _).alloc _).alloc _) | exact ((((hk.alloc _).alloc _).alloc _).alloc _) | exact (((((hk.alloc _).alloc _).alloc _).alloc _).alloc _) | exact ((((((hk.alloc _).alloc _).alloc _).alloc _).alloc _).alloc _)) hn; replace hb := Boxed.kept (by first | exact hb | exact (hb.alloc _) | exact ((hb.alloc _).alloc _) | exact (((hb.alloc _).alloc _).alloc _) | exact ((((hb.alloc _).alloc _).alloc _).alloc _) | exact (((((hb.alloc _).alloc _).alloc _).alloc _).alloc _) | exact ((((((hb.alloc _).alloc _).alloc _).alloc _).alloc _).alloc _)) hn; have hb_l := hb.lt; have hb_0 := hb.cell 0 _ rfl; have hb_1 := hb.cell 1 _ rfl)
        | (go_at_call 14; refine (num_any _ _).mono ?_; rintro e w1 ⟨rfl, rfl⟩)
        | fail)
      go_roundw
      case rel => first | exact ⟨1, by omega, rfl, hk, hb⟩ | exact ⟨2, by omega, rfl, hk, hb⟩ | exact ⟨3, by omega, rfl, hk, hb⟩ | exact ⟨4, by omega, rfl, hk, hb⟩
      case measure => simp [intOf]
theorem modeSides_walk (a : Int) (w : World) (ht : Tab w) :
    Calls Tryd.prog 4 #[.int .i64 a] w fun e w' => e = .returned (.bool true) ∧ Kept w w' := by
  obtain ⟨i, hi, i1, i2⟩ := urest a 6 (by decide) (by decide)
  rcases (by omega : i = 0 ∨ i = 1 ∨ i = 2 ∨ i = 3 ∨ i = 4 ∨ i = 5) with rfl | rfl | rfl | rfl | rfl | rfl
  · exact modeSides_0 a hi w ht
  · exact modeSides_1 a hi w ht
  · exact modeSides_2 a hi w ht
  · exact modeSides_3 a hi w ht
  · exact modeSides_4 a hi w ht
  · exact modeSides_5 a hi w ht
end Go.Proofs.YtkapmnbkmljpkaaDoor
