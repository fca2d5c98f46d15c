/- Layer 7: the document's answers. -/
import Derived.Test.YtkapmnbkmljpkaeSpread2
namespace Go.Proofs.Ytkapmnbkmljpkae
open Go.RowKit
set_option linter.unusedSimpArgs false
set_option linter.unusedVariables false
set_option maxHeartbeats 1000000 in
theorem refOffset_any (how room adv : Int) (w : World) :
    Calls Try.prog 9 #[.int .i64 how, .int .i64 room, .int .i64 adv] w fun e w' => e = .returned (.tuple #[.int .i64 (offS how room adv).1, .int .i64 (offS how room adv).2]) ∧ Kept w w' := by
  cases h : almB how room adv
  · have Hs := Lib.hid (offS_no h)
    have hk : Kept w w := Kept.refl w
    go_enter Try.func9, Try.ntmps9
    go_wp2_with fail
    refine (refAlignMay_any _ _ _ _).mono ?_
    rintro e w1 ⟨rfl, rfl⟩
    go_wp2
    go_ret2
    exact ⟨by rw [Hs.out]; rfl, (by first | ((repeat (first | with_reducible exact hk | with_reducible refine Kept.alloc ?_ _ | with_reducible refine Kept.drew ?_ | with_reducible refine Kept.drewN ?_ _ | with_reducible refine Kept.set ?_ (by first | (simp; done) | (simp; omega) | omega) _)); done) | exact hk | exact (hk.alloc _) | exact ((hk.alloc _).alloc _) | exact (((hk.alloc _).alloc _).alloc _) | exact ((((hk.alloc _).alloc _).alloc _).alloc _) | exact (((((hk.alloc _).alloc _).alloc _).alloc _).alloc _) | exact ((((((hk.alloc _).alloc _).alloc _).alloc _).alloc _).alloc _) | (repeat (first | exact hk | refine Kept.alloc ?_ _ | refine Kept.drew ?_ | refine Kept.drewN ?_ _ | refine Kept.set ?_ (by first | (simp; done) | (simp; omega) | omega) _)))⟩
  · obtain ⟨⟨a1, a2⟩, ⟨b1, b2⟩, c1, c2⟩ := almB_true.1 h
    have hs : offS how room adv = ((if how = 1 then leftS room adv else if how = 2 then leftS room adv / 2 else 0), 0) := if_pos h
    have Hs := Lib.hid hs
    clear hs
    rcases Int.lt_trichotomy room adv with hd | hd | hd
    · have hl : leftS room adv = 0 := if_neg (by omega)
      have Hl := Lib.hid hl
      clear hl
      rcases (by omega : how = 0 ∨ how = 1 ∨ how = 2 ∨ how = 3) with rfl | rfl | rfl | rfl
      all_goals
        have hk : Kept w w := Kept.refl w
        go_enter Try.func9, Try.ntmps9
        go_wp2_with fail
        refine (refAlignMay_any _ _ _ _).mono ?_
        rintro e w1 ⟨rfl, rfl⟩
        go_wp2
        go_ret2
        exact ⟨by rw [Hs.out, Hl.out]; rfl, (by first | ((repeat (first | with_reducible exact hk | with_reducible refine Kept.alloc ?_ _ | with_reducible refine Kept.drew ?_ | with_reducible refine Kept.drewN ?_ _ | with_reducible refine Kept.set ?_ (by first | (simp; done) | (simp; omega) | omega) _)); done) | exact hk | exact (hk.alloc _) | exact ((hk.alloc _).alloc _) | exact (((hk.alloc _).alloc _).alloc _) | exact ((((hk.alloc _).alloc _).alloc _).alloc _) | exact (((((hk.alloc _).alloc _).alloc _).alloc _).alloc _) | exact ((((((hk.alloc _).alloc _).alloc _).alloc _).alloc _).alloc _) | (repeat (first | exact hk | refine Kept.alloc ?_ _ | refine Kept.drew ?_ | refine Kept.drewN ?_ _ | refine Kept.set ?_ (by first | (simp; done) | (simp; omega) | omega) _)))⟩
    · subst hd
      have hl : leftS room room = 0 := if_neg (by omega)
      have Hl := Lib.hid hl
      clear hl
      rcases (by omega : how = 0 ∨ how = 1 ∨ how = 2 ∨ how = 3) with rfl | rfl | rfl | rfl
      all_goals
        have hk : Kept w w := Kept.refl w
        go_enter Try.func9, Try.ntmps9
        go_wp2_with fail
        refine (refAlignMay_any _ _ _ _).mono ?_
        rintro e w1 ⟨rfl, rfl⟩
        go_wp2
        go_ret2
        exact ⟨by rw [Hs.out, Hl.out]; rfl, (by first | ((repeat (first | with_reducible exact hk | with_reducible refine Kept.alloc ?_ _ | with_reducible refine Kept.drew ?_ | with_reducible refine Kept.drewN ?_ _ | with_reducible refine Kept.set ?_ (by first | (simp; done) | (simp; omega) | omega) _)); done) | exact hk | exact (hk.alloc _) | exact ((hk.alloc _).alloc _) | exact (((hk.alloc _).alloc _).alloc _) | exact ((((hk.alloc _).alloc _).alloc _).alloc _) | exact (((((hk.alloc _).alloc _).alloc _).alloc _).alloc _) | exact ((((((hk.alloc _).alloc _).alloc _).alloc _).alloc _).alloc _) | (repeat (first | exact hk | refine Kept.alloc ?_ _ | refine Kept.drew ?_ | refine Kept.drewN ?_ _ | refine Kept.set ?_ (by first | (simp; done) | (simp; omega) | omega) _)))⟩
    · have hl : leftS room adv = room - adv := if_pos hd
      have Hl := Lib.hid hl
      clear hl
      rcases (by omega : how = 0 ∨ how = 1 ∨ how = 2 ∨ how = 3) with rfl | rfl | rfl | rfl
      all_goals
        have hk : Kept w w := Kept.refl w
        go_enter Try.func9, Try.ntmps9
        go_wp2_with fail
        refine (refAlignMay_any _ _ _ _).mono ?_
        rintro e w1 ⟨rfl, rfl⟩
        go_wp2
        go_ret2
        exact ⟨by rw [Hs.out, Hl.out]; rfl, (by first | ((repeat (first | with_reducible exact hk | with_reducible refine Kept.alloc ?_ _ | with_reducible refine Kept.drew ?_ | with_reducible refine Kept.drewN ?_ _ | with_reducible refine Kept.set ?_ (by first | (simp; done) | (simp; omega) | omega) _)); done) | exact hk | exact (hk.alloc _) | exact ((hk.alloc _).alloc _) | exact (((hk.alloc _).alloc _).alloc _) | exact ((((hk.alloc _).alloc _).alloc _).alloc _) | exact (((((hk.alloc _).alloc _).alloc _).alloc _).alloc _) | exact ((((((hk.alloc _).alloc _).alloc _).alloc _).alloc _).alloc _) | (repeat (first | exact hk | refine Kept.alloc ?_ _ | refine Kept.drew ?_ | refine Kept.drewN ?_ _ | refine Kept.set ?_ (by first | (simp; done) | (simp; omega) | omega) _)))⟩
theorem refSpread_no1 (how room adv gaps : Int) (last : Bool) (w : World) (h : almB how room adv = false) :
    Calls Try.prog 11 #[.int .i64 how, .int .i64 room, .int .i64 adv, .int .i64 gaps, .bool last] w (Spreads how room adv gaps last w) := by
  have hs : sprB how room adv gaps = false := by unfold sprB; rw [h]; rfl
  have Hs := Lib.hid hs
  clear hs
  have hk : Kept w w := Kept.refl w
  go_enter Try.func11, Try.ntmps11
  go_wp2_with fail
  refine (refAlignMay_any _ _ _ _).mono ?_
  rintro e w1 ⟨rfl, rfl⟩
  go_wp2
  go_ret2
  exact sprNo Hs.out _ _ (by first | ((repeat (first | with_reducible exact hk | with_reducible refine Kept.alloc ?_ _ | with_reducible refine Kept.drew ?_ | with_reducible refine Kept.drewN ?_ _ | with_reducible refine Kept.set ?_ (by first | (simp; done) | (simp; omega) | omega) _)); done) | exact hk | exact (hk.alloc _) | exact ((hk.alloc _).alloc _) | exact (((hk.alloc _).alloc _).alloc _) | exact ((((hk.alloc _).alloc _).alloc _).alloc _) | exact (((((hk.alloc _).alloc _).alloc _).alloc _).alloc _) | exact ((((((hk.alloc _).alloc _).alloc _).alloc _).alloc _).alloc _) | (repeat (first | exact hk | refine Kept.alloc ?_ _ | refine Kept.drew ?_ | refine Kept.drewN ?_ _ | refine Kept.set ?_ (by first | (simp; done) | (simp; omega) | omega) _)))
theorem refSpread_no2 (how room adv gaps : Int) (last : Bool) (w : World) (h : almB how room adv = true) (h2 : inB 0 80 gaps = false) :
    Calls Try.prog 11 #[.int .i64 how, .int .i64 room, .int .i64 adv, .int .i64 gaps, .bool last] w (Spreads how room adv gaps last w) := by
  have hs : sprB how room adv gaps = false := by unfold sprB; rw [h, h2]; rfl
  have Hs := Lib.hid hs
  clear hs
  have hk : Kept w w := Kept.refl w
  go_enter Try.func11, Try.ntmps11
  go_wp2_with fail
  refine (refAlignMay_any _ _ _ _).mono ?_
  rintro e w1 ⟨rfl, rfl⟩
  go_wp2_with fail
  refine (refUpTo_any _ _ _).mono ?_
  rintro e w1 ⟨rfl, rfl⟩
  go_wp2
  go_ret2
  exact sprNo Hs.out _ _ (by first | ((repeat (first | with_reducible exact hk | with_reducible refine Kept.alloc ?_ _ | with_reducible refine Kept.drew ?_ | with_reducible refine Kept.drewN ?_ _ | with_reducible refine Kept.set ?_ (by first | (simp; done) | (simp; omega) | omega) _)); done) | exact hk | exact (hk.alloc _) | exact ((hk.alloc _).alloc _) | exact (((hk.alloc _).alloc _).alloc _) | exact ((((hk.alloc _).alloc _).alloc _).alloc _) | exact (((((hk.alloc _).alloc _).alloc _).alloc _).alloc _) | exact ((((((hk.alloc _).alloc _).alloc _).alloc _).alloc _).alloc _) | (repeat (first | exact hk | refine Kept.alloc ?_ _ | refine Kept.drew ?_ | refine Kept.drewN ?_ _ | refine Kept.set ?_ (by first | (simp; done) | (simp; omega) | omega) _)))
theorem take_getD (xs : List Int) (k : Nat) (h : k < xs.length) : xs.take (k + 1) = xs.take k ++ [xs.getD k 0] := by
  rw [List.take_succ_eq_append_getElem h, List.getD_eq_getElem?_getD, List.getElem?_eq_getElem h]; rfl
theorem own_snoc {wx : World} {B : Nat} {t : TypeId} {v : Value} {k n : Nat} {xs : List Int} {z : Int} (hl : xs.length = n) (hk : k < n) (hz : xs.getD k 0 = z)
    (h : wx.ownsRow B t 1 v (k + 1) ((xs.take k).map (Value.int .i64) ++ [.int .i64 z])) : wx.ownsRow B t 1 v (k + 1) ((xs.take (k + 1)).map (Value.int .i64)) := by
  rw [take_getD xs k (by omega), List.map_append, hz]; exact h
set_option maxHeartbeats 1000000 in
theorem refSpread_how_lt (room adv : Int) (n : Nat) (w : World) (how : Int) (last : Bool) (h : almB how room adv = true) (h2 : inB 0 80 (n : Int) = true) (h3 : how ≠ 3) (h4 : room < adv) :
    Calls Try.prog 11 #[.int .i64 how, .int .i64 room, .int .i64 adv, .int .i64 (n : Int), .bool last] w (Spreads how room adv n last w) := by
  obtain ⟨i0, hi, hz0, hz1, hz2⟩ := info_parts intInfo
  have hs : sprB how room adv n = true := by unfold sprB; rw [h, h2]; rfl
  have Hs := Lib.hid hs
  clear hs
  have hn : n ≤ 80 := by have := (inB_true.1 h2).2; omega
  have hlen := spreadXs_len how room adv n last
  obtain ⟨-, ⟨b1, b2⟩, c1, c2⟩ := almB_true.1 h
  have hxs : ∀ j, j < n → (spreadXs how room adv n last).getD j 0 = 0 := fun j hj => by unfold spreadXs; rw [if_neg (by simp; intro h; omega)]; simp [List.getD_eq_getElem?_getD, hj]
  have Hxs := Lib.hid hxs
  clear hxs
  have hk : Kept w w := Kept.refl w
  go_enter Try.func11, Try.ntmps11
  go_wp2_with fail
  refine (refAlignMay_any _ _ _ _).mono ?_
  rintro e w1 ⟨rfl, rfl⟩
  go_wp2_with fail
  refine (refUpTo_any _ _ _).mono ?_
  rintro e w1 ⟨rfl, rfl⟩
  go_wp2
  go_loopw [13, 14] (fun v i wx => ∃ k : Nat, k ≤ n ∧ i = .int .i64 k ∧ wx.ownsRow w.heap.size 3 1 v k (((spreadXs how room adv n last).take k).map (Value.int .i64)) ∧ Kept w wx) (fun _ i _ => n - (intOf i).toNat)
  case atStart => exact ⟨0, Nat.zero_le _, rfl, by simpa using World.ownsRow_nil _ _ _ _, Kept.refl _⟩
  case round =>
    clear hk
    obtain ⟨k, hk4, rfl, ho, hk⟩ := hrel
    have hz := hk.size
    by_cases hlt : k < n
    · have hi0 : (0 : Int) ≤ (k : Int) := Int.natCast_nonneg _
      have hi1 : (k : Int) < (n : Int) := by omega
      have hn1 : (1 : Int) ≤ (n : Int) := by omega
      go_wp2_with (at_builtin; refine wpList_append_own _ rfl _ _ 27 rfl w.heap.size 3 i0 (.int .i64 0) 1 8 Try.underlying27 hi hz0 hz1 hz2 rfl (by decide) _ _ _ rfl (ho.alloc _) ⟨wr.heap.size, 0, none⟩ 1 1 [.int .i64 0] rfl rfl (lit_cells wr #[.int .i64 0] 3) (by simp [Value.oneCell']) (by simp [maxLen]; omega) (by omega) (by simp; omega) ?_; intro v2 w2 ho2 hg2 _)
      have hk2 : Kept w w2 := (hk.alloc _).grown hg2 (row_ge ho)
      go_roundw
      case rel => exact ⟨k + 1, by omega, by go_num, own_snoc hlen hlt (Hxs.out k hlt) ho2, hk2⟩
      case measure => simp [intOf]; omega
    · obtain rfl : k = n := by omega
      rw [List.take_of_length_le (by omega)] at ho
      go_wp2
      go_ret2
      exact sprYes Hs.out (newInts_own ho) hk
set_option maxHeartbeats 1000000 in
theorem refSpread_how_eq (room adv : Int) (n : Nat) (w : World) (how : Int) (last : Bool) (h : almB how room adv = true) (h2 : inB 0 80 (n : Int) = true) (h3 : how ≠ 3) (h4 : room = adv) :
    Calls Try.prog 11 #[.int .i64 how, .int .i64 room, .int .i64 adv, .int .i64 (n : Int), .bool last] w (Spreads how room adv n last w) := by
  obtain ⟨i0, hi, hz0, hz1, hz2⟩ := info_parts intInfo
  have hs : sprB how room adv n = true := by unfold sprB; rw [h, h2]; rfl
  have Hs := Lib.hid hs
  clear hs
  have hn : n ≤ 80 := by have := (inB_true.1 h2).2; omega
  have hlen := spreadXs_len how room adv n last
  obtain ⟨-, ⟨b1, b2⟩, c1, c2⟩ := almB_true.1 h
  have hxs : ∀ j, j < n → (spreadXs how room adv n last).getD j 0 = 0 := fun j hj => by unfold spreadXs; rw [if_neg (by simp; intro h; omega)]; simp [List.getD_eq_getElem?_getD, hj]
  have Hxs := Lib.hid hxs
  clear hxs
  subst h4
  have hk : Kept w w := Kept.refl w
  go_enter Try.func11, Try.ntmps11
  go_wp2_with fail
  refine (refAlignMay_any _ _ _ _).mono ?_
  rintro e w1 ⟨rfl, rfl⟩
  go_wp2_with fail
  refine (refUpTo_any _ _ _).mono ?_
  rintro e w1 ⟨rfl, rfl⟩
  go_wp2
  go_loopw [13, 14] (fun v i wx => ∃ k : Nat, k ≤ n ∧ i = .int .i64 k ∧ wx.ownsRow w.heap.size 3 1 v k (((spreadXs how room room n last).take k).map (Value.int .i64)) ∧ Kept w wx) (fun _ i _ => n - (intOf i).toNat)
  case atStart => exact ⟨0, Nat.zero_le _, rfl, by simpa using World.ownsRow_nil _ _ _ _, Kept.refl _⟩
  case round =>
    clear hk
    obtain ⟨k, hk4, rfl, ho, hk⟩ := hrel
    have hz := hk.size
    by_cases hlt : k < n
    · have hi0 : (0 : Int) ≤ (k : Int) := Int.natCast_nonneg _
      have hi1 : (k : Int) < (n : Int) := by omega
      have hn1 : (1 : Int) ≤ (n : Int) := by omega
      go_wp2_with (at_builtin; refine wpList_append_own _ rfl _ _ 27 rfl w.heap.size 3 i0 (.int .i64 0) 1 8 Try.underlying27 hi hz0 hz1 hz2 rfl (by decide) _ _ _ rfl (ho.alloc _) ⟨wr.heap.size, 0, none⟩ 1 1 [.int .i64 0] rfl rfl (lit_cells wr #[.int .i64 0] 3) (by simp [Value.oneCell']) (by simp [maxLen]; omega) (by omega) (by simp; omega) ?_; intro v2 w2 ho2 hg2 _)
      have hk2 : Kept w w2 := (hk.alloc _).grown hg2 (row_ge ho)
      go_roundw
      case rel => exact ⟨k + 1, by omega, by go_num, own_snoc hlen hlt (Hxs.out k hlt) ho2, hk2⟩
      case measure => simp [intOf]; omega
    · obtain rfl : k = n := by omega
      rw [List.take_of_length_le (by omega)] at ho
      go_wp2
      go_ret2
      exact sprYes Hs.out (newInts_own ho) hk
set_option maxHeartbeats 1000000 in
theorem refSpread_how_gt (room adv : Int) (n : Nat) (w : World) (how : Int) (last : Bool) (h : almB how room adv = true) (h2 : inB 0 80 (n : Int) = true) (h3 : how ≠ 3) (h4 : adv < room) :
    Calls Try.prog 11 #[.int .i64 how, .int .i64 room, .int .i64 adv, .int .i64 (n : Int), .bool last] w (Spreads how room adv n last w) := by
  obtain ⟨i0, hi, hz0, hz1, hz2⟩ := info_parts intInfo
  have hs : sprB how room adv n = true := by unfold sprB; rw [h, h2]; rfl
  have Hs := Lib.hid hs
  clear hs
  have hn : n ≤ 80 := by have := (inB_true.1 h2).2; omega
  have hlen := spreadXs_len how room adv n last
  obtain ⟨-, ⟨b1, b2⟩, c1, c2⟩ := almB_true.1 h
  have hxs : ∀ j, j < n → (spreadXs how room adv n last).getD j 0 = 0 := fun j hj => by unfold spreadXs; rw [if_neg (by simp; intro h; omega)]; simp [List.getD_eq_getElem?_getD, hj]
  have Hxs := Lib.hid hxs
  clear hxs
  have hk : Kept w w := Kept.refl w
  go_enter Try.func11, Try.ntmps11
  go_wp2_with fail
  refine (refAlignMay_any _ _ _ _).mono ?_
  rintro e w1 ⟨rfl, rfl⟩
  go_wp2_with fail
  refine (refUpTo_any _ _ _).mono ?_
  rintro e w1 ⟨rfl, rfl⟩
  go_wp2
  go_loopw [13, 14] (fun v i wx => ∃ k : Nat, k ≤ n ∧ i = .int .i64 k ∧ wx.ownsRow w.heap.size 3 1 v k (((spreadXs how room adv n last).take k).map (Value.int .i64)) ∧ Kept w wx) (fun _ i _ => n - (intOf i).toNat)
  case atStart => exact ⟨0, Nat.zero_le _, rfl, by simpa using World.ownsRow_nil _ _ _ _, Kept.refl _⟩
  case round =>
    clear hk
    obtain ⟨k, hk4, rfl, ho, hk⟩ := hrel
    have hz := hk.size
    by_cases hlt : k < n
    · have hi0 : (0 : Int) ≤ (k : Int) := Int.natCast_nonneg _
      have hi1 : (k : Int) < (n : Int) := by omega
      have hn1 : (1 : Int) ≤ (n : Int) := by omega
      go_wp2_with (at_builtin; refine wpList_append_own _ rfl _ _ 27 rfl w.heap.size 3 i0 (.int .i64 0) 1 8 Try.underlying27 hi hz0 hz1 hz2 rfl (by decide) _ _ _ rfl (ho.alloc _) ⟨wr.heap.size, 0, none⟩ 1 1 [.int .i64 0] rfl rfl (lit_cells wr #[.int .i64 0] 3) (by simp [Value.oneCell']) (by simp [maxLen]; omega) (by omega) (by simp; omega) ?_; intro v2 w2 ho2 hg2 _)
      have hk2 : Kept w w2 := (hk.alloc _).grown hg2 (row_ge ho)
      go_roundw
      case rel => exact ⟨k + 1, by omega, by go_num, own_snoc hlen hlt (Hxs.out k hlt) ho2, hk2⟩
      case measure => simp [intOf]; omega
    · obtain rfl : k = n := by omega
      rw [List.take_of_length_le (by omega)] at ho
      go_wp2
      go_ret2
      exact sprYes Hs.out (newInts_own ho) hk
set_option maxHeartbeats 1000000 in
theorem refSpread_last_lt (room adv : Int) (n : Nat) (w : World) (h : almB 3 room adv = true) (h2 : inB 0 80 (n : Int) = true) (h4 : room < adv) :
    Calls Try.prog 11 #[.int .i64 3, .int .i64 room, .int .i64 adv, .int .i64 (n : Int), .bool true] w (Spreads 3 room adv n true w) := by
  obtain ⟨i0, hi, hz0, hz1, hz2⟩ := info_parts intInfo
  have hs : sprB 3 room adv n = true := by unfold sprB; rw [h, h2]; rfl
  have Hs := Lib.hid hs
  clear hs
  have hn : n ≤ 80 := by have := (inB_true.1 h2).2; omega
  have hlen := spreadXs_len 3 room adv n true
  obtain ⟨-, ⟨b1, b2⟩, c1, c2⟩ := almB_true.1 h
  have hxs : ∀ j, j < n → (spreadXs 3 room adv n true).getD j 0 = 0 := fun j hj => by unfold spreadXs; rw [if_neg (by simp)]; simp [List.getD_eq_getElem?_getD, hj]
  have Hxs := Lib.hid hxs
  clear hxs
  have hk : Kept w w := Kept.refl w
  go_enter Try.func11, Try.ntmps11
  go_wp2_with fail
  refine (refAlignMay_any _ _ _ _).mono ?_
  rintro e w1 ⟨rfl, rfl⟩
  go_wp2_with fail
  refine (refUpTo_any _ _ _).mono ?_
  rintro e w1 ⟨rfl, rfl⟩
  go_wp2
  go_loopw [13, 14] (fun v i wx => ∃ k : Nat, k ≤ n ∧ i = .int .i64 k ∧ wx.ownsRow w.heap.size 3 1 v k (((spreadXs 3 room adv n true).take k).map (Value.int .i64)) ∧ Kept w wx) (fun _ i _ => n - (intOf i).toNat)
  case atStart => exact ⟨0, Nat.zero_le _, rfl, by simpa using World.ownsRow_nil _ _ _ _, Kept.refl _⟩
  case round =>
    clear hk
    obtain ⟨k, hk4, rfl, ho, hk⟩ := hrel
    have hz := hk.size
    by_cases hlt : k < n
    · have hi0 : (0 : Int) ≤ (k : Int) := Int.natCast_nonneg _
      have hi1 : (k : Int) < (n : Int) := by omega
      have hn1 : (1 : Int) ≤ (n : Int) := by omega
      go_wp2_with (at_builtin; refine wpList_append_own _ rfl _ _ 27 rfl w.heap.size 3 i0 (.int .i64 0) 1 8 Try.underlying27 hi hz0 hz1 hz2 rfl (by decide) _ _ _ rfl (ho.alloc _) ⟨wr.heap.size, 0, none⟩ 1 1 [.int .i64 0] rfl rfl (lit_cells wr #[.int .i64 0] 3) (by simp [Value.oneCell']) (by simp [maxLen]; omega) (by omega) (by simp; omega) ?_; intro v2 w2 ho2 hg2 _)
      have hk2 : Kept w w2 := (hk.alloc _).grown hg2 (row_ge ho)
      go_roundw
      case rel => exact ⟨k + 1, by omega, by go_num, own_snoc hlen hlt (Hxs.out k hlt) ho2, hk2⟩
      case measure => simp [intOf]; omega
    · obtain rfl : k = n := by omega
      rw [List.take_of_length_le (by omega)] at ho
      go_wp2
      go_ret2
      exact sprYes Hs.out (newInts_own ho) hk
set_option maxHeartbeats 1000000 in
theorem refSpread_last_eq (room adv : Int) (n : Nat) (w : World) (h : almB 3 room adv = true) (h2 : inB 0 80 (n : Int) = true) (h4 : room = adv) :
    Calls Try.prog 11 #[.int .i64 3, .int .i64 room, .int .i64 adv, .int .i64 (n : Int), .bool true] w (Spreads 3 room adv n true w) := by
  obtain ⟨i0, hi, hz0, hz1, hz2⟩ := info_parts intInfo
  have hs : sprB 3 room adv n = true := by unfold sprB; rw [h, h2]; rfl
  have Hs := Lib.hid hs
  clear hs
  have hn : n ≤ 80 := by have := (inB_true.1 h2).2; omega
  have hlen := spreadXs_len 3 room adv n true
  obtain ⟨-, ⟨b1, b2⟩, c1, c2⟩ := almB_true.1 h
  have hxs : ∀ j, j < n → (spreadXs 3 room adv n true).getD j 0 = 0 := fun j hj => by unfold spreadXs; rw [if_neg (by simp)]; simp [List.getD_eq_getElem?_getD, hj]
  have Hxs := Lib.hid hxs
  clear hxs
  subst h4
  have hk : Kept w w := Kept.refl w
  go_enter Try.func11, Try.ntmps11
  go_wp2_with fail
  refine (refAlignMay_any _ _ _ _).mono ?_
  rintro e w1 ⟨rfl, rfl⟩
  go_wp2_with fail
  refine (refUpTo_any _ _ _).mono ?_
  rintro e w1 ⟨rfl, rfl⟩
  go_wp2
  go_loopw [13, 14] (fun v i wx => ∃ k : Nat, k ≤ n ∧ i = .int .i64 k ∧ wx.ownsRow w.heap.size 3 1 v k (((spreadXs 3 room room n true).take k).map (Value.int .i64)) ∧ Kept w wx) (fun _ i _ => n - (intOf i).toNat)
  case atStart => exact ⟨0, Nat.zero_le _, rfl, by simpa using World.ownsRow_nil _ _ _ _, Kept.refl _⟩
  case round =>
    clear hk
    obtain ⟨k, hk4, rfl, ho, hk⟩ := hrel
    have hz := hk.size
    by_cases hlt : k < n
    · have hi0 : (0 : Int) ≤ (k : Int) := Int.natCast_nonneg _
      have hi1 : (k : Int) < (n : Int) := by omega
      have hn1 : (1 : Int) ≤ (n : Int) := by omega
      go_wp2_with (at_builtin; refine wpList_append_own _ rfl _ _ 27 rfl w.heap.size 3 i0 (.int .i64 0) 1 8 Try.underlying27 hi hz0 hz1 hz2 rfl (by decide) _ _ _ rfl (ho.alloc _) ⟨wr.heap.size, 0, none⟩ 1 1 [.int .i64 0] rfl rfl (lit_cells wr #[.int .i64 0] 3) (by simp [Value.oneCell']) (by simp [maxLen]; omega) (by omega) (by simp; omega) ?_; intro v2 w2 ho2 hg2 _)
      have hk2 : Kept w w2 := (hk.alloc _).grown hg2 (row_ge ho)
      go_roundw
      case rel => exact ⟨k + 1, by omega, by go_num, own_snoc hlen hlt (Hxs.out k hlt) ho2, hk2⟩
      case measure => simp [intOf]; omega
    · obtain rfl : k = n := by omega
      rw [List.take_of_length_le (by omega)] at ho
      go_wp2
      go_ret2
      exact sprYes Hs.out (newInts_own ho) hk
set_option maxHeartbeats 1000000 in
theorem refSpread_last_gt (room adv : Int) (n : Nat) (w : World) (h : almB 3 room adv = true) (h2 : inB 0 80 (n : Int) = true) (h4 : adv < room) :
    Calls Try.prog 11 #[.int .i64 3, .int .i64 room, .int .i64 adv, .int .i64 (n : Int), .bool true] w (Spreads 3 room adv n true w) := by
  obtain ⟨i0, hi, hz0, hz1, hz2⟩ := info_parts intInfo
  have hs : sprB 3 room adv n = true := by unfold sprB; rw [h, h2]; rfl
  have Hs := Lib.hid hs
  clear hs
  have hn : n ≤ 80 := by have := (inB_true.1 h2).2; omega
  have hlen := spreadXs_len 3 room adv n true
  obtain ⟨-, ⟨b1, b2⟩, c1, c2⟩ := almB_true.1 h
  have hxs : ∀ j, j < n → (spreadXs 3 room adv n true).getD j 0 = 0 := fun j hj => by unfold spreadXs; rw [if_neg (by simp)]; simp [List.getD_eq_getElem?_getD, hj]
  have Hxs := Lib.hid hxs
  clear hxs
  have hk : Kept w w := Kept.refl w
  go_enter Try.func11, Try.ntmps11
  go_wp2_with fail
  refine (refAlignMay_any _ _ _ _).mono ?_
  rintro e w1 ⟨rfl, rfl⟩
  go_wp2_with fail
  refine (refUpTo_any _ _ _).mono ?_
  rintro e w1 ⟨rfl, rfl⟩
  go_wp2
  go_loopw [13, 14] (fun v i wx => ∃ k : Nat, k ≤ n ∧ i = .int .i64 k ∧ wx.ownsRow w.heap.size 3 1 v k (((spreadXs 3 room adv n true).take k).map (Value.int .i64)) ∧ Kept w wx) (fun _ i _ => n - (intOf i).toNat)
  case atStart => exact ⟨0, Nat.zero_le _, rfl, by simpa using World.ownsRow_nil _ _ _ _, Kept.refl _⟩
  case round =>
    clear hk
    obtain ⟨k, hk4, rfl, ho, hk⟩ := hrel
    have hz := hk.size
    by_cases hlt : k < n
    · have hi0 : (0 : Int) ≤ (k : Int) := Int.natCast_nonneg _
      have hi1 : (k : Int) < (n : Int) := by omega
      have hn1 : (1 : Int) ≤ (n : Int) := by omega
      go_wp2_with (at_builtin; refine wpList_append_own _ rfl _ _ 27 rfl w.heap.size 3 i0 (.int .i64 0) 1 8 Try.underlying27 hi hz0 hz1 hz2 rfl (by decide) _ _ _ rfl (ho.alloc _) ⟨wr.heap.size, 0, none⟩ 1 1 [.int .i64 0] rfl rfl (lit_cells wr #[.int .i64 0] 3) (by simp [Value.oneCell']) (by simp [maxLen]; omega) (by omega) (by simp; omega) ?_; intro v2 w2 ho2 hg2 _)
      have hk2 : Kept w w2 := (hk.alloc _).grown hg2 (row_ge ho)
      go_roundw
      case rel => exact ⟨k + 1, by omega, by go_num, own_snoc hlen hlt (Hxs.out k hlt) ho2, hk2⟩
      case measure => simp [intOf]; omega
    · obtain rfl : k = n := by omega
      rw [List.take_of_length_le (by omega)] at ho
      go_wp2
      go_ret2
      exact sprYes Hs.out (newInts_own ho) hk
set_option maxHeartbeats 1000000 in
theorem refSpread_zero_lt (room adv : Int) (n : Nat) (w : World) (h : almB 3 room adv = true) (h2 : inB 0 80 (n : Int) = true) (h4 : room < adv) :
    Calls Try.prog 11 #[.int .i64 3, .int .i64 room, .int .i64 adv, .int .i64 (n : Int), .bool false] w (Spreads 3 room adv n false w) := by
  obtain ⟨i0, hi, hz0, hz1, hz2⟩ := info_parts intInfo
  have hs : sprB 3 room adv n = true := by unfold sprB; rw [h, h2]; rfl
  have Hs := Lib.hid hs
  clear hs
  have hn : n ≤ 80 := by have := (inB_true.1 h2).2; omega
  have hlen := spreadXs_len 3 room adv n false
  obtain ⟨-, ⟨b1, b2⟩, c1, c2⟩ := almB_true.1 h
  have hl : leftS room adv = 0 := if_neg (by omega)
  have hxs : ∀ j, j < n → (spreadXs 3 room adv n false).getD j 0 = 0 := fun j hj => by
    rw [spread_row hl j hj]; unfold spreadAt; simp; omega
  have Hxs := Lib.hid hxs
  clear hxs hl
  have hk : Kept w w := Kept.refl w
  go_enter Try.func11, Try.ntmps11
  go_wp2_with fail
  refine (refAlignMay_any _ _ _ _).mono ?_
  rintro e w1 ⟨rfl, rfl⟩
  go_wp2_with fail
  refine (refUpTo_any _ _ _).mono ?_
  rintro e w1 ⟨rfl, rfl⟩
  go_wp2
  go_loopw [13, 14] (fun v i wx => ∃ k : Nat, k ≤ n ∧ i = .int .i64 k ∧ wx.ownsRow w.heap.size 3 1 v k (((spreadXs 3 room adv n false).take k).map (Value.int .i64)) ∧ Kept w wx) (fun _ i _ => n - (intOf i).toNat)
  case atStart => exact ⟨0, Nat.zero_le _, rfl, by simpa using World.ownsRow_nil _ _ _ _, Kept.refl _⟩
  case round =>
    clear hk
    obtain ⟨k, hk4, rfl, ho, hk⟩ := hrel
    have hz := hk.size
    by_cases hlt : k < n
    · have hi0 : (0 : Int) ≤ (k : Int) := Int.natCast_nonneg _
      have hi1 : (k : Int) < (n : Int) := by omega
      have hn1 : (1 : Int) ≤ (n : Int) := by omega
      go_wp2_with (at_builtin; refine wpList_append_own _ rfl _ _ 27 rfl w.heap.size 3 i0 (.int .i64 0) 1 8 Try.underlying27 hi hz0 hz1 hz2 rfl (by decide) _ _ _ rfl (ho.alloc _) ⟨wr.heap.size, 0, none⟩ 1 1 [.int .i64 0] rfl rfl (lit_cells wr #[.int .i64 0] 3) (by simp [Value.oneCell']) (by simp [maxLen]; omega) (by omega) (by simp; omega) ?_; intro v2 w2 ho2 hg2 _)
      have hk2 : Kept w w2 := (hk.alloc _).grown hg2 (row_ge ho)
      go_roundw
      case rel => exact ⟨k + 1, by omega, by go_num, own_snoc hlen hlt (Hxs.out k hlt) ho2, hk2⟩
      case measure => simp [intOf]; omega
    · obtain rfl : k = n := by omega
      rw [List.take_of_length_le (by omega)] at ho
      go_wp2
      go_ret2
      exact sprYes Hs.out (newInts_own ho) hk
set_option maxHeartbeats 1000000 in
theorem refSpread_zero_eq (room adv : Int) (n : Nat) (w : World) (h : almB 3 room adv = true) (h2 : inB 0 80 (n : Int) = true) (h4 : room = adv) :
    Calls Try.prog 11 #[.int .i64 3, .int .i64 room, .int .i64 adv, .int .i64 (n : Int), .bool false] w (Spreads 3 room adv n false w) := by
  obtain ⟨i0, hi, hz0, hz1, hz2⟩ := info_parts intInfo
  have hs : sprB 3 room adv n = true := by unfold sprB; rw [h, h2]; rfl
  have Hs := Lib.hid hs
  clear hs
  have hn : n ≤ 80 := by have := (inB_true.1 h2).2; omega
  have hlen := spreadXs_len 3 room adv n false
  obtain ⟨-, ⟨b1, b2⟩, c1, c2⟩ := almB_true.1 h
  have hl : leftS room adv = 0 := if_neg (by omega)
  have hxs : ∀ j, j < n → (spreadXs 3 room adv n false).getD j 0 = 0 := fun j hj => by
    rw [spread_row hl j hj]; unfold spreadAt; simp; omega
  have Hxs := Lib.hid hxs
  clear hxs hl
  subst h4
  have hk : Kept w w := Kept.refl w
  go_enter Try.func11, Try.ntmps11
  go_wp2_with fail
  refine (refAlignMay_any _ _ _ _).mono ?_
  rintro e w1 ⟨rfl, rfl⟩
  go_wp2_with fail
  refine (refUpTo_any _ _ _).mono ?_
  rintro e w1 ⟨rfl, rfl⟩
  go_wp2
  go_loopw [13, 14] (fun v i wx => ∃ k : Nat, k ≤ n ∧ i = .int .i64 k ∧ wx.ownsRow w.heap.size 3 1 v k (((spreadXs 3 room room n false).take k).map (Value.int .i64)) ∧ Kept w wx) (fun _ i _ => n - (intOf i).toNat)
  case atStart => exact ⟨0, Nat.zero_le _, rfl, by simpa using World.ownsRow_nil _ _ _ _, Kept.refl _⟩
  case round =>
    clear hk
    obtain ⟨k, hk4, rfl, ho, hk⟩ := hrel
    have hz := hk.size
    by_cases hlt : k < n
    · have hi0 : (0 : Int) ≤ (k : Int) := Int.natCast_nonneg _
      have hi1 : (k : Int) < (n : Int) := by omega
      have hn1 : (1 : Int) ≤ (n : Int) := by omega
      go_wp2_with (at_builtin; refine wpList_append_own _ rfl _ _ 27 rfl w.heap.size 3 i0 (.int .i64 0) 1 8 Try.underlying27 hi hz0 hz1 hz2 rfl (by decide) _ _ _ rfl (ho.alloc _) ⟨wr.heap.size, 0, none⟩ 1 1 [.int .i64 0] rfl rfl (lit_cells wr #[.int .i64 0] 3) (by simp [Value.oneCell']) (by simp [maxLen]; omega) (by omega) (by simp; omega) ?_; intro v2 w2 ho2 hg2 _)
      have hk2 : Kept w w2 := (hk.alloc _).grown hg2 (row_ge ho)
      go_roundw
      case rel => exact ⟨k + 1, by omega, by go_num, own_snoc hlen hlt (Hxs.out k hlt) ho2, hk2⟩
      case measure => simp [intOf]; omega
    · obtain rfl : k = n := by omega
      rw [List.take_of_length_le (by omega)] at ho
      go_wp2
      go_ret2
      exact sprYes Hs.out (newInts_own ho) hk
set_option maxHeartbeats 1000000 in
theorem refSpread_pos (room adv : Int) (n : Nat) (w : World) (h : almB 3 room adv = true) (h2 : inB 0 80 (n : Int) = true) (h4 : adv < room) :
    Calls Try.prog 11 #[.int .i64 3, .int .i64 room, .int .i64 adv, .int .i64 (n : Int), .bool false] w (Spreads 3 room adv n false w) := by
  obtain ⟨i0, hi, hz0, hz1, hz2⟩ := info_parts intInfo
  have hs : sprB 3 room adv n = true := by unfold sprB; rw [h, h2]; rfl
  have Hs := Lib.hid hs
  clear hs
  have hn : n ≤ 80 := by have := (inB_true.1 h2).2; omega
  have hlen := spreadXs_len 3 room adv n false
  obtain ⟨-, ⟨b1, b2⟩, c1, c2⟩ := almB_true.1 h
  have hl : leftS room adv = room - adv := if_pos h4
  have hr := fun j => spread_row (n := n) hl j
  have Hr := Lib.hid hr
  clear hl hr
  have hk : Kept w w := Kept.refl w
  go_enter Try.func11, Try.ntmps11
  go_wp2_with fail
  refine (refAlignMay_any _ _ _ _).mono ?_
  rintro e w1 ⟨rfl, rfl⟩
  go_wp2_with fail
  refine (refUpTo_any _ _ _).mono ?_
  rintro e w1 ⟨rfl, rfl⟩
  go_wp2
  generalize hX : spreadXs 3 room adv n false = xs at *
  have HX := Lib.hid hX
  clear hX
  generalize hL : room - adv = l at *
  have l1 : 1 ≤ l := by omega
  have l2 : l ≤ 1073741824 := by omega
  clear hL b1 b2 c1 c2 h4
  go_loopw [13, 14] (fun v i wx => ∃ k : Nat, k ≤ n ∧ i = .int .i64 k ∧ wx.ownsRow w.heap.size 3 1 v k ((xs.take k).map (Value.int .i64)) ∧ Kept w wx) (fun _ i _ => n - (intOf i).toNat)
  case atStart => exact ⟨0, Nat.zero_le _, rfl, by simpa using World.ownsRow_nil _ _ _ _, Kept.refl _⟩
  case round =>
    clear hk
    obtain ⟨k, hk4, rfl, ho, hk⟩ := hrel
    have hz := hk.size
    by_cases hlt : k < n
    · have hi0 : (0 : Int) ≤ (k : Int) := Int.natCast_nonneg _
      have hi1 : (k : Int) < (n : Int) := by omega
      have hn1 : (1 : Int) ≤ (n : Int) := by omega
      have e1 : 0 ≤ l / (n : Int) := Int.ediv_nonneg (by omega) (by omega)
      have e2 : l / (n : Int) ≤ l := Int.ediv_le_self _ (by omega)
      have e3 := Int.emod_nonneg l (show (n : Int) ≠ 0 by omega)
      by_cases hc : (k : Int) < l % (n : Int)
      · have hv : xs.getD k 0 = l / n + 1 := by rw [Hr.out k hlt]; unfold spreadAt; rw [if_pos hc]
        have Hv := Lib.hid hv
        clear hv
        go_wp2_with (at_builtin; refine wpList_append_own _ rfl _ _ 27 rfl w.heap.size 3 i0 (.int .i64 0) 1 8 Try.underlying27 hi hz0 hz1 hz2 rfl (by decide) _ _ _ rfl (ho.alloc _) ⟨wr.heap.size, 0, none⟩ 1 1 [.int .i64 (l / (n : Int) + 1)] rfl rfl (lit_cells wr #[.int .i64 (l / (n : Int) + 1)] 3) (by simp [Value.oneCell']) (by simp [maxLen]; omega) (by omega) (by simp; omega) ?_; intro v2 w2 ho2 hg2 _)
        have hk2 : Kept w w2 := (hk.alloc _).grown hg2 (row_ge ho)
        go_roundw
        case rel => exact ⟨k + 1, by omega, by go_num, own_snoc hlen hlt Hv.out ho2, hk2⟩
        case measure => simp [intOf]; omega
      · have hc' : l % (n : Int) ≤ k := by omega
        have hv : xs.getD k 0 = l / n := by rw [Hr.out k hlt]; unfold spreadAt; rw [if_neg hc, Int.add_zero]
        have Hv := Lib.hid hv
        clear hv
        go_wp2_with (at_builtin; refine wpList_append_own _ rfl _ _ 27 rfl w.heap.size 3 i0 (.int .i64 0) 1 8 Try.underlying27 hi hz0 hz1 hz2 rfl (by decide) _ _ _ rfl (ho.alloc _) ⟨wr.heap.size, 0, none⟩ 1 1 [.int .i64 (l / (n : Int))] rfl rfl (lit_cells wr #[.int .i64 (l / (n : Int))] 3) (by simp [Value.oneCell']) (by simp [maxLen]; omega) (by omega) (by simp; omega) ?_; intro v2 w2 ho2 hg2 _)
        have hk2 : Kept w w2 := (hk.alloc _).grown hg2 (row_ge ho)
        go_roundw
        case rel => exact ⟨k + 1, by omega, by go_num, own_snoc hlen hlt Hv.out ho2, hk2⟩
        case measure => simp [intOf]; omega
    · obtain rfl : k = n := by omega
      rw [List.take_of_length_le (by omega)] at ho
      go_wp2
      go_ret2
      exact sprYes Hs.out (by rw [HX.out]; exact newInts_own ho) hk
theorem refSpread_any (how room adv gaps : Int) (last : Bool) (w : World) :
    Calls Try.prog 11 #[.int .i64 how, .int .i64 room, .int .i64 adv, .int .i64 gaps, .bool last] w (Spreads how room adv gaps last w) := by
  cases h : almB how room adv
  · exact refSpread_no1 _ _ _ _ _ w h
  cases h2 : inB 0 80 gaps
  · exact refSpread_no2 _ _ _ _ _ w h h2
  obtain ⟨n, rfl⟩ := Int.eq_ofNat_of_zero_le (inB_true.1 h2).1
  rcases Int.lt_trichotomy room adv with h4 | h4 | h4
  all_goals
    by_cases h3 : how = 3
    · subst h3
      cases last
      · first | exact refSpread_zero_lt _ _ _ w h h2 h4 | exact refSpread_zero_eq _ _ _ w h h2 h4 | exact refSpread_pos _ _ _ w h h2 h4
      · first | exact refSpread_last_lt _ _ _ w h h2 h4 | exact refSpread_last_eq _ _ _ w h h2 h4 | exact refSpread_last_gt _ _ _ w h h2 h4
    · first | exact refSpread_how_lt _ _ _ w _ _ h h2 h3 h4 | exact refSpread_how_eq _ _ _ w _ _ h h2 h3 h4 | exact refSpread_how_gt _ _ _ w _ _ h h2 h3 h4
end Go.Proofs.Ytkapmnbkmljpkae
