/- Layer 7: the spreading itself. -/
import Derived.Test.YtkapmnbkmljpkaeSpread
namespace Go.Proofs.Ytkapmnbkmljpkae
open Go.RowKit
set_option linter.unusedSimpArgs false
set_option linter.unusedVariables false
theorem spread_row {room adv l : Int} {n : Nat} (hl : leftS room adv = l) (j : Nat) (hj : j < n) : (spreadXs 3 room adv n false).getD j 0 = spreadAt l n j := by
  unfold spreadXs
  rw [if_pos ⟨rfl, rfl⟩, hl]
  simp [List.getD_eq_getElem?_getD, hj]
set_option maxHeartbeats 1000000 in
theorem spread_pos (room adv : Int) (n : Nat) (w : World) (h : almB 3 room adv = true) (h2 : inB 0 80 (n : Int) = true) (h3 : adv < room) :
    Calls Try.prog 10 #[.int .i64 3, .int .i64 room, .int .i64 adv, .int .i64 (n : Int), .bool false] w (Spreads 3 room adv n false w) := by
  have hs : sprB 3 room adv n = true := by unfold sprB; rw [h, h2]; rfl
  have Hs := Lib.hid hs
  have hl : leftS room adv = room - adv := if_pos h3
  have hr := fun j => spread_row (n := n) hl j
  have Hr := Lib.hid hr
  clear hs hl hr
  have hn : n ≤ 80 := by have := (inB_true.1 h2).2; omega
  obtain ⟨-, ⟨b1, b2⟩, c1, c2⟩ := almB_true.1 h
  have hmk := run_make_row' (P := Try.prog) 27 3 (.int .i64 0) 8 Try.underlying27 intInfo rfl .i64 .i64 n (by omega) (by omega)
  have hk : Kept w w := Kept.refl w
  go_enter Try.func10, Try.ntmps10
  go_wp2_with fail
  refine (alignMay_any _ _ _ _).mono ?_
  rintro e w1 ⟨rfl, hn⟩
  replace hk := hk.trans hn
  clear hn
  go_wp2_with fail
  refine with_boxes1 ?_
  intro X hX p
  have hsz := hk.size
  replace hk := hk.trans hX
  clear hX
  replace p_l := p.lt
  replace p_0 := p.at 0 _ rfl
  refine (each1_any _ _ _ _ _ p_0).mono ?_
  rintro e w1 ⟨rfl, rfl⟩
  go_wp2
  have hsz := hk.size
  have hB : w.heap.size ≤ X.heap.size := hk.size
  generalize hL : room - adv = l at *
  have l1 : 1 ≤ l := by omega
  have l2 : l ≤ 1073741824 := by omega
  clear hL b1 b2 c1 c2 h3 hmk p p_l p_0
  go_loopw [40] (fun i wx => ∃ k : Nat, k ≤ n ∧ i = .int .i64 k ∧ Kept w wx ∧ wx.rowIs X.heap.size 3 n (fun j => .int .i64 (if j < k then spreadAt l n j else 0))) (fun i _ => n - (intOf i).toNat)
  case atStart => exact ⟨0, Nat.zero_le _, rfl, (by first | ((repeat (first | with_reducible exact hk | with_reducible refine Kept.alloc ?_ _ | with_reducible refine Kept.drew ?_ | with_reducible refine Kept.drewN ?_ _ | with_reducible refine Kept.set ?_ (by first | (simp; done) | (simp; omega) | omega) _)); done) | exact hk | exact (hk.alloc _) | exact ((hk.alloc _).alloc _) | exact (((hk.alloc _).alloc _).alloc _) | exact ((((hk.alloc _).alloc _).alloc _).alloc _) | exact (((((hk.alloc _).alloc _).alloc _).alloc _).alloc _) | exact ((((((hk.alloc _).alloc _).alloc _).alloc _).alloc _).alloc _) | (repeat (first | exact hk | refine Kept.alloc ?_ _ | refine Kept.drew ?_ | refine Kept.drewN ?_ _ | refine Kept.set ?_ (by first | (simp; done) | (simp; omega) | omega) _))), (World.rowIs_made _ _ _ _).congr (fun j _ => by simp)⟩
  case round =>
    clear hk
    obtain ⟨k, hk4, rfl, hk, ho⟩ := hrel
    have hz := ho.lt
    by_cases hlt : k < n
    · have o1 := ho.cell hlt
      have o2 := ho.frozen k
      simp only [Nat.lt_irrefl, if_false] at o1
      have hi0 : (0 : Int) ≤ (k : Int) := Int.natCast_nonneg _
      have hi1 : (k : Int) < (n : Int) := by omega
      have hn1 : (1 : Int) ≤ (n : Int) := by omega
      have e1 : 0 ≤ l / (n : Int) := Int.ediv_nonneg (by omega) (by omega)
      have e2 : l / (n : Int) ≤ l := Int.ediv_le_self _ (by omega)
      have e3 := Int.emod_nonneg l (show (n : Int) ≠ 0 by omega)
      by_cases hc : (k : Int) < l % (n : Int)
      · have hv : spreadAt l n k = l / n + 1 := by unfold spreadAt; rw [if_pos hc]
        have Hv := Lib.hid hv
        clear hv
        go_wp2
        go_roundw
        case rel => exact ⟨k + 1, by omega, by go_num, (by first | ((repeat (first | with_reducible exact hk | with_reducible refine Kept.alloc ?_ _ | with_reducible refine Kept.drew ?_ | with_reducible refine Kept.drewN ?_ _ | with_reducible refine Kept.set ?_ (by first | (simp; done) | (simp; omega) | omega) _)); done) | exact hk | exact (hk.alloc _) | exact ((hk.alloc _).alloc _) | exact (((hk.alloc _).alloc _).alloc _) | exact ((((hk.alloc _).alloc _).alloc _).alloc _) | exact (((((hk.alloc _).alloc _).alloc _).alloc _).alloc _) | exact ((((((hk.alloc _).alloc _).alloc _).alloc _).alloc _).alloc _) | (repeat (first | exact hk | refine Kept.alloc ?_ _ | refine Kept.drew ?_ | refine Kept.drewN ?_ _ | refine Kept.set ?_ (by first | (simp; done) | (simp; omega) | omega) _))), ((ho.set k _).set k _).congr (fun j hj => by
          by_cases e : j = k
          · subst e; rw [if_pos rfl, if_pos (by omega), Hv.out]
          · rw [if_neg e, if_neg e]; by_cases e2 : j < k
            · rw [if_pos e2, if_pos (by omega)]
            · rw [if_neg e2, if_neg (by omega)])⟩
        case measure => simp [intOf]; omega
      · have hc' : l % (n : Int) ≤ k := by omega
        have hv : spreadAt l n k = l / n := by unfold spreadAt; rw [if_neg hc, Int.add_zero]
        have Hv := Lib.hid hv
        clear hv
        go_wp2
        go_roundw
        case rel => exact ⟨k + 1, by omega, by go_num, (by first | ((repeat (first | with_reducible exact hk | with_reducible refine Kept.alloc ?_ _ | with_reducible refine Kept.drew ?_ | with_reducible refine Kept.drewN ?_ _ | with_reducible refine Kept.set ?_ (by first | (simp; done) | (simp; omega) | omega) _)); done) | exact hk | exact (hk.alloc _) | exact ((hk.alloc _).alloc _) | exact (((hk.alloc _).alloc _).alloc _) | exact ((((hk.alloc _).alloc _).alloc _).alloc _) | exact (((((hk.alloc _).alloc _).alloc _).alloc _).alloc _) | exact ((((((hk.alloc _).alloc _).alloc _).alloc _).alloc _).alloc _) | (repeat (first | exact hk | refine Kept.alloc ?_ _ | refine Kept.drew ?_ | refine Kept.drewN ?_ _ | refine Kept.set ?_ (by first | (simp; done) | (simp; omega) | omega) _))), (ho.set k _).congr (fun j hj => by
          by_cases e : j = k
          · subst e; rw [if_pos rfl, if_pos (by omega), Hv.out]
          · rw [if_neg e]; by_cases e2 : j < k
            · rw [if_pos e2, if_pos (by omega)]
            · rw [if_neg e2, if_neg (by omega)])⟩
        case measure => simp [intOf]; omega
    · obtain rfl : k = n := by omega
      go_wp2
      go_ret2
      exact sprYes Hs.out (newInts_row ho hB (spreadXs_len _ _ _ _ _) (fun j hj => by rw [if_pos hj, Hr.out j hj])) hk
theorem spread_zero (room adv : Int) (n : Nat) (w : World) (h : almB 3 room adv = true) (h2 : inB 0 80 (n : Int) = true) (h3 : room ≤ adv) :
    Calls Try.prog 10 #[.int .i64 3, .int .i64 room, .int .i64 adv, .int .i64 (n : Int), .bool false] w (Spreads 3 room adv n false w) := by
  have hs : sprB 3 room adv n = true := by unfold sprB; rw [h, h2]; rfl
  have Hs := Lib.hid hs
  have hl : leftS room adv = 0 := if_neg (by omega)
  have hr : ∀ j, j < n → (spreadXs 3 room adv n false).getD j 0 = 0 := fun j hj => by
    rw [spread_row hl j hj]; unfold spreadAt; simp; omega
  have Hr := Lib.hid hr
  clear hs hl hr
  have hn : n ≤ 80 := by have := (inB_true.1 h2).2; omega
  obtain ⟨-, ⟨b1, b2⟩, c1, c2⟩ := almB_true.1 h
  have hmk := run_make_row' (P := Try.prog) 27 3 (.int .i64 0) 8 Try.underlying27 intInfo rfl .i64 .i64 n (by omega) (by omega)
  rcases Int.lt_or_eq_of_le h3 with h4 | h4
  · clear h3
    have hk : Kept w w := Kept.refl w
    go_enter Try.func10, Try.ntmps10
    go_wp2_with fail
    refine (alignMay_any _ _ _ _).mono ?_
    rintro e w1 ⟨rfl, hn⟩
    replace hk := hk.trans hn
    clear hn
    go_wp2_with fail
    refine with_boxes1 ?_
    intro X hX p
    have hsz := hk.size
    replace hk := hk.trans hX
    clear hX
    replace p_l := p.lt
    replace p_0 := p.at 0 _ rfl
    refine (each1_any _ _ _ _ _ p_0).mono ?_
    rintro e w1 ⟨rfl, rfl⟩
    go_wp2
    have hB : w.heap.size ≤ X.heap.size := hk.size
    clear b1 b2 c1 c2 hmk p p_l p_0
    go_loopw [40] (fun i wx => ∃ k : Nat, k ≤ n ∧ i = .int .i64 k ∧ Kept w wx ∧ wx.rowIs X.heap.size 3 n (fun j => .int .i64 0)) (fun i _ => n - (intOf i).toNat)
    case atStart => exact ⟨0, Nat.zero_le _, rfl, (by first | ((repeat (first | with_reducible exact hk | with_reducible refine Kept.alloc ?_ _ | with_reducible refine Kept.drew ?_ | with_reducible refine Kept.drewN ?_ _ | with_reducible refine Kept.set ?_ (by first | (simp; done) | (simp; omega) | omega) _)); done) | exact hk | exact (hk.alloc _) | exact ((hk.alloc _).alloc _) | exact (((hk.alloc _).alloc _).alloc _) | exact ((((hk.alloc _).alloc _).alloc _).alloc _) | exact (((((hk.alloc _).alloc _).alloc _).alloc _).alloc _) | exact ((((((hk.alloc _).alloc _).alloc _).alloc _).alloc _).alloc _) | (repeat (first | exact hk | refine Kept.alloc ?_ _ | refine Kept.drew ?_ | refine Kept.drewN ?_ _ | refine Kept.set ?_ (by first | (simp; done) | (simp; omega) | omega) _))), World.rowIs_made _ _ _ _⟩
    case round =>
      clear hk
      obtain ⟨k, hk4, rfl, hk, ho⟩ := hrel
      have hz := ho.lt
      by_cases hlt : k < n
      · have o1 := ho.cell hlt
        have o2 := ho.frozen k
        have hi0 : (0 : Int) ≤ (k : Int) := Int.natCast_nonneg _
        have hi1 : (k : Int) < (n : Int) := by omega
        have hn1 : (1 : Int) ≤ (n : Int) := by omega
        go_wp2
        go_roundw
        case rel => exact ⟨k + 1, by omega, by go_num, (by first | ((repeat (first | with_reducible exact hk | with_reducible refine Kept.alloc ?_ _ | with_reducible refine Kept.drew ?_ | with_reducible refine Kept.drewN ?_ _ | with_reducible refine Kept.set ?_ (by first | (simp; done) | (simp; omega) | omega) _)); done) | exact hk | exact (hk.alloc _) | exact ((hk.alloc _).alloc _) | exact (((hk.alloc _).alloc _).alloc _) | exact ((((hk.alloc _).alloc _).alloc _).alloc _) | exact (((((hk.alloc _).alloc _).alloc _).alloc _).alloc _) | exact ((((((hk.alloc _).alloc _).alloc _).alloc _).alloc _).alloc _) | (repeat (first | exact hk | refine Kept.alloc ?_ _ | refine Kept.drew ?_ | refine Kept.drewN ?_ _ | refine Kept.set ?_ (by first | (simp; done) | (simp; omega) | omega) _))), (ho.set k _).congr (fun j hj => by split <;> rfl)⟩
        case measure => simp [intOf]; omega
      · obtain rfl : k = n := by omega
        go_wp2
        go_ret2
        exact sprYes Hs.out (newInts_row ho hB (spreadXs_len _ _ _ _ _) (fun j hj => by rw [Hr.out j hj])) hk
  · subst h4
    clear h3
    have hk : Kept w w := Kept.refl w
    go_enter Try.func10, Try.ntmps10
    go_wp2_with fail
    refine (alignMay_any _ _ _ _).mono ?_
    rintro e w1 ⟨rfl, hn⟩
    replace hk := hk.trans hn
    clear hn
    go_wp2_with fail
    refine with_boxes1 ?_
    intro X hX p
    have hsz := hk.size
    replace hk := hk.trans hX
    clear hX
    replace p_l := p.lt
    replace p_0 := p.at 0 _ rfl
    refine (each1_any _ _ _ _ _ p_0).mono ?_
    rintro e w1 ⟨rfl, rfl⟩
    go_wp2
    have hB : w.heap.size ≤ X.heap.size := hk.size
    clear b1 b2 c1 c2 hmk p p_l p_0
    go_loopw [40] (fun i wx => ∃ k : Nat, k ≤ n ∧ i = .int .i64 k ∧ Kept w wx ∧ wx.rowIs X.heap.size 3 n (fun j => .int .i64 0)) (fun i _ => n - (intOf i).toNat)
    case atStart => exact ⟨0, Nat.zero_le _, rfl, (by first | ((repeat (first | with_reducible exact hk | with_reducible refine Kept.alloc ?_ _ | with_reducible refine Kept.drew ?_ | with_reducible refine Kept.drewN ?_ _ | with_reducible refine Kept.set ?_ (by first | (simp; done) | (simp; omega) | omega) _)); done) | exact hk | exact (hk.alloc _) | exact ((hk.alloc _).alloc _) | exact (((hk.alloc _).alloc _).alloc _) | exact ((((hk.alloc _).alloc _).alloc _).alloc _) | exact (((((hk.alloc _).alloc _).alloc _).alloc _).alloc _) | exact ((((((hk.alloc _).alloc _).alloc _).alloc _).alloc _).alloc _) | (repeat (first | exact hk | refine Kept.alloc ?_ _ | refine Kept.drew ?_ | refine Kept.drewN ?_ _ | refine Kept.set ?_ (by first | (simp; done) | (simp; omega) | omega) _))), World.rowIs_made _ _ _ _⟩
    case round =>
      clear hk
      obtain ⟨k, hk4, rfl, hk, ho⟩ := hrel
      have hz := ho.lt
      by_cases hlt : k < n
      · have o1 := ho.cell hlt
        have o2 := ho.frozen k
        have hi0 : (0 : Int) ≤ (k : Int) := Int.natCast_nonneg _
        have hi1 : (k : Int) < (n : Int) := by omega
        have hn1 : (1 : Int) ≤ (n : Int) := by omega
        go_wp2
        go_roundw
        case rel => exact ⟨k + 1, by omega, by go_num, (by first | ((repeat (first | with_reducible exact hk | with_reducible refine Kept.alloc ?_ _ | with_reducible refine Kept.drew ?_ | with_reducible refine Kept.drewN ?_ _ | with_reducible refine Kept.set ?_ (by first | (simp; done) | (simp; omega) | omega) _)); done) | exact hk | exact (hk.alloc _) | exact ((hk.alloc _).alloc _) | exact (((hk.alloc _).alloc _).alloc _) | exact ((((hk.alloc _).alloc _).alloc _).alloc _) | exact (((((hk.alloc _).alloc _).alloc _).alloc _).alloc _) | exact ((((((hk.alloc _).alloc _).alloc _).alloc _).alloc _).alloc _) | (repeat (first | exact hk | refine Kept.alloc ?_ _ | refine Kept.drew ?_ | refine Kept.drewN ?_ _ | refine Kept.set ?_ (by first | (simp; done) | (simp; omega) | omega) _))), (ho.set k _).congr (fun j hj => by split <;> rfl)⟩
        case measure => simp [intOf]; omega
      · obtain rfl : k = n := by omega
        go_wp2
        go_ret2
        exact sprYes Hs.out (newInts_row ho hB (spreadXs_len _ _ _ _ _) (fun j hj => by rw [Hr.out j hj])) hk
theorem spread_any (how room adv gaps : Int) (last : Bool) (w : World) :
    Calls Try.prog 10 #[.int .i64 how, .int .i64 room, .int .i64 adv, .int .i64 gaps, .bool last] w (Spreads how room adv gaps last w) := by
  cases h : almB how room adv
  · exact spread_no1 _ _ _ _ _ w h
  cases h2 : inB 0 80 gaps
  · exact spread_no2 _ _ _ _ _ w h h2
  obtain ⟨n, rfl⟩ := Int.eq_ofNat_of_zero_le (inB_true.1 h2).1
  by_cases h3 : how = 3 ∧ last = false
  · obtain ⟨rfl, rfl⟩ := h3
    rcases Int.lt_or_le adv room with h4 | h4
    · exact spread_pos _ _ _ w h h2 h4
    · exact spread_zero _ _ _ w h h2 h4
  · exact spread_plain _ _ _ _ _ w h h2 h3
end Go.Proofs.Ytkapmnbkmljpkae
