/- Layer 7: aligns, numbers that are none. -/
import Derived.Test.YtkapmnbkmljpkaeLaws7
import Derived.Deep.RegionHeld3
namespace Go.Proofs.Ytkapmnbkmljpkae
open Go.RowKit
set_option linter.unusedSimpArgs false
set_option linter.unusedVariables false
theorem almB_out {how room adv : Int} (h : how < 0 ∨ 3 < how ∨ room < 0 ∨ 1073741824 < room ∨ adv < 0 ∨ 1073741824 < adv) : almB how room adv = false := by
  rw [Bool.eq_false_iff, ne_eq, almB_true]; omega
theorem sprE_no {how room adv gaps : Int} (h : almB how room adv = false) : sprE how room adv gaps = 700 := by unfold sprE sprB; rw [h]; rfl
theorem sprE_out {how room adv gaps : Int} (h : gaps < 0 ∨ 80 < gaps) : sprE how room adv gaps = 700 := by
  unfold sprE sprB; rw [inB_false.2 h]; simp
theorem held3 {w W w1 : World} {g1 g2 g3 i : Nat} {x y z : Value} (hh : Kept w W ∧ W.cell? ⟨g1, i, none⟩ = some x ∧ W.cell? ⟨g2, i, none⟩ = some y ∧ W.cell? ⟨g3, i, none⟩ = some z ∧ g1 < W.heap.size ∧ g2 < W.heap.size ∧ g3 < W.heap.size) (hn : Kept W w1) :
    Kept w w1 ∧ w1.cell? ⟨g1, i, none⟩ = some x ∧ w1.cell? ⟨g2, i, none⟩ = some y ∧ w1.cell? ⟨g3, i, none⟩ = some z ∧ g1 < w1.heap.size ∧ g2 < w1.heap.size ∧ g3 < w1.heap.size :=
  ⟨hh.1.trans hn, (hn.cell hh.2.2.2.2.1).trans hh.2.1, (hn.cell hh.2.2.2.2.2.1).trans hh.2.2.1, (hn.cell hh.2.2.2.2.2.2).trans hh.2.2.2.1, Nat.lt_of_lt_of_le hh.2.2.2.2.1 hn.size, Nat.lt_of_lt_of_le hh.2.2.2.2.2.1 hn.size, Nat.lt_of_lt_of_le hh.2.2.2.2.2.2 hn.size⟩
theorem zeros_none {w w' : World} {v : Value} (h : NewInts w w' v []) : ∃ A cap, v = .slice A 0 cap := by
  rcases h with ⟨hv, _⟩ | ⟨g, cap, hv, _⟩
  · exact ⟨_, _, hv⟩
  · exact ⟨_, _, hv⟩
set_option maxHeartbeats 2000000 in
theorem alignForms_0 (a b x : Int) (hi : wrap64 ((IntKind.u64.wrap a).tmod 6) = 0) (hx : bits .and .i64 b 1023 = x) (x1 : 0 ≤ x) (x2 : x ≤ 1023) (w : World) :
    Calls Try.prog 5 #[.int .i64 a, .int .i64 b] w fun e w' => e = .returned (.bool true) ∧ Kept w w' := by
  have m := almB_out (how := (-(1 + x))) (room := 5) (adv := 1) (by omega)
  have e0 := offS_no m
  have e1 := sprE_no (gaps := 1) m
  have e2 : sprE 0 5 1 (-(1 + x)) = 700 := sprE_out (by omega)
  have e3 : sprE 0 5 1 (80 + (1 + x)) = 700 := sprE_out (by omega)
  have e4 : sprE 3 5 1 0 = 0 := by decide
  have e5 : sprXs 3 5 1 0 false = [] := by decide
  have E5 := Lib.hid e5
  clear e5 m
  have hk : Kept w w := Kept.refl w
  go_enter Try.func5, Try.ntmps5
  go_wp2_with fail
  refine (awake7_any _).mono ?_
  rintro e w1 ⟨rfl, hn⟩
  replace hk := hk.trans hn
  clear hn
  go_wp2_with fail
  refine code_boxes3 ?_
  intro X hX p q r
  replace hk := hk.trans hX
  clear hX
  simp only [hi]
  clear hi
  have hS := held3 ⟨hk, p.at 0 _ rfl, q.at 0 _ rfl, r.at 0 _ rfl, p.lt, q.lt, r.lt⟩ ((Kept.refl _).drew)
  clear p q r hk
  go_region_held3 (fun W => Kept w W ∧ W.cell? ⟨w1.heap.size, 0, none⟩ = some (.int .i64 (-(1 + x))) ∧ W.cell? ⟨w1.heap.size + 1, 0, none⟩ = some (.int .i64 5) ∧ W.cell? ⟨w1.heap.size + 1 + 1, 0, none⟩ = some (.int .i64 1) ∧ w1.heap.size < W.heap.size ∧ w1.heap.size + 1 < W.heap.size ∧ w1.heap.size + 1 + 1 < W.heap.size)
    (first | exact hS | assumption | exact held3 ‹Kept w _ ∧ _› hn)
    (first
      | (go_at_call 8; refine (alignOffset_any _ _ _ _).mono ?_; rintro e w3 ⟨rfl, hn⟩))
  go_wp2_with fail
  replace hS := held3 ‹Kept w _ ∧ _› ((Kept.refl _).drew)
  go_region_held3 (fun W => Kept w W ∧ W.cell? ⟨w1.heap.size, 0, none⟩ = some (.int .i64 (-(1 + x))) ∧ W.cell? ⟨w1.heap.size + 1, 0, none⟩ = some (.int .i64 5) ∧ W.cell? ⟨w1.heap.size + 1 + 1, 0, none⟩ = some (.int .i64 1) ∧ w1.heap.size < W.heap.size ∧ w1.heap.size + 1 < W.heap.size ∧ w1.heap.size + 1 + 1 < W.heap.size)
    (first | exact hS | assumption | exact held3 ‹Kept w _ ∧ _› hn)
    (first
      | (go_at_call 10; refine (spread_any _ _ _ _ _ _).mono ?_; rintro e w4 ⟨v, rfl, _, hn⟩))
  obtain ⟨hk, _⟩ := ‹Kept w _ ∧ _›
  go_wp2_with fail
  refine (spread_any _ _ _ _ _ _).mono ?_
  rintro e w1 ⟨v1, rfl, _, hn⟩
  replace hk := hk.trans hn
  clear hn
  go_wp2_with fail
  refine (spread_any _ _ _ _ _ _).mono ?_
  rintro e w1 ⟨v2, rfl, _, hn⟩
  replace hk := hk.trans hn
  clear hn
  go_wp2_with fail
  refine (spread_any _ _ _ _ _ _).mono ?_
  rintro e w1 ⟨v3, rfl, hv, hn⟩
  replace hk := hk.trans hn
  clear hn
  rw [E5.out] at hv
  obtain ⟨A, cap, rfl⟩ := zeros_none hv
  clear hv
  go_wp2_with (first
    | (go_at_call 12; refine (num_any _ _).mono ?_; rintro e w1 ⟨rfl, rfl⟩)
    | fail)
  go_ret
  exact ⟨rfl, (by first | ((repeat (first | with_reducible exact hk | with_reducible refine Kept.alloc ?_ _ | with_reducible refine Kept.drew ?_ | with_reducible refine Kept.drewN ?_ _ | with_reducible refine Kept.set ?_ (by first | (simp; done) | (simp; omega) | omega) _)); done) | exact hk | exact (hk.alloc _) | exact ((hk.alloc _).alloc _) | exact (((hk.alloc _).alloc _).alloc _) | exact ((((hk.alloc _).alloc _).alloc _).alloc _) | exact (((((hk.alloc _).alloc _).alloc _).alloc _).alloc _) | exact ((((((hk.alloc _).alloc _).alloc _).alloc _).alloc _).alloc _) | (repeat (first | exact hk | refine Kept.alloc ?_ _ | refine Kept.drew ?_ | refine Kept.drewN ?_ _ | refine Kept.set ?_ (by first | (simp; done) | (simp; omega) | omega) _)))⟩
set_option maxHeartbeats 2000000 in
theorem alignForms_1 (a b x : Int) (hi : wrap64 ((IntKind.u64.wrap a).tmod 6) = 1) (hx : bits .and .i64 b 1023 = x) (x1 : 0 ≤ x) (x2 : x ≤ 1023) (w : World) :
    Calls Try.prog 5 #[.int .i64 a, .int .i64 b] w fun e w' => e = .returned (.bool true) ∧ Kept w w' := by
  have m := almB_out (how := (3 + (1 + x))) (room := 5) (adv := 1) (by omega)
  have e0 := offS_no m
  have e1 := sprE_no (gaps := 1) m
  have e2 : sprE 0 5 1 (-(1 + x)) = 700 := sprE_out (by omega)
  have e3 : sprE 0 5 1 (80 + (1 + x)) = 700 := sprE_out (by omega)
  have e4 : sprE 3 5 1 0 = 0 := by decide
  have e5 : sprXs 3 5 1 0 false = [] := by decide
  have E5 := Lib.hid e5
  clear e5 m
  have hk : Kept w w := Kept.refl w
  go_enter Try.func5, Try.ntmps5
  go_wp2_with fail
  refine (awake7_any _).mono ?_
  rintro e w1 ⟨rfl, hn⟩
  replace hk := hk.trans hn
  clear hn
  go_wp2_with fail
  refine code_boxes3 ?_
  intro X hX p q r
  replace hk := hk.trans hX
  clear hX
  simp only [hi]
  clear hi
  have hS := held3 ⟨hk, p.at 1 _ rfl, q.at 1 _ rfl, r.at 1 _ rfl, p.lt, q.lt, r.lt⟩ ((Kept.refl _).drew)
  clear p q r hk
  go_region_held3 (fun W => Kept w W ∧ W.cell? ⟨w1.heap.size, 1, none⟩ = some (.int .i64 (3 + (1 + x))) ∧ W.cell? ⟨w1.heap.size + 1, 1, none⟩ = some (.int .i64 5) ∧ W.cell? ⟨w1.heap.size + 1 + 1, 1, none⟩ = some (.int .i64 1) ∧ w1.heap.size < W.heap.size ∧ w1.heap.size + 1 < W.heap.size ∧ w1.heap.size + 1 + 1 < W.heap.size)
    (first | exact hS | assumption | exact held3 ‹Kept w _ ∧ _› hn)
    (first
      | (go_at_call 8; refine (alignOffset_any _ _ _ _).mono ?_; rintro e w3 ⟨rfl, hn⟩))
  go_wp2_with fail
  replace hS := held3 ‹Kept w _ ∧ _› ((Kept.refl _).drew)
  go_region_held3 (fun W => Kept w W ∧ W.cell? ⟨w1.heap.size, 1, none⟩ = some (.int .i64 (3 + (1 + x))) ∧ W.cell? ⟨w1.heap.size + 1, 1, none⟩ = some (.int .i64 5) ∧ W.cell? ⟨w1.heap.size + 1 + 1, 1, none⟩ = some (.int .i64 1) ∧ w1.heap.size < W.heap.size ∧ w1.heap.size + 1 < W.heap.size ∧ w1.heap.size + 1 + 1 < W.heap.size)
    (first | exact hS | assumption | exact held3 ‹Kept w _ ∧ _› hn)
    (first
      | (go_at_call 10; refine (spread_any _ _ _ _ _ _).mono ?_; rintro e w4 ⟨v, rfl, _, hn⟩))
  obtain ⟨hk, _⟩ := ‹Kept w _ ∧ _›
  go_wp2_with fail
  refine (spread_any _ _ _ _ _ _).mono ?_
  rintro e w1 ⟨v1, rfl, _, hn⟩
  replace hk := hk.trans hn
  clear hn
  go_wp2_with fail
  refine (spread_any _ _ _ _ _ _).mono ?_
  rintro e w1 ⟨v2, rfl, _, hn⟩
  replace hk := hk.trans hn
  clear hn
  go_wp2_with fail
  refine (spread_any _ _ _ _ _ _).mono ?_
  rintro e w1 ⟨v3, rfl, hv, hn⟩
  replace hk := hk.trans hn
  clear hn
  rw [E5.out] at hv
  obtain ⟨A, cap, rfl⟩ := zeros_none hv
  clear hv
  go_wp2_with (first
    | (go_at_call 12; refine (num_any _ _).mono ?_; rintro e w1 ⟨rfl, rfl⟩)
    | fail)
  go_ret
  exact ⟨rfl, (by first | ((repeat (first | with_reducible exact hk | with_reducible refine Kept.alloc ?_ _ | with_reducible refine Kept.drew ?_ | with_reducible refine Kept.drewN ?_ _ | with_reducible refine Kept.set ?_ (by first | (simp; done) | (simp; omega) | omega) _)); done) | exact hk | exact (hk.alloc _) | exact ((hk.alloc _).alloc _) | exact (((hk.alloc _).alloc _).alloc _) | exact ((((hk.alloc _).alloc _).alloc _).alloc _) | exact (((((hk.alloc _).alloc _).alloc _).alloc _).alloc _) | exact ((((((hk.alloc _).alloc _).alloc _).alloc _).alloc _).alloc _) | (repeat (first | exact hk | refine Kept.alloc ?_ _ | refine Kept.drew ?_ | refine Kept.drewN ?_ _ | refine Kept.set ?_ (by first | (simp; done) | (simp; omega) | omega) _)))⟩
set_option maxHeartbeats 2000000 in
theorem alignForms_2 (a b x : Int) (hi : wrap64 ((IntKind.u64.wrap a).tmod 6) = 2) (hx : bits .and .i64 b 1023 = x) (x1 : 0 ≤ x) (x2 : x ≤ 1023) (w : World) :
    Calls Try.prog 5 #[.int .i64 a, .int .i64 b] w fun e w' => e = .returned (.bool true) ∧ Kept w w' := by
  have m := almB_out (how := 0) (room := (-(1 + x))) (adv := 1) (by omega)
  have e0 := offS_no m
  have e1 := sprE_no (gaps := 1) m
  have e2 : sprE 0 5 1 (-(1 + x)) = 700 := sprE_out (by omega)
  have e3 : sprE 0 5 1 (80 + (1 + x)) = 700 := sprE_out (by omega)
  have e4 : sprE 3 5 1 0 = 0 := by decide
  have e5 : sprXs 3 5 1 0 false = [] := by decide
  have E5 := Lib.hid e5
  clear e5 m
  have hk : Kept w w := Kept.refl w
  go_enter Try.func5, Try.ntmps5
  go_wp2_with fail
  refine (awake7_any _).mono ?_
  rintro e w1 ⟨rfl, hn⟩
  replace hk := hk.trans hn
  clear hn
  go_wp2_with fail
  refine code_boxes3 ?_
  intro X hX p q r
  replace hk := hk.trans hX
  clear hX
  simp only [hi]
  clear hi
  have hS := held3 ⟨hk, p.at 2 _ rfl, q.at 2 _ rfl, r.at 2 _ rfl, p.lt, q.lt, r.lt⟩ ((Kept.refl _).drew)
  clear p q r hk
  go_region_held3 (fun W => Kept w W ∧ W.cell? ⟨w1.heap.size, 2, none⟩ = some (.int .i64 0) ∧ W.cell? ⟨w1.heap.size + 1, 2, none⟩ = some (.int .i64 (-(1 + x))) ∧ W.cell? ⟨w1.heap.size + 1 + 1, 2, none⟩ = some (.int .i64 1) ∧ w1.heap.size < W.heap.size ∧ w1.heap.size + 1 < W.heap.size ∧ w1.heap.size + 1 + 1 < W.heap.size)
    (first | exact hS | assumption | exact held3 ‹Kept w _ ∧ _› hn)
    (first
      | (go_at_call 8; refine (alignOffset_any _ _ _ _).mono ?_; rintro e w3 ⟨rfl, hn⟩))
  go_wp2_with fail
  replace hS := held3 ‹Kept w _ ∧ _› ((Kept.refl _).drew)
  go_region_held3 (fun W => Kept w W ∧ W.cell? ⟨w1.heap.size, 2, none⟩ = some (.int .i64 0) ∧ W.cell? ⟨w1.heap.size + 1, 2, none⟩ = some (.int .i64 (-(1 + x))) ∧ W.cell? ⟨w1.heap.size + 1 + 1, 2, none⟩ = some (.int .i64 1) ∧ w1.heap.size < W.heap.size ∧ w1.heap.size + 1 < W.heap.size ∧ w1.heap.size + 1 + 1 < W.heap.size)
    (first | exact hS | assumption | exact held3 ‹Kept w _ ∧ _› hn)
    (first
      | (go_at_call 10; refine (spread_any _ _ _ _ _ _).mono ?_; rintro e w4 ⟨v, rfl, _, hn⟩))
  obtain ⟨hk, _⟩ := ‹Kept w _ ∧ _›
  go_wp2_with fail
  refine (spread_any _ _ _ _ _ _).mono ?_
  rintro e w1 ⟨v1, rfl, _, hn⟩
  replace hk := hk.trans hn
  clear hn
  go_wp2_with fail
  refine (spread_any _ _ _ _ _ _).mono ?_
  rintro e w1 ⟨v2, rfl, _, hn⟩
  replace hk := hk.trans hn
  clear hn
  go_wp2_with fail
  refine (spread_any _ _ _ _ _ _).mono ?_
  rintro e w1 ⟨v3, rfl, hv, hn⟩
  replace hk := hk.trans hn
  clear hn
  rw [E5.out] at hv
  obtain ⟨A, cap, rfl⟩ := zeros_none hv
  clear hv
  go_wp2_with (first
    | (go_at_call 12; refine (num_any _ _).mono ?_; rintro e w1 ⟨rfl, rfl⟩)
    | fail)
  go_ret
  exact ⟨rfl, (by first | ((repeat (first | with_reducible exact hk | with_reducible refine Kept.alloc ?_ _ | with_reducible refine Kept.drew ?_ | with_reducible refine Kept.drewN ?_ _ | with_reducible refine Kept.set ?_ (by first | (simp; done) | (simp; omega) | omega) _)); done) | exact hk | exact (hk.alloc _) | exact ((hk.alloc _).alloc _) | exact (((hk.alloc _).alloc _).alloc _) | exact ((((hk.alloc _).alloc _).alloc _).alloc _) | exact (((((hk.alloc _).alloc _).alloc _).alloc _).alloc _) | exact ((((((hk.alloc _).alloc _).alloc _).alloc _).alloc _).alloc _) | (repeat (first | exact hk | refine Kept.alloc ?_ _ | refine Kept.drew ?_ | refine Kept.drewN ?_ _ | refine Kept.set ?_ (by first | (simp; done) | (simp; omega) | omega) _)))⟩
set_option maxHeartbeats 2000000 in
theorem alignForms_3 (a b x : Int) (hi : wrap64 ((IntKind.u64.wrap a).tmod 6) = 3) (hx : bits .and .i64 b 1023 = x) (x1 : 0 ≤ x) (x2 : x ≤ 1023) (w : World) :
    Calls Try.prog 5 #[.int .i64 a, .int .i64 b] w fun e w' => e = .returned (.bool true) ∧ Kept w w' := by
  have m := almB_out (how := 0) (room := (1073741824 + (1 + x))) (adv := 1) (by omega)
  have e0 := offS_no m
  have e1 := sprE_no (gaps := 1) m
  have e2 : sprE 0 5 1 (-(1 + x)) = 700 := sprE_out (by omega)
  have e3 : sprE 0 5 1 (80 + (1 + x)) = 700 := sprE_out (by omega)
  have e4 : sprE 3 5 1 0 = 0 := by decide
  have e5 : sprXs 3 5 1 0 false = [] := by decide
  have E5 := Lib.hid e5
  clear e5 m
  have hk : Kept w w := Kept.refl w
  go_enter Try.func5, Try.ntmps5
  go_wp2_with fail
  refine (awake7_any _).mono ?_
  rintro e w1 ⟨rfl, hn⟩
  replace hk := hk.trans hn
  clear hn
  go_wp2_with fail
  refine code_boxes3 ?_
  intro X hX p q r
  replace hk := hk.trans hX
  clear hX
  simp only [hi]
  clear hi
  have hS := held3 ⟨hk, p.at 3 _ rfl, q.at 3 _ rfl, r.at 3 _ rfl, p.lt, q.lt, r.lt⟩ ((Kept.refl _).drew)
  clear p q r hk
  go_region_held3 (fun W => Kept w W ∧ W.cell? ⟨w1.heap.size, 3, none⟩ = some (.int .i64 0) ∧ W.cell? ⟨w1.heap.size + 1, 3, none⟩ = some (.int .i64 (1073741824 + (1 + x))) ∧ W.cell? ⟨w1.heap.size + 1 + 1, 3, none⟩ = some (.int .i64 1) ∧ w1.heap.size < W.heap.size ∧ w1.heap.size + 1 < W.heap.size ∧ w1.heap.size + 1 + 1 < W.heap.size)
    (first | exact hS | assumption | exact held3 ‹Kept w _ ∧ _› hn)
    (first
      | (go_at_call 8; refine (alignOffset_any _ _ _ _).mono ?_; rintro e w3 ⟨rfl, hn⟩))
  go_wp2_with fail
  replace hS := held3 ‹Kept w _ ∧ _› ((Kept.refl _).drew)
  go_region_held3 (fun W => Kept w W ∧ W.cell? ⟨w1.heap.size, 3, none⟩ = some (.int .i64 0) ∧ W.cell? ⟨w1.heap.size + 1, 3, none⟩ = some (.int .i64 (1073741824 + (1 + x))) ∧ W.cell? ⟨w1.heap.size + 1 + 1, 3, none⟩ = some (.int .i64 1) ∧ w1.heap.size < W.heap.size ∧ w1.heap.size + 1 < W.heap.size ∧ w1.heap.size + 1 + 1 < W.heap.size)
    (first | exact hS | assumption | exact held3 ‹Kept w _ ∧ _› hn)
    (first
      | (go_at_call 10; refine (spread_any _ _ _ _ _ _).mono ?_; rintro e w4 ⟨v, rfl, _, hn⟩))
  obtain ⟨hk, _⟩ := ‹Kept w _ ∧ _›
  go_wp2_with fail
  refine (spread_any _ _ _ _ _ _).mono ?_
  rintro e w1 ⟨v1, rfl, _, hn⟩
  replace hk := hk.trans hn
  clear hn
  go_wp2_with fail
  refine (spread_any _ _ _ _ _ _).mono ?_
  rintro e w1 ⟨v2, rfl, _, hn⟩
  replace hk := hk.trans hn
  clear hn
  go_wp2_with fail
  refine (spread_any _ _ _ _ _ _).mono ?_
  rintro e w1 ⟨v3, rfl, hv, hn⟩
  replace hk := hk.trans hn
  clear hn
  rw [E5.out] at hv
  obtain ⟨A, cap, rfl⟩ := zeros_none hv
  clear hv
  go_wp2_with (first
    | (go_at_call 12; refine (num_any _ _).mono ?_; rintro e w1 ⟨rfl, rfl⟩)
    | fail)
  go_ret
  exact ⟨rfl, (by first | ((repeat (first | with_reducible exact hk | with_reducible refine Kept.alloc ?_ _ | with_reducible refine Kept.drew ?_ | with_reducible refine Kept.drewN ?_ _ | with_reducible refine Kept.set ?_ (by first | (simp; done) | (simp; omega) | omega) _)); done) | exact hk | exact (hk.alloc _) | exact ((hk.alloc _).alloc _) | exact (((hk.alloc _).alloc _).alloc _) | exact ((((hk.alloc _).alloc _).alloc _).alloc _) | exact (((((hk.alloc _).alloc _).alloc _).alloc _).alloc _) | exact ((((((hk.alloc _).alloc _).alloc _).alloc _).alloc _).alloc _) | (repeat (first | exact hk | refine Kept.alloc ?_ _ | refine Kept.drew ?_ | refine Kept.drewN ?_ _ | refine Kept.set ?_ (by first | (simp; done) | (simp; omega) | omega) _)))⟩
set_option maxHeartbeats 2000000 in
theorem alignForms_4 (a b x : Int) (hi : wrap64 ((IntKind.u64.wrap a).tmod 6) = 4) (hx : bits .and .i64 b 1023 = x) (x1 : 0 ≤ x) (x2 : x ≤ 1023) (w : World) :
    Calls Try.prog 5 #[.int .i64 a, .int .i64 b] w fun e w' => e = .returned (.bool true) ∧ Kept w w' := by
  have m := almB_out (how := 0) (room := 5) (adv := (-(1 + x))) (by omega)
  have e0 := offS_no m
  have e1 := sprE_no (gaps := 1) m
  have e2 : sprE 0 5 1 (-(1 + x)) = 700 := sprE_out (by omega)
  have e3 : sprE 0 5 1 (80 + (1 + x)) = 700 := sprE_out (by omega)
  have e4 : sprE 3 5 1 0 = 0 := by decide
  have e5 : sprXs 3 5 1 0 false = [] := by decide
  have E5 := Lib.hid e5
  clear e5 m
  have hk : Kept w w := Kept.refl w
  go_enter Try.func5, Try.ntmps5
  go_wp2_with fail
  refine (awake7_any _).mono ?_
  rintro e w1 ⟨rfl, hn⟩
  replace hk := hk.trans hn
  clear hn
  go_wp2_with fail
  refine code_boxes3 ?_
  intro X hX p q r
  replace hk := hk.trans hX
  clear hX
  simp only [hi]
  clear hi
  have hS := held3 ⟨hk, p.at 4 _ rfl, q.at 4 _ rfl, r.at 4 _ rfl, p.lt, q.lt, r.lt⟩ ((Kept.refl _).drew)
  clear p q r hk
  go_region_held3 (fun W => Kept w W ∧ W.cell? ⟨w1.heap.size, 4, none⟩ = some (.int .i64 0) ∧ W.cell? ⟨w1.heap.size + 1, 4, none⟩ = some (.int .i64 5) ∧ W.cell? ⟨w1.heap.size + 1 + 1, 4, none⟩ = some (.int .i64 (-(1 + x))) ∧ w1.heap.size < W.heap.size ∧ w1.heap.size + 1 < W.heap.size ∧ w1.heap.size + 1 + 1 < W.heap.size)
    (first | exact hS | assumption | exact held3 ‹Kept w _ ∧ _› hn)
    (first
      | (go_at_call 8; refine (alignOffset_any _ _ _ _).mono ?_; rintro e w3 ⟨rfl, hn⟩))
  go_wp2_with fail
  replace hS := held3 ‹Kept w _ ∧ _› ((Kept.refl _).drew)
  go_region_held3 (fun W => Kept w W ∧ W.cell? ⟨w1.heap.size, 4, none⟩ = some (.int .i64 0) ∧ W.cell? ⟨w1.heap.size + 1, 4, none⟩ = some (.int .i64 5) ∧ W.cell? ⟨w1.heap.size + 1 + 1, 4, none⟩ = some (.int .i64 (-(1 + x))) ∧ w1.heap.size < W.heap.size ∧ w1.heap.size + 1 < W.heap.size ∧ w1.heap.size + 1 + 1 < W.heap.size)
    (first | exact hS | assumption | exact held3 ‹Kept w _ ∧ _› hn)
    (first
      | (go_at_call 10; refine (spread_any _ _ _ _ _ _).mono ?_; rintro e w4 ⟨v, rfl, _, hn⟩))
  obtain ⟨hk, _⟩ := ‹Kept w _ ∧ _›
  go_wp2_with fail
  refine (spread_any _ _ _ _ _ _).mono ?_
  rintro e w1 ⟨v1, rfl, _, hn⟩
  replace hk := hk.trans hn
  clear hn
  go_wp2_with fail
  refine (spread_any _ _ _ _ _ _).mono ?_
  rintro e w1 ⟨v2, rfl, _, hn⟩
  replace hk := hk.trans hn
  clear hn
  go_wp2_with fail
  refine (spread_any _ _ _ _ _ _).mono ?_
  rintro e w1 ⟨v3, rfl, hv, hn⟩
  replace hk := hk.trans hn
  clear hn
  rw [E5.out] at hv
  obtain ⟨A, cap, rfl⟩ := zeros_none hv
  clear hv
  go_wp2_with (first
    | (go_at_call 12; refine (num_any _ _).mono ?_; rintro e w1 ⟨rfl, rfl⟩)
    | fail)
  go_ret
  exact ⟨rfl, (by first | ((repeat (first | with_reducible exact hk | with_reducible refine Kept.alloc ?_ _ | with_reducible refine Kept.drew ?_ | with_reducible refine Kept.drewN ?_ _ | with_reducible refine Kept.set ?_ (by first | (simp; done) | (simp; omega) | omega) _)); done) | exact hk | exact (hk.alloc _) | exact ((hk.alloc _).alloc _) | exact (((hk.alloc _).alloc _).alloc _) | exact ((((hk.alloc _).alloc _).alloc _).alloc _) | exact (((((hk.alloc _).alloc _).alloc _).alloc _).alloc _) | exact ((((((hk.alloc _).alloc _).alloc _).alloc _).alloc _).alloc _) | (repeat (first | exact hk | refine Kept.alloc ?_ _ | refine Kept.drew ?_ | refine Kept.drewN ?_ _ | refine Kept.set ?_ (by first | (simp; done) | (simp; omega) | omega) _)))⟩
set_option maxHeartbeats 2000000 in
theorem alignForms_5 (a b x : Int) (hi : wrap64 ((IntKind.u64.wrap a).tmod 6) = 5) (hx : bits .and .i64 b 1023 = x) (x1 : 0 ≤ x) (x2 : x ≤ 1023) (w : World) :
    Calls Try.prog 5 #[.int .i64 a, .int .i64 b] w fun e w' => e = .returned (.bool true) ∧ Kept w w' := by
  have m := almB_out (how := 0) (room := 5) (adv := (1073741824 + (1 + x))) (by omega)
  have e0 := offS_no m
  have e1 := sprE_no (gaps := 1) m
  have e2 : sprE 0 5 1 (-(1 + x)) = 700 := sprE_out (by omega)
  have e3 : sprE 0 5 1 (80 + (1 + x)) = 700 := sprE_out (by omega)
  have e4 : sprE 3 5 1 0 = 0 := by decide
  have e5 : sprXs 3 5 1 0 false = [] := by decide
  have E5 := Lib.hid e5
  clear e5 m
  have hk : Kept w w := Kept.refl w
  go_enter Try.func5, Try.ntmps5
  go_wp2_with fail
  refine (awake7_any _).mono ?_
  rintro e w1 ⟨rfl, hn⟩
  replace hk := hk.trans hn
  clear hn
  go_wp2_with fail
  refine code_boxes3 ?_
  intro X hX p q r
  replace hk := hk.trans hX
  clear hX
  simp only [hi]
  clear hi
  have hS := held3 ⟨hk, p.at 5 _ rfl, q.at 5 _ rfl, r.at 5 _ rfl, p.lt, q.lt, r.lt⟩ ((Kept.refl _).drew)
  clear p q r hk
  go_region_held3 (fun W => Kept w W ∧ W.cell? ⟨w1.heap.size, 5, none⟩ = some (.int .i64 0) ∧ W.cell? ⟨w1.heap.size + 1, 5, none⟩ = some (.int .i64 5) ∧ W.cell? ⟨w1.heap.size + 1 + 1, 5, none⟩ = some (.int .i64 (1073741824 + (1 + x))) ∧ w1.heap.size < W.heap.size ∧ w1.heap.size + 1 < W.heap.size ∧ w1.heap.size + 1 + 1 < W.heap.size)
    (first | exact hS | assumption | exact held3 ‹Kept w _ ∧ _› hn)
    (first
      | (go_at_call 8; refine (alignOffset_any _ _ _ _).mono ?_; rintro e w3 ⟨rfl, hn⟩))
  go_wp2_with fail
  replace hS := held3 ‹Kept w _ ∧ _› ((Kept.refl _).drew)
  go_region_held3 (fun W => Kept w W ∧ W.cell? ⟨w1.heap.size, 5, none⟩ = some (.int .i64 0) ∧ W.cell? ⟨w1.heap.size + 1, 5, none⟩ = some (.int .i64 5) ∧ W.cell? ⟨w1.heap.size + 1 + 1, 5, none⟩ = some (.int .i64 (1073741824 + (1 + x))) ∧ w1.heap.size < W.heap.size ∧ w1.heap.size + 1 < W.heap.size ∧ w1.heap.size + 1 + 1 < W.heap.size)
    (first | exact hS | assumption | exact held3 ‹Kept w _ ∧ _› hn)
    (first
      | (go_at_call 10; refine (spread_any _ _ _ _ _ _).mono ?_; rintro e w4 ⟨v, rfl, _, hn⟩))
  obtain ⟨hk, _⟩ := ‹Kept w _ ∧ _›
  go_wp2_with fail
  refine (spread_any _ _ _ _ _ _).mono ?_
  rintro e w1 ⟨v1, rfl, _, hn⟩
  replace hk := hk.trans hn
  clear hn
  go_wp2_with fail
  refine (spread_any _ _ _ _ _ _).mono ?_
  rintro e w1 ⟨v2, rfl, _, hn⟩
  replace hk := hk.trans hn
  clear hn
  go_wp2_with fail
  refine (spread_any _ _ _ _ _ _).mono ?_
  rintro e w1 ⟨v3, rfl, hv, hn⟩
  replace hk := hk.trans hn
  clear hn
  rw [E5.out] at hv
  obtain ⟨A, cap, rfl⟩ := zeros_none hv
  clear hv
  go_wp2_with (first
    | (go_at_call 12; refine (num_any _ _).mono ?_; rintro e w1 ⟨rfl, rfl⟩)
    | fail)
  go_ret
  exact ⟨rfl, (by first | ((repeat (first | with_reducible exact hk | with_reducible refine Kept.alloc ?_ _ | with_reducible refine Kept.drew ?_ | with_reducible refine Kept.drewN ?_ _ | with_reducible refine Kept.set ?_ (by first | (simp; done) | (simp; omega) | omega) _)); done) | exact hk | exact (hk.alloc _) | exact ((hk.alloc _).alloc _) | exact (((hk.alloc _).alloc _).alloc _) | exact ((((hk.alloc _).alloc _).alloc _).alloc _) | exact (((((hk.alloc _).alloc _).alloc _).alloc _).alloc _) | exact ((((((hk.alloc _).alloc _).alloc _).alloc _).alloc _).alloc _) | (repeat (first | exact hk | refine Kept.alloc ?_ _ | refine Kept.drew ?_ | refine Kept.drewN ?_ _ | refine Kept.set ?_ (by first | (simp; done) | (simp; omega) | omega) _)))⟩
theorem alignForms_walk (a b : Int) (w : World) :
    Calls Try.prog 5 #[.int .i64 a, .int .i64 b] w fun e w' => e = .returned (.bool true) ∧ Kept w w' := by
  obtain ⟨x, hx, x1, x2⟩ := masked b 10 1023 (by decide) (by decide)
  obtain ⟨i, hi, i1, i2⟩ := urest a 6 (by decide) (by decide)
  rcases (by omega : i = 0 ∨ i = 1 ∨ i = 2 ∨ i = 3 ∨ i = 4 ∨ i = 5) with rfl | rfl | rfl | rfl | rfl | rfl
  · exact alignForms_0 a b x hi hx x1 x2 w
  · exact alignForms_1 a b x hi hx x1 x2 w
  · exact alignForms_2 a b x hi hx x1 x2 w
  · exact alignForms_3 a b x hi hx x1 x2 w
  · exact alignForms_4 a b x hi hx x1 x2 w
  · exact alignForms_5 a b x hi hx x1 x2 w
end Go.Proofs.Ytkapmnbkmljpkae
