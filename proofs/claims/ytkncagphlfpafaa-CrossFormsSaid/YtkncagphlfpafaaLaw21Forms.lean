/- Layer 21: numbers that may not be. -/
import Derived.Test.YtkncagphlfpafaaAwake21
import Derived.Deep.RegionHeld3
namespace Go.Proofs.Ytkncagphlfpafaa
open Go.RowKit
set_option linter.unusedSimpArgs false
set_option linter.unusedVariables false
theorem heldC {w W w1 : World} {g1 g2 g3 i : Nat} {x y z V : Value} {n : Nat} {Z : Nat → Int} (hh : Kept w W ∧ W.cell? ⟨g1, i, none⟩ = some x ∧ W.cell? ⟨g2, i, none⟩ = some y ∧ W.cell? ⟨g3, i, none⟩ = some z ∧ g1 < W.heap.size ∧ g2 < W.heap.size ∧ g3 < W.heap.size ∧ IV W V n Z) (hn : Kept W w1) :
    Kept w w1 ∧ w1.cell? ⟨g1, i, none⟩ = some x ∧ w1.cell? ⟨g2, i, none⟩ = some y ∧ w1.cell? ⟨g3, i, none⟩ = some z ∧ g1 < w1.heap.size ∧ g2 < w1.heap.size ∧ g3 < w1.heap.size ∧ IV w1 V n Z :=
  ⟨hh.1.trans hn, (hn.cell hh.2.2.2.2.1).trans hh.2.1, (hn.cell hh.2.2.2.2.2.1).trans hh.2.2.1, (hn.cell hh.2.2.2.2.2.2.1).trans hh.2.2.2.1, Nat.lt_of_lt_of_le hh.2.2.2.2.1 hn.size, Nat.lt_of_lt_of_le hh.2.2.2.2.2.1 hn.size, Nat.lt_of_lt_of_le hh.2.2.2.2.2.2.1 hn.size, hh.2.2.2.2.2.2.2.kept hn⟩
theorem heldIV {A B C D E F G : Prop} {W : World} {V : Value} {n : Nat} {Z : Nat → Int} (hh : A ∧ B ∧ C ∧ D ∧ E ∧ F ∧ G ∧ IV W V n Z) : IV W V n Z := hh.2.2.2.2.2.2.2
theorem made_zero (M i : Nat) (h : i < M) : (madeCells #[.int .i64 0] M)[i]? = some (.int .i64 0) := made_own M i h
theorem cross_bad1 {k a b : Int} (h : inB 0 3 k = false) : crossS k a b = (0, 0, 2100) := crossS_no (by unfold crossB; rw [h]; rfl)
theorem cross_bad2 {k a b : Int} (h : mayB a = false) : crossS k a b = (0, 0, 2100) := crossS_no (by unfold crossB; rw [h, Bool.and_false]; rfl)
theorem cross_bad3 {k a b : Int} (h : mayB b = false) : crossS k a b = (0, 0, 2100) := crossS_no (by unfold crossB; rw [h, Bool.and_false])
set_option maxRecDepth 20000 in
set_option maxHeartbeats 2000000 in
theorem crossForms_0 (c x q d : Int) (M : Nat) (hi : wrap64 ((IntKind.u64.wrap c).tmod 7) = 0) (jj : Int) (hj : bits .and .i64 c 1 = jj) (hjj : jj = 0 ∨ jj = 1) (hq : bits .and .i64 x 1023 = q) (hqd : 1 + q = d) (d1 : 1 ≤ d) (d2 : d ≤ 1024) (hM : 32 + d = (M : Nat)) (w : World) :
    Calls Try.prog 10 #[.int .i64 c, .int .i64 x] w fun e w' => e = .returned (.bool true) ∧ Kept w w' := by
  have hmk := run_make_row' (P := Try.prog) 22 3 (.int .i64 0) 8 Try.underlying22 intInfo1 rfl .i64 .i64 M (by omega) (by omega)
  have hMb : 0 ≤ 17592186043904 := by omega
  have hbad := Lib.hid (show mainB (-d) (5) 0 (fun _ => 0) = false from by unfold mainB; rw [show inB 0 3 (-d) = false from inB_false.2 (by omega)]; rfl)
  have f1 : crossS (-d) 5 5 = (0, 0, 2100) := cross_bad1 (inB_false.2 (by omega))
  have f2 : crossS (3 + d) 5 5 = (0, 0, 2100) := cross_bad1 (inB_false.2 (by omega))
  have f3 : crossS 0 (1073741824 + d) 5 = (0, 0, 2100) := cross_bad2 (by rw [Bool.eq_false_iff, ne_eq, mayB_true]; omega)
  have f4 : crossS 0 5 (-1073741824 - d) = (0, 0, 2100) := cross_bad3 (by rw [Bool.eq_false_iff, ne_eq, mayB_true]; omega)
  have hk : Kept w w := Kept.refl w
  go_enter Try.func10, Try.ntmps10
  go_wp2_with fail
  refine (awake21_any _).mono ?_
  rintro e w1 ⟨rfl, hn⟩
  replace hk := hk.trans hn
  clear hn
  go_wp2_with fail
  refine code_boxes6 ?_
  intro X hX j r a b m sl
  have hsz := hk.size
  replace hk := hk.trans hX
  clear hX
  simp only [hi]
  clear hi hmk
  have hS := heldC (n := 0) (Z := (fun _ => 0)) ⟨hk, j.at 0 _ rfl, r.at 0 _ rfl, sl.at 0 _ rfl, j.lt, r.lt, sl.lt, (.inl ⟨rfl, none, 0, rfl⟩)⟩ ((Kept.refl _).drew)
  clear j r a b m sl hk
  go_region_held3 (fun W => Kept w W ∧ W.cell? ⟨w1.heap.size, 0, none⟩ = some (.int .i64 (-d)) ∧ W.cell? ⟨w1.heap.size + 1, 0, none⟩ = some (.int .i64 (5)) ∧ W.cell? ⟨w1.heap.size + 1 + 1 + 1 + 1 + 1, 0, none⟩ = some (.slice none 0 0) ∧ w1.heap.size < W.heap.size ∧ w1.heap.size + 1 < W.heap.size ∧ w1.heap.size + 1 + 1 + 1 + 1 + 1 < W.heap.size ∧ IV W (.slice none 0 0) 0 (fun _ => 0))
    (first | exact hS | assumption | exact heldC ‹Kept w _ ∧ _› hn)
    (first
      | (go_at_call 21; refine (crossMain_wrong _ _ _ 0 (fun _ => 0) _ (heldIV ‹Kept w _ ∧ _ ∧ _ ∧ _ ∧ _ ∧ _ ∧ _ ∧ IV _ _ _ _›) hMb hbad.out).mono ?_; rintro e w3 ⟨rfl, hn⟩))
  obtain ⟨hk, _⟩ := ‹Kept w _ ∧ _›
  rcases hjj with rfl | rfl
  all_goals
    go_wp2_with fail
    refine with_boxes1 ?_
    intro X hX B0
    have hsz := hk.size
    replace hk := hk.trans hX
    clear hX B0
    refine (crossCross_any _ _ _ _).mono ?_
    rintro e w1 ⟨rfl, hn⟩
    replace hk := hk.trans hn
    clear hn
    go_wp2_with fail
    refine (crossCross_any _ _ _ _).mono ?_
    rintro e w1 ⟨rfl, hn⟩
    replace hk := hk.trans hn
    clear hn
    go_wp2_with fail
    refine (crossCross_any _ _ _ _).mono ?_
    rintro e w1 ⟨rfl, hn⟩
    replace hk := hk.trans hn
    clear hn
    go_wp2_with fail
    refine (num_any _ _).mono ?_
    rintro e w1 ⟨rfl, rfl⟩
    go_wp2_with fail
    refine (num_any _ _).mono ?_
    rintro e w1 ⟨rfl, rfl⟩
    go_wp2_with fail
    refine (num_any _ _).mono ?_
    rintro e w1 ⟨rfl, rfl⟩
    go_wp2_with fail
    refine (num_any _ _).mono ?_
    rintro e w1 ⟨rfl, rfl⟩
    go_wp2
    go_ret
    exact ⟨rfl, hk⟩
set_option maxRecDepth 20000 in
set_option maxHeartbeats 2000000 in
theorem crossForms_1 (c x q d : Int) (M : Nat) (hi : wrap64 ((IntKind.u64.wrap c).tmod 7) = 1) (jj : Int) (hj : bits .and .i64 c 1 = jj) (hjj : jj = 0 ∨ jj = 1) (hq : bits .and .i64 x 1023 = q) (hqd : 1 + q = d) (d1 : 1 ≤ d) (d2 : d ≤ 1024) (hM : 32 + d = (M : Nat)) (w : World) :
    Calls Try.prog 10 #[.int .i64 c, .int .i64 x] w fun e w' => e = .returned (.bool true) ∧ Kept w w' := by
  have hmk := run_make_row' (P := Try.prog) 22 3 (.int .i64 0) 8 Try.underlying22 intInfo1 rfl .i64 .i64 M (by omega) (by omega)
  have hMb : 0 ≤ 17592186043904 := by omega
  have hbad := Lib.hid (show mainB (3 + d) (5) 0 (fun _ => 0) = false from by unfold mainB; rw [show inB 0 3 (3 + d) = false from inB_false.2 (by omega)]; rfl)
  have f1 : crossS (-d) 5 5 = (0, 0, 2100) := cross_bad1 (inB_false.2 (by omega))
  have f2 : crossS (3 + d) 5 5 = (0, 0, 2100) := cross_bad1 (inB_false.2 (by omega))
  have f3 : crossS 0 (1073741824 + d) 5 = (0, 0, 2100) := cross_bad2 (by rw [Bool.eq_false_iff, ne_eq, mayB_true]; omega)
  have f4 : crossS 0 5 (-1073741824 - d) = (0, 0, 2100) := cross_bad3 (by rw [Bool.eq_false_iff, ne_eq, mayB_true]; omega)
  have hk : Kept w w := Kept.refl w
  go_enter Try.func10, Try.ntmps10
  go_wp2_with fail
  refine (awake21_any _).mono ?_
  rintro e w1 ⟨rfl, hn⟩
  replace hk := hk.trans hn
  clear hn
  go_wp2_with fail
  refine code_boxes6 ?_
  intro X hX j r a b m sl
  have hsz := hk.size
  replace hk := hk.trans hX
  clear hX
  simp only [hi]
  clear hi hmk
  have hS := heldC (n := 0) (Z := (fun _ => 0)) ⟨hk, j.at 1 _ rfl, r.at 1 _ rfl, sl.at 1 _ rfl, j.lt, r.lt, sl.lt, (.inl ⟨rfl, none, 0, rfl⟩)⟩ ((Kept.refl _).drew)
  clear j r a b m sl hk
  go_region_held3 (fun W => Kept w W ∧ W.cell? ⟨w1.heap.size, 1, none⟩ = some (.int .i64 (3 + d)) ∧ W.cell? ⟨w1.heap.size + 1, 1, none⟩ = some (.int .i64 (5)) ∧ W.cell? ⟨w1.heap.size + 1 + 1 + 1 + 1 + 1, 1, none⟩ = some (.slice none 0 0) ∧ w1.heap.size < W.heap.size ∧ w1.heap.size + 1 < W.heap.size ∧ w1.heap.size + 1 + 1 + 1 + 1 + 1 < W.heap.size ∧ IV W (.slice none 0 0) 0 (fun _ => 0))
    (first | exact hS | assumption | exact heldC ‹Kept w _ ∧ _› hn)
    (first
      | (go_at_call 21; refine (crossMain_wrong _ _ _ 0 (fun _ => 0) _ (heldIV ‹Kept w _ ∧ _ ∧ _ ∧ _ ∧ _ ∧ _ ∧ _ ∧ IV _ _ _ _›) hMb hbad.out).mono ?_; rintro e w3 ⟨rfl, hn⟩))
  obtain ⟨hk, _⟩ := ‹Kept w _ ∧ _›
  rcases hjj with rfl | rfl
  all_goals
    go_wp2_with fail
    refine with_boxes1 ?_
    intro X hX B0
    have hsz := hk.size
    replace hk := hk.trans hX
    clear hX B0
    refine (crossCross_any _ _ _ _).mono ?_
    rintro e w1 ⟨rfl, hn⟩
    replace hk := hk.trans hn
    clear hn
    go_wp2_with fail
    refine (crossCross_any _ _ _ _).mono ?_
    rintro e w1 ⟨rfl, hn⟩
    replace hk := hk.trans hn
    clear hn
    go_wp2_with fail
    refine (crossCross_any _ _ _ _).mono ?_
    rintro e w1 ⟨rfl, hn⟩
    replace hk := hk.trans hn
    clear hn
    go_wp2_with fail
    refine (num_any _ _).mono ?_
    rintro e w1 ⟨rfl, rfl⟩
    go_wp2_with fail
    refine (num_any _ _).mono ?_
    rintro e w1 ⟨rfl, rfl⟩
    go_wp2_with fail
    refine (num_any _ _).mono ?_
    rintro e w1 ⟨rfl, rfl⟩
    go_wp2_with fail
    refine (num_any _ _).mono ?_
    rintro e w1 ⟨rfl, rfl⟩
    go_wp2
    go_ret
    exact ⟨rfl, hk⟩
set_option maxRecDepth 20000 in
set_option maxHeartbeats 2000000 in
theorem crossForms_2 (c x q d : Int) (M : Nat) (hi : wrap64 ((IntKind.u64.wrap c).tmod 7) = 2) (jj : Int) (hj : bits .and .i64 c 1 = jj) (hjj : jj = 0 ∨ jj = 1) (hq : bits .and .i64 x 1023 = q) (hqd : 1 + q = d) (d1 : 1 ≤ d) (d2 : d ≤ 1024) (hM : 32 + d = (M : Nat)) (w : World) :
    Calls Try.prog 10 #[.int .i64 c, .int .i64 x] w fun e w' => e = .returned (.bool true) ∧ Kept w w' := by
  have hmk := run_make_row' (P := Try.prog) 22 3 (.int .i64 0) 8 Try.underlying22 intInfo1 rfl .i64 .i64 M (by omega) (by omega)
  have hMb : 0 ≤ 17592186043904 := by omega
  have hbad := Lib.hid (show mainB (0) (-d) 0 (fun _ => 0) = false from by unfold mainB; rw [show inB 0 4194304 (-d) = false from inB_false.2 (by omega)]; rfl)
  have f1 : crossS (-d) 5 5 = (0, 0, 2100) := cross_bad1 (inB_false.2 (by omega))
  have f2 : crossS (3 + d) 5 5 = (0, 0, 2100) := cross_bad1 (inB_false.2 (by omega))
  have f3 : crossS 0 (1073741824 + d) 5 = (0, 0, 2100) := cross_bad2 (by rw [Bool.eq_false_iff, ne_eq, mayB_true]; omega)
  have f4 : crossS 0 5 (-1073741824 - d) = (0, 0, 2100) := cross_bad3 (by rw [Bool.eq_false_iff, ne_eq, mayB_true]; omega)
  have hk : Kept w w := Kept.refl w
  go_enter Try.func10, Try.ntmps10
  go_wp2_with fail
  refine (awake21_any _).mono ?_
  rintro e w1 ⟨rfl, hn⟩
  replace hk := hk.trans hn
  clear hn
  go_wp2_with fail
  refine code_boxes6 ?_
  intro X hX j r a b m sl
  have hsz := hk.size
  replace hk := hk.trans hX
  clear hX
  simp only [hi]
  clear hi hmk
  have hS := heldC (n := 0) (Z := (fun _ => 0)) ⟨hk, j.at 2 _ rfl, r.at 2 _ rfl, sl.at 2 _ rfl, j.lt, r.lt, sl.lt, (.inl ⟨rfl, none, 0, rfl⟩)⟩ ((Kept.refl _).drew)
  clear j r a b m sl hk
  go_region_held3 (fun W => Kept w W ∧ W.cell? ⟨w1.heap.size, 2, none⟩ = some (.int .i64 (0)) ∧ W.cell? ⟨w1.heap.size + 1, 2, none⟩ = some (.int .i64 (-d)) ∧ W.cell? ⟨w1.heap.size + 1 + 1 + 1 + 1 + 1, 2, none⟩ = some (.slice none 0 0) ∧ w1.heap.size < W.heap.size ∧ w1.heap.size + 1 < W.heap.size ∧ w1.heap.size + 1 + 1 + 1 + 1 + 1 < W.heap.size ∧ IV W (.slice none 0 0) 0 (fun _ => 0))
    (first | exact hS | assumption | exact heldC ‹Kept w _ ∧ _› hn)
    (first
      | (go_at_call 21; refine (crossMain_wrong _ _ _ 0 (fun _ => 0) _ (heldIV ‹Kept w _ ∧ _ ∧ _ ∧ _ ∧ _ ∧ _ ∧ _ ∧ IV _ _ _ _›) hMb hbad.out).mono ?_; rintro e w3 ⟨rfl, hn⟩))
  obtain ⟨hk, _⟩ := ‹Kept w _ ∧ _›
  rcases hjj with rfl | rfl
  all_goals
    go_wp2_with fail
    refine with_boxes1 ?_
    intro X hX B0
    have hsz := hk.size
    replace hk := hk.trans hX
    clear hX B0
    refine (crossCross_any _ _ _ _).mono ?_
    rintro e w1 ⟨rfl, hn⟩
    replace hk := hk.trans hn
    clear hn
    go_wp2_with fail
    refine (crossCross_any _ _ _ _).mono ?_
    rintro e w1 ⟨rfl, hn⟩
    replace hk := hk.trans hn
    clear hn
    go_wp2_with fail
    refine (crossCross_any _ _ _ _).mono ?_
    rintro e w1 ⟨rfl, hn⟩
    replace hk := hk.trans hn
    clear hn
    go_wp2_with fail
    refine (num_any _ _).mono ?_
    rintro e w1 ⟨rfl, rfl⟩
    go_wp2_with fail
    refine (num_any _ _).mono ?_
    rintro e w1 ⟨rfl, rfl⟩
    go_wp2_with fail
    refine (num_any _ _).mono ?_
    rintro e w1 ⟨rfl, rfl⟩
    go_wp2_with fail
    refine (num_any _ _).mono ?_
    rintro e w1 ⟨rfl, rfl⟩
    go_wp2
    go_ret
    exact ⟨rfl, hk⟩
set_option maxRecDepth 20000 in
set_option maxHeartbeats 2000000 in
theorem crossForms_3 (c x q d : Int) (M : Nat) (hi : wrap64 ((IntKind.u64.wrap c).tmod 7) = 3) (jj : Int) (hj : bits .and .i64 c 1 = jj) (hjj : jj = 0 ∨ jj = 1) (hq : bits .and .i64 x 1023 = q) (hqd : 1 + q = d) (d1 : 1 ≤ d) (d2 : d ≤ 1024) (hM : 32 + d = (M : Nat)) (w : World) :
    Calls Try.prog 10 #[.int .i64 c, .int .i64 x] w fun e w' => e = .returned (.bool true) ∧ Kept w w' := by
  have hmk := run_make_row' (P := Try.prog) 22 3 (.int .i64 0) 8 Try.underlying22 intInfo1 rfl .i64 .i64 M (by omega) (by omega)
  have hMb : 0 ≤ 17592186043904 := by omega
  have hbad := Lib.hid (show mainB (0) (4194304 + d) 0 (fun _ => 0) = false from by unfold mainB; rw [show inB 0 4194304 (4194304 + d) = false from inB_false.2 (by omega)]; rfl)
  have f1 : crossS (-d) 5 5 = (0, 0, 2100) := cross_bad1 (inB_false.2 (by omega))
  have f2 : crossS (3 + d) 5 5 = (0, 0, 2100) := cross_bad1 (inB_false.2 (by omega))
  have f3 : crossS 0 (1073741824 + d) 5 = (0, 0, 2100) := cross_bad2 (by rw [Bool.eq_false_iff, ne_eq, mayB_true]; omega)
  have f4 : crossS 0 5 (-1073741824 - d) = (0, 0, 2100) := cross_bad3 (by rw [Bool.eq_false_iff, ne_eq, mayB_true]; omega)
  have hk : Kept w w := Kept.refl w
  go_enter Try.func10, Try.ntmps10
  go_wp2_with fail
  refine (awake21_any _).mono ?_
  rintro e w1 ⟨rfl, hn⟩
  replace hk := hk.trans hn
  clear hn
  go_wp2_with fail
  refine code_boxes6 ?_
  intro X hX j r a b m sl
  have hsz := hk.size
  replace hk := hk.trans hX
  clear hX
  simp only [hi]
  clear hi hmk
  have hS := heldC (n := 0) (Z := (fun _ => 0)) ⟨hk, j.at 3 _ rfl, r.at 3 _ rfl, sl.at 3 _ rfl, j.lt, r.lt, sl.lt, (.inl ⟨rfl, none, 0, rfl⟩)⟩ ((Kept.refl _).drew)
  clear j r a b m sl hk
  go_region_held3 (fun W => Kept w W ∧ W.cell? ⟨w1.heap.size, 3, none⟩ = some (.int .i64 (0)) ∧ W.cell? ⟨w1.heap.size + 1, 3, none⟩ = some (.int .i64 (4194304 + d)) ∧ W.cell? ⟨w1.heap.size + 1 + 1 + 1 + 1 + 1, 3, none⟩ = some (.slice none 0 0) ∧ w1.heap.size < W.heap.size ∧ w1.heap.size + 1 < W.heap.size ∧ w1.heap.size + 1 + 1 + 1 + 1 + 1 < W.heap.size ∧ IV W (.slice none 0 0) 0 (fun _ => 0))
    (first | exact hS | assumption | exact heldC ‹Kept w _ ∧ _› hn)
    (first
      | (go_at_call 21; refine (crossMain_wrong _ _ _ 0 (fun _ => 0) _ (heldIV ‹Kept w _ ∧ _ ∧ _ ∧ _ ∧ _ ∧ _ ∧ _ ∧ IV _ _ _ _›) hMb hbad.out).mono ?_; rintro e w3 ⟨rfl, hn⟩))
  obtain ⟨hk, _⟩ := ‹Kept w _ ∧ _›
  rcases hjj with rfl | rfl
  all_goals
    go_wp2_with fail
    refine with_boxes1 ?_
    intro X hX B0
    have hsz := hk.size
    replace hk := hk.trans hX
    clear hX B0
    refine (crossCross_any _ _ _ _).mono ?_
    rintro e w1 ⟨rfl, hn⟩
    replace hk := hk.trans hn
    clear hn
    go_wp2_with fail
    refine (crossCross_any _ _ _ _).mono ?_
    rintro e w1 ⟨rfl, hn⟩
    replace hk := hk.trans hn
    clear hn
    go_wp2_with fail
    refine (crossCross_any _ _ _ _).mono ?_
    rintro e w1 ⟨rfl, hn⟩
    replace hk := hk.trans hn
    clear hn
    go_wp2_with fail
    refine (num_any _ _).mono ?_
    rintro e w1 ⟨rfl, rfl⟩
    go_wp2_with fail
    refine (num_any _ _).mono ?_
    rintro e w1 ⟨rfl, rfl⟩
    go_wp2_with fail
    refine (num_any _ _).mono ?_
    rintro e w1 ⟨rfl, rfl⟩
    go_wp2_with fail
    refine (num_any _ _).mono ?_
    rintro e w1 ⟨rfl, rfl⟩
    go_wp2
    go_ret
    exact ⟨rfl, hk⟩
set_option maxRecDepth 20000 in
set_option maxHeartbeats 2000000 in
theorem crossForms_4 (c x q d : Int) (M : Nat) (hi : wrap64 ((IntKind.u64.wrap c).tmod 7) = 4) (jj : Int) (hj : bits .and .i64 c 1 = jj) (hjj : jj = 0 ∨ jj = 1) (hq : bits .and .i64 x 1023 = q) (hqd : 1 + q = d) (d1 : 1 ≤ d) (d2 : d ≤ 1024) (hM : 32 + d = (M : Nat)) (w : World) :
    Calls Try.prog 10 #[.int .i64 c, .int .i64 x] w fun e w' => e = .returned (.bool true) ∧ Kept w w' := by
  have hmk := run_make_row' (P := Try.prog) 22 3 (.int .i64 0) 8 Try.underlying22 intInfo1 rfl .i64 .i64 M (by omega) (by omega)
  have hMb : 1 ≤ 17592186043904 := by omega
  have hbad := Lib.hid (show mainB (0) (5) 1 (intL [4194304 + d]) = false from by unfold mainB; rw [allX_no (k := 0) (by decide) (inB_false.2 (by show 4194304 + d < -4194304 ∨ 4194304 < 4194304 + d; omega)), Bool.and_false])
  have f1 : crossS (-d) 5 5 = (0, 0, 2100) := cross_bad1 (inB_false.2 (by omega))
  have f2 : crossS (3 + d) 5 5 = (0, 0, 2100) := cross_bad1 (inB_false.2 (by omega))
  have f3 : crossS 0 (1073741824 + d) 5 = (0, 0, 2100) := cross_bad2 (by rw [Bool.eq_false_iff, ne_eq, mayB_true]; omega)
  have f4 : crossS 0 5 (-1073741824 - d) = (0, 0, 2100) := cross_bad3 (by rw [Bool.eq_false_iff, ne_eq, mayB_true]; omega)
  have hk : Kept w w := Kept.refl w
  go_enter Try.func10, Try.ntmps10
  go_wp2_with fail
  refine (awake21_any _).mono ?_
  rintro e w1 ⟨rfl, hn⟩
  replace hk := hk.trans hn
  clear hn
  go_wp2_with fail
  refine code_boxes6 ?_
  intro X hX j r a b m sl
  have hsz := hk.size
  replace hk := hk.trans hX
  clear hX
  simp only [hi]
  clear hi hmk
  have hS := heldC (n := 1) (Z := (intL [4194304 + d])) ⟨hk, j.at 4 _ rfl, r.at 4 _ rfl, sl.at 4 _ rfl, j.lt, r.lt, sl.lt, (iv_one a)⟩ ((Kept.refl _).drew)
  clear j r a b m sl hk
  go_region_held3 (fun W => Kept w W ∧ W.cell? ⟨w1.heap.size, 4, none⟩ = some (.int .i64 (0)) ∧ W.cell? ⟨w1.heap.size + 1, 4, none⟩ = some (.int .i64 (5)) ∧ W.cell? ⟨w1.heap.size + 1 + 1 + 1 + 1 + 1, 4, none⟩ = some (.slice (some ⟨w1.heap.size + 1 + 1, 0, none⟩) 1 1) ∧ w1.heap.size < W.heap.size ∧ w1.heap.size + 1 < W.heap.size ∧ w1.heap.size + 1 + 1 + 1 + 1 + 1 < W.heap.size ∧ IV W (.slice (some ⟨w1.heap.size + 1 + 1, 0, none⟩) 1 1) 1 (intL [4194304 + d]))
    (first | exact hS | assumption | exact heldC ‹Kept w _ ∧ _› hn)
    (first
      | (go_at_call 21; refine (crossMain_wrong _ _ _ 1 (intL [4194304 + d]) _ (heldIV ‹Kept w _ ∧ _ ∧ _ ∧ _ ∧ _ ∧ _ ∧ _ ∧ IV _ _ _ _›) hMb hbad.out).mono ?_; rintro e w3 ⟨rfl, hn⟩))
  obtain ⟨hk, _⟩ := ‹Kept w _ ∧ _›
  rcases hjj with rfl | rfl
  all_goals
    go_wp2_with fail
    refine with_boxes1 ?_
    intro X hX B0
    have hsz := hk.size
    replace hk := hk.trans hX
    clear hX B0
    refine (crossCross_any _ _ _ _).mono ?_
    rintro e w1 ⟨rfl, hn⟩
    replace hk := hk.trans hn
    clear hn
    go_wp2_with fail
    refine (crossCross_any _ _ _ _).mono ?_
    rintro e w1 ⟨rfl, hn⟩
    replace hk := hk.trans hn
    clear hn
    go_wp2_with fail
    refine (crossCross_any _ _ _ _).mono ?_
    rintro e w1 ⟨rfl, hn⟩
    replace hk := hk.trans hn
    clear hn
    go_wp2_with fail
    refine (num_any _ _).mono ?_
    rintro e w1 ⟨rfl, rfl⟩
    go_wp2_with fail
    refine (num_any _ _).mono ?_
    rintro e w1 ⟨rfl, rfl⟩
    go_wp2_with fail
    refine (num_any _ _).mono ?_
    rintro e w1 ⟨rfl, rfl⟩
    go_wp2_with fail
    refine (num_any _ _).mono ?_
    rintro e w1 ⟨rfl, rfl⟩
    go_wp2
    go_ret
    exact ⟨rfl, hk⟩
set_option maxRecDepth 20000 in
set_option maxHeartbeats 2000000 in
theorem crossForms_5 (c x q d : Int) (M : Nat) (hi : wrap64 ((IntKind.u64.wrap c).tmod 7) = 5) (jj : Int) (hj : bits .and .i64 c 1 = jj) (hjj : jj = 0 ∨ jj = 1) (hq : bits .and .i64 x 1023 = q) (hqd : 1 + q = d) (d1 : 1 ≤ d) (d2 : d ≤ 1024) (hM : 32 + d = (M : Nat)) (w : World) :
    Calls Try.prog 10 #[.int .i64 c, .int .i64 x] w fun e w' => e = .returned (.bool true) ∧ Kept w w' := by
  have hmk := run_make_row' (P := Try.prog) 22 3 (.int .i64 0) 8 Try.underlying22 intInfo1 rfl .i64 .i64 M (by omega) (by omega)
  have hMb : 2 ≤ 17592186043904 := by omega
  have hbad := Lib.hid (show mainB (0) (5) 2 (intL [1, -4194304 - d]) = false from by unfold mainB; rw [allX_no (k := 1) (by decide) (inB_false.2 (by show -4194304 - d < -4194304 ∨ 4194304 < -4194304 - d; omega)), Bool.and_false])
  have f1 : crossS (-d) 5 5 = (0, 0, 2100) := cross_bad1 (inB_false.2 (by omega))
  have f2 : crossS (3 + d) 5 5 = (0, 0, 2100) := cross_bad1 (inB_false.2 (by omega))
  have f3 : crossS 0 (1073741824 + d) 5 = (0, 0, 2100) := cross_bad2 (by rw [Bool.eq_false_iff, ne_eq, mayB_true]; omega)
  have f4 : crossS 0 5 (-1073741824 - d) = (0, 0, 2100) := cross_bad3 (by rw [Bool.eq_false_iff, ne_eq, mayB_true]; omega)
  have hk : Kept w w := Kept.refl w
  go_enter Try.func10, Try.ntmps10
  go_wp2_with fail
  refine (awake21_any _).mono ?_
  rintro e w1 ⟨rfl, hn⟩
  replace hk := hk.trans hn
  clear hn
  go_wp2_with fail
  refine code_boxes6 ?_
  intro X hX j r a b m sl
  have hsz := hk.size
  replace hk := hk.trans hX
  clear hX
  simp only [hi]
  clear hi hmk
  have hS := heldC (n := 2) (Z := (intL [1, -4194304 - d])) ⟨hk, j.at 5 _ rfl, r.at 5 _ rfl, sl.at 5 _ rfl, j.lt, r.lt, sl.lt, (iv_two b)⟩ ((Kept.refl _).drew)
  clear j r a b m sl hk
  go_region_held3 (fun W => Kept w W ∧ W.cell? ⟨w1.heap.size, 5, none⟩ = some (.int .i64 (0)) ∧ W.cell? ⟨w1.heap.size + 1, 5, none⟩ = some (.int .i64 (5)) ∧ W.cell? ⟨w1.heap.size + 1 + 1 + 1 + 1 + 1, 5, none⟩ = some (.slice (some ⟨w1.heap.size + 1 + 1 + 1, 0, none⟩) 2 2) ∧ w1.heap.size < W.heap.size ∧ w1.heap.size + 1 < W.heap.size ∧ w1.heap.size + 1 + 1 + 1 + 1 + 1 < W.heap.size ∧ IV W (.slice (some ⟨w1.heap.size + 1 + 1 + 1, 0, none⟩) 2 2) 2 (intL [1, -4194304 - d]))
    (first | exact hS | assumption | exact heldC ‹Kept w _ ∧ _› hn)
    (first
      | (go_at_call 21; refine (crossMain_wrong _ _ _ 2 (intL [1, -4194304 - d]) _ (heldIV ‹Kept w _ ∧ _ ∧ _ ∧ _ ∧ _ ∧ _ ∧ _ ∧ IV _ _ _ _›) hMb hbad.out).mono ?_; rintro e w3 ⟨rfl, hn⟩))
  obtain ⟨hk, _⟩ := ‹Kept w _ ∧ _›
  rcases hjj with rfl | rfl
  all_goals
    go_wp2_with fail
    refine with_boxes1 ?_
    intro X hX B0
    have hsz := hk.size
    replace hk := hk.trans hX
    clear hX B0
    refine (crossCross_any _ _ _ _).mono ?_
    rintro e w1 ⟨rfl, hn⟩
    replace hk := hk.trans hn
    clear hn
    go_wp2_with fail
    refine (crossCross_any _ _ _ _).mono ?_
    rintro e w1 ⟨rfl, hn⟩
    replace hk := hk.trans hn
    clear hn
    go_wp2_with fail
    refine (crossCross_any _ _ _ _).mono ?_
    rintro e w1 ⟨rfl, hn⟩
    replace hk := hk.trans hn
    clear hn
    go_wp2_with fail
    refine (num_any _ _).mono ?_
    rintro e w1 ⟨rfl, rfl⟩
    go_wp2_with fail
    refine (num_any _ _).mono ?_
    rintro e w1 ⟨rfl, rfl⟩
    go_wp2_with fail
    refine (num_any _ _).mono ?_
    rintro e w1 ⟨rfl, rfl⟩
    go_wp2_with fail
    refine (num_any _ _).mono ?_
    rintro e w1 ⟨rfl, rfl⟩
    go_wp2
    go_ret
    exact ⟨rfl, hk⟩
set_option maxRecDepth 20000 in
set_option maxHeartbeats 2000000 in
theorem crossForms_6 (c x q d : Int) (M : Nat) (hi : wrap64 ((IntKind.u64.wrap c).tmod 7) = 6) (jj : Int) (hj : bits .and .i64 c 1 = jj) (hjj : jj = 0 ∨ jj = 1) (hq : bits .and .i64 x 1023 = q) (hqd : 1 + q = d) (d1 : 1 ≤ d) (d2 : d ≤ 1024) (hM : 32 + d = (M : Nat)) (w : World) :
    Calls Try.prog 10 #[.int .i64 c, .int .i64 x] w fun e w' => e = .returned (.bool true) ∧ Kept w w' := by
  have hmk := run_make_row' (P := Try.prog) 22 3 (.int .i64 0) 8 Try.underlying22 intInfo1 rfl .i64 .i64 M (by omega) (by omega)
  have hMb : M ≤ 17592186043904 := by omega
  have hbad := Lib.hid (show mainB (0) (5) M (fun _ => 0) = false from by unfold mainB; rw [decide_eq_false (show ¬ M ≤ 32 by omega), Bool.and_false, Bool.false_and])
  have f1 : crossS (-d) 5 5 = (0, 0, 2100) := cross_bad1 (inB_false.2 (by omega))
  have f2 : crossS (3 + d) 5 5 = (0, 0, 2100) := cross_bad1 (inB_false.2 (by omega))
  have f3 : crossS 0 (1073741824 + d) 5 = (0, 0, 2100) := cross_bad2 (by rw [Bool.eq_false_iff, ne_eq, mayB_true]; omega)
  have f4 : crossS 0 5 (-1073741824 - d) = (0, 0, 2100) := cross_bad3 (by rw [Bool.eq_false_iff, ne_eq, mayB_true]; omega)
  have hk : Kept w w := Kept.refl w
  go_enter Try.func10, Try.ntmps10
  go_wp2_with fail
  refine (awake21_any _).mono ?_
  rintro e w1 ⟨rfl, hn⟩
  replace hk := hk.trans hn
  clear hn
  go_wp2_with fail
  refine code_boxes6 ?_
  intro X hX j r a b m sl
  have hsz := hk.size
  replace hk := hk.trans hX
  clear hX
  simp only [hi]
  clear hi hmk
  have hS := heldC (n := M) (Z := (fun _ => 0)) ⟨hk, j.at 6 _ rfl, r.at 6 _ rfl, sl.at 6 _ rfl, j.lt, r.lt, sl.lt, (iv_of m (by omega) (Nat.le_refl _) (fun i hi => made_zero M i hi))⟩ ((Kept.refl _).drew)
  clear j r a b m sl hk
  go_region_held3 (fun W => Kept w W ∧ W.cell? ⟨w1.heap.size, 6, none⟩ = some (.int .i64 (0)) ∧ W.cell? ⟨w1.heap.size + 1, 6, none⟩ = some (.int .i64 (5)) ∧ W.cell? ⟨w1.heap.size + 1 + 1 + 1 + 1 + 1, 6, none⟩ = some (.slice (some ⟨w1.heap.size + 1 + 1 + 1 + 1, 0, none⟩) M M) ∧ w1.heap.size < W.heap.size ∧ w1.heap.size + 1 < W.heap.size ∧ w1.heap.size + 1 + 1 + 1 + 1 + 1 < W.heap.size ∧ IV W (.slice (some ⟨w1.heap.size + 1 + 1 + 1 + 1, 0, none⟩) M M) M (fun _ => 0))
    (first | exact hS | assumption | exact heldC ‹Kept w _ ∧ _› hn)
    (first
      | (go_at_call 21; refine (crossMain_wrong _ _ _ M (fun _ => 0) _ (heldIV ‹Kept w _ ∧ _ ∧ _ ∧ _ ∧ _ ∧ _ ∧ _ ∧ IV _ _ _ _›) hMb hbad.out).mono ?_; rintro e w3 ⟨rfl, hn⟩))
  obtain ⟨hk, _⟩ := ‹Kept w _ ∧ _›
  rcases hjj with rfl | rfl
  all_goals
    go_wp2_with fail
    refine with_boxes1 ?_
    intro X hX B0
    have hsz := hk.size
    replace hk := hk.trans hX
    clear hX B0
    refine (crossCross_any _ _ _ _).mono ?_
    rintro e w1 ⟨rfl, hn⟩
    replace hk := hk.trans hn
    clear hn
    go_wp2_with fail
    refine (crossCross_any _ _ _ _).mono ?_
    rintro e w1 ⟨rfl, hn⟩
    replace hk := hk.trans hn
    clear hn
    go_wp2_with fail
    refine (crossCross_any _ _ _ _).mono ?_
    rintro e w1 ⟨rfl, hn⟩
    replace hk := hk.trans hn
    clear hn
    go_wp2_with fail
    refine (num_any _ _).mono ?_
    rintro e w1 ⟨rfl, rfl⟩
    go_wp2_with fail
    refine (num_any _ _).mono ?_
    rintro e w1 ⟨rfl, rfl⟩
    go_wp2_with fail
    refine (num_any _ _).mono ?_
    rintro e w1 ⟨rfl, rfl⟩
    go_wp2_with fail
    refine (num_any _ _).mono ?_
    rintro e w1 ⟨rfl, rfl⟩
    go_wp2
    go_ret
    exact ⟨rfl, hk⟩
theorem crossForms_walk (c x : Int) (w : World) :
    Calls Try.prog 10 #[.int .i64 c, .int .i64 x] w fun e w' => e = .returned (.bool true) ∧ Kept w w' := by
  obtain ⟨q, hq, q1, q2⟩ := masked x 10 1023 (by decide) (by decide)
  obtain ⟨jj, hj, j1, j2⟩ := masked c 1 1 (by decide) (by decide)
  obtain ⟨i, hi, i1, i2⟩ := urest c 7 (by decide) (by decide)
  rcases (by omega : i = 0 ∨ i = 1 ∨ i = 2 ∨ i = 3 ∨ i = 4 ∨ i = 5 ∨ i = 6) with rfl | rfl | rfl | rfl | rfl | rfl | rfl
  · exact crossForms_0 c x q (1 + q) (32 + (1 + q)).toNat hi jj hj (by omega) hq rfl (by omega) (by omega) (by omega) w
  · exact crossForms_1 c x q (1 + q) (32 + (1 + q)).toNat hi jj hj (by omega) hq rfl (by omega) (by omega) (by omega) w
  · exact crossForms_2 c x q (1 + q) (32 + (1 + q)).toNat hi jj hj (by omega) hq rfl (by omega) (by omega) (by omega) w
  · exact crossForms_3 c x q (1 + q) (32 + (1 + q)).toNat hi jj hj (by omega) hq rfl (by omega) (by omega) (by omega) w
  · exact crossForms_4 c x q (1 + q) (32 + (1 + q)).toNat hi jj hj (by omega) hq rfl (by omega) (by omega) (by omega) w
  · exact crossForms_5 c x q (1 + q) (32 + (1 + q)).toNat hi jj hj (by omega) hq rfl (by omega) (by omega) (by omega) w
  · exact crossForms_6 c x q (1 + q) (32 + (1 + q)).toNat hi jj hj (by omega) hq rfl (by omega) (by omega) (by omega) w
end Go.Proofs.Ytkncagphlfpafaa
