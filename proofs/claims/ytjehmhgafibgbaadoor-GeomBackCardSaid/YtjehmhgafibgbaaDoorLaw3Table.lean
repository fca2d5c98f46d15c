/- Layer 3: one rectangle in all modes. -/
import Derived.Test.YtjehmhgafibgbaaDoorAwake3
import Derived.Test.YtjehmhgafibgbaaDoorMask
import Derived.Deep.QuietTactic
import Derived.BigQuiet
namespace Go.Proofs.YtjehmhgafibgbaaDoor
open Go.RowKit
set_option linter.unusedSimpArgs false
set_option linter.unusedVariables false
theorem physS_ok {wm di ia ib ra rb sa sb : Int} (h : modeMayB wm di = true) (h1 : 0 ≤ ia ∧ ia ≤ 1073741824) (h2 : 0 ≤ ib ∧ ib ≤ 1073741824) (h3 : -1073741824 ≤ ra ∧ ra ≤ 1073741824) (h4 : -1073741824 ≤ rb ∧ rb ≤ 1073741824) (h5 : 0 ≤ sa ∧ sa ≤ 1073741824) (h6 : 0 ≤ sb ∧ sb ≤ 1073741824) :
    physS wm di ia ib ra rb sa sb = (if vertB wm di = true then (turnS (farB wm di 2) ib rb sb, turnS (farB wm di 0) ia ra sa, sb, sa) else (turnS (farB wm di 0) ia ra sa, turnS (farB wm di 2) ib rb sb, sa, sb), 0) := by
  unfold physS physOkB
  rw [if_pos (by rw [h, sizedB_true.2 ⟨h1, h2⟩, sizedB_true.2 ⟨h5, h6⟩, mayB_true.2 h3, mayB_true.2 h4]; rfl)]
theorem turn_far {i a s : Int} (h1 : 0 ≤ i ∧ i ≤ 1073741824) (h2 : -1073741824 ≤ a ∧ a ≤ 1073741824) (h3 : 0 ≤ s ∧ s ≤ 1073741824) : turnS true i a s = i - a - s := by
  unfold turnS wrap64; simp; omega
theorem turn_near {i a s : Int} : turnS false i a s = a := rfl
theorem phys_table0 (a b : Int) (a1 : 0 ≤ a) (a2 : a ≤ 15) (b1 : 0 ≤ b) (b2 : b ≤ 15) : physS 0 0 100 60 a b 20 10 = ((a, b, 20, 10), 0) := by
  rw [physS_ok (by decide) (by omega) (by omega) (by omega) (by omega) (by omega) (by omega), show farB 0 0 0 = false by decide, show farB 0 0 2 = false by decide, show vertB 0 0 = false by decide]
  simp only [turn_near, turn_far (i := 100) (a := a) (s := 20) (by omega) (by omega) (by omega), turn_far (i := 60) (a := b) (s := 10) (by omega) (by omega) (by omega)]
  simp
set_option maxHeartbeats 2000000 in
theorem geomTable_0 (c x y a b : Int) (hi : wrap64 ((IntKind.u64.wrap c).tmod 6) = 0) (hx : bits .and .i64 x 15 = a) (a1 : 0 ≤ a) (a2 : a ≤ 15) (hy : bits .and .i64 y 15 = b) (b1 : 0 ≤ b) (b2 : b ≤ 15) (w : World) (ht : Tab w) :
    Calls Tryd.prog 6 #[.int .i64 c, .int .i64 x, .int .i64 y] w fun e w' => e = .returned (.bool true) ∧ Kept w w' := by
  have e1 := phys_table0 a b a1 a2 b1 b2
  have hk : Kept w w := Kept.refl w
  go_enter Tryd.func6, Tryd.ntmps6
  go_wp2_with fail
  refine (awake3_any _ (ht.kept hk)).mono ?_
  rintro e w1 ⟨rfl, hn⟩
  replace hk := hk.trans hn
  clear hn
  go_wp2_with fail
  simp only [hi]
  clear hi
  go_wp2_with fail
  refine with_boxes3 ?_
  intro X hX i r t
  have hsz := hk.size
  replace hk := hk.trans hX
  clear hX
  replace i_l := i.lt
  replace i_0 := i.at 0 _ rfl
  replace i_1 := i.at 1 _ rfl
  replace r_l := r.lt
  replace r_0 := r.at 0 _ rfl
  replace r_1 := r.at 1 _ rfl
  replace r_2 := r.at 2 _ rfl
  replace r_3 := r.at 3 _ rfl
  refine (phys_any _ _ _ _ _ _ _ _ _ (ht.kept hk)).mono ?_
  rintro e w1 ⟨rfl, hn⟩
  replace hk := hk.trans hn
  replace i := i.kept hn
  replace r := r.kept hn
  replace t := t.kept hn
  clear hn
  replace i_l := i.lt
  replace i_0 := i.at 0 _ rfl
  replace i_1 := i.at 1 _ rfl
  replace r_l := r.lt
  replace r_0 := r.at 0 _ rfl
  replace r_1 := r.at 1 _ rfl
  replace r_2 := r.at 2 _ rfl
  replace r_3 := r.at 3 _ rfl
  have t_l := t.lt
  have t_0 := t.at 0 _ rfl
  have t_1 := t.at 1 _ rfl
  have t_2 := t.at 2 _ rfl
  have t_3 := t.at 3 _ rfl
  go_wp2
  go_quiet (first
    | (go_at_call 14; exact Calls.quiet_of_same ((num_any _ _).mono fun _ _ h => ⟨h.1, h.2.symm⟩)))
  go_wp2
  go_ret
  exact ⟨rfl, (by first | ((repeat (first | with_reducible exact hk | with_reducible refine Kept.alloc ?_ _ | with_reducible refine Kept.drew ?_ | with_reducible refine Kept.drewN ?_ _ | with_reducible refine Kept.set ?_ (by first | (simp; done) | (simp; omega) | omega) _)); done) | exact hk | exact (hk.alloc _) | exact ((hk.alloc _).alloc _) | exact (((hk.alloc _).alloc _).alloc _) | exact ((((hk.alloc _).alloc _).alloc _).alloc _) | exact (((((hk.alloc _).alloc _).alloc _).alloc _).alloc _) | exact ((((((hk.alloc _).alloc _).alloc _).alloc _).alloc _).alloc _) | (repeat (first | exact hk | refine Kept.alloc ?_ _ | refine Kept.drew ?_ | refine Kept.drewN ?_ _ | refine Kept.set ?_ (by first | (simp; done) | (simp; omega) | omega) _)))⟩
theorem phys_table1 (a b : Int) (a1 : 0 ≤ a) (a2 : a ≤ 15) (b1 : 0 ≤ b) (b2 : b ≤ 15) : physS 0 1 100 60 a b 20 10 = ((80 - a, b, 20, 10), 0) := by
  rw [physS_ok (by decide) (by omega) (by omega) (by omega) (by omega) (by omega) (by omega), show farB 0 1 0 = true by decide, show farB 0 1 2 = false by decide, show vertB 0 1 = false by decide]
  simp only [turn_near, turn_far (i := 100) (a := a) (s := 20) (by omega) (by omega) (by omega), turn_far (i := 60) (a := b) (s := 10) (by omega) (by omega) (by omega)]
  simp
  try omega
set_option maxHeartbeats 2000000 in
theorem geomTable_1 (c x y a b : Int) (hi : wrap64 ((IntKind.u64.wrap c).tmod 6) = 1) (hx : bits .and .i64 x 15 = a) (a1 : 0 ≤ a) (a2 : a ≤ 15) (hy : bits .and .i64 y 15 = b) (b1 : 0 ≤ b) (b2 : b ≤ 15) (w : World) (ht : Tab w) :
    Calls Tryd.prog 6 #[.int .i64 c, .int .i64 x, .int .i64 y] w fun e w' => e = .returned (.bool true) ∧ Kept w w' := by
  have e1 := phys_table1 a b a1 a2 b1 b2
  have hk : Kept w w := Kept.refl w
  go_enter Tryd.func6, Tryd.ntmps6
  go_wp2_with fail
  refine (awake3_any _ (ht.kept hk)).mono ?_
  rintro e w1 ⟨rfl, hn⟩
  replace hk := hk.trans hn
  clear hn
  go_wp2_with fail
  simp only [hi]
  clear hi
  go_wp2_with fail
  refine with_boxes3 ?_
  intro X hX i r t
  have hsz := hk.size
  replace hk := hk.trans hX
  clear hX
  replace i_l := i.lt
  replace i_0 := i.at 0 _ rfl
  replace i_1 := i.at 1 _ rfl
  replace r_l := r.lt
  replace r_0 := r.at 0 _ rfl
  replace r_1 := r.at 1 _ rfl
  replace r_2 := r.at 2 _ rfl
  replace r_3 := r.at 3 _ rfl
  refine (phys_any _ _ _ _ _ _ _ _ _ (ht.kept hk)).mono ?_
  rintro e w1 ⟨rfl, hn⟩
  replace hk := hk.trans hn
  replace i := i.kept hn
  replace r := r.kept hn
  replace t := t.kept hn
  clear hn
  replace i_l := i.lt
  replace i_0 := i.at 0 _ rfl
  replace i_1 := i.at 1 _ rfl
  replace r_l := r.lt
  replace r_0 := r.at 0 _ rfl
  replace r_1 := r.at 1 _ rfl
  replace r_2 := r.at 2 _ rfl
  replace r_3 := r.at 3 _ rfl
  have t_l := t.lt
  have t_0 := t.at 4 _ rfl
  have t_1 := t.at 5 _ rfl
  have t_2 := t.at 6 _ rfl
  have t_3 := t.at 7 _ rfl
  go_wp2
  go_quiet (first
    | (go_at_call 14; exact Calls.quiet_of_same ((num_any _ _).mono fun _ _ h => ⟨h.1, h.2.symm⟩)))
  go_wp2
  go_ret
  exact ⟨rfl, (by first | ((repeat (first | with_reducible exact hk | with_reducible refine Kept.alloc ?_ _ | with_reducible refine Kept.drew ?_ | with_reducible refine Kept.drewN ?_ _ | with_reducible refine Kept.set ?_ (by first | (simp; done) | (simp; omega) | omega) _)); done) | exact hk | exact (hk.alloc _) | exact ((hk.alloc _).alloc _) | exact (((hk.alloc _).alloc _).alloc _) | exact ((((hk.alloc _).alloc _).alloc _).alloc _) | exact (((((hk.alloc _).alloc _).alloc _).alloc _).alloc _) | exact ((((((hk.alloc _).alloc _).alloc _).alloc _).alloc _).alloc _) | (repeat (first | exact hk | refine Kept.alloc ?_ _ | refine Kept.drew ?_ | refine Kept.drewN ?_ _ | refine Kept.set ?_ (by first | (simp; done) | (simp; omega) | omega) _)))⟩
theorem phys_table2 (a b : Int) (a1 : 0 ≤ a) (a2 : a ≤ 15) (b1 : 0 ≤ b) (b2 : b ≤ 15) : physS 1 0 100 60 a b 20 10 = ((50 - b, a, 10, 20), 0) := by
  rw [physS_ok (by decide) (by omega) (by omega) (by omega) (by omega) (by omega) (by omega), show farB 1 0 0 = false by decide, show farB 1 0 2 = true by decide, show vertB 1 0 = true by decide]
  simp only [turn_near, turn_far (i := 100) (a := a) (s := 20) (by omega) (by omega) (by omega), turn_far (i := 60) (a := b) (s := 10) (by omega) (by omega) (by omega)]
  simp
  try omega
set_option maxHeartbeats 2000000 in
theorem geomTable_2 (c x y a b : Int) (hi : wrap64 ((IntKind.u64.wrap c).tmod 6) = 2) (hx : bits .and .i64 x 15 = a) (a1 : 0 ≤ a) (a2 : a ≤ 15) (hy : bits .and .i64 y 15 = b) (b1 : 0 ≤ b) (b2 : b ≤ 15) (w : World) (ht : Tab w) :
    Calls Tryd.prog 6 #[.int .i64 c, .int .i64 x, .int .i64 y] w fun e w' => e = .returned (.bool true) ∧ Kept w w' := by
  have e1 := phys_table2 a b a1 a2 b1 b2
  have hk : Kept w w := Kept.refl w
  go_enter Tryd.func6, Tryd.ntmps6
  go_wp2_with fail
  refine (awake3_any _ (ht.kept hk)).mono ?_
  rintro e w1 ⟨rfl, hn⟩
  replace hk := hk.trans hn
  clear hn
  go_wp2_with fail
  simp only [hi]
  clear hi
  go_wp2_with fail
  refine with_boxes3 ?_
  intro X hX i r t
  have hsz := hk.size
  replace hk := hk.trans hX
  clear hX
  replace i_l := i.lt
  replace i_0 := i.at 0 _ rfl
  replace i_1 := i.at 1 _ rfl
  replace r_l := r.lt
  replace r_0 := r.at 0 _ rfl
  replace r_1 := r.at 1 _ rfl
  replace r_2 := r.at 2 _ rfl
  replace r_3 := r.at 3 _ rfl
  refine (phys_any _ _ _ _ _ _ _ _ _ (ht.kept hk)).mono ?_
  rintro e w1 ⟨rfl, hn⟩
  replace hk := hk.trans hn
  replace i := i.kept hn
  replace r := r.kept hn
  replace t := t.kept hn
  clear hn
  replace i_l := i.lt
  replace i_0 := i.at 0 _ rfl
  replace i_1 := i.at 1 _ rfl
  replace r_l := r.lt
  replace r_0 := r.at 0 _ rfl
  replace r_1 := r.at 1 _ rfl
  replace r_2 := r.at 2 _ rfl
  replace r_3 := r.at 3 _ rfl
  have t_l := t.lt
  have t_0 := t.at 8 _ rfl
  have t_1 := t.at 9 _ rfl
  have t_2 := t.at 10 _ rfl
  have t_3 := t.at 11 _ rfl
  go_wp2
  go_quiet (first
    | (go_at_call 14; exact Calls.quiet_of_same ((num_any _ _).mono fun _ _ h => ⟨h.1, h.2.symm⟩)))
  go_wp2
  go_ret
  exact ⟨rfl, (by first | ((repeat (first | with_reducible exact hk | with_reducible refine Kept.alloc ?_ _ | with_reducible refine Kept.drew ?_ | with_reducible refine Kept.drewN ?_ _ | with_reducible refine Kept.set ?_ (by first | (simp; done) | (simp; omega) | omega) _)); done) | exact hk | exact (hk.alloc _) | exact ((hk.alloc _).alloc _) | exact (((hk.alloc _).alloc _).alloc _) | exact ((((hk.alloc _).alloc _).alloc _).alloc _) | exact (((((hk.alloc _).alloc _).alloc _).alloc _).alloc _) | exact ((((((hk.alloc _).alloc _).alloc _).alloc _).alloc _).alloc _) | (repeat (first | exact hk | refine Kept.alloc ?_ _ | refine Kept.drew ?_ | refine Kept.drewN ?_ _ | refine Kept.set ?_ (by first | (simp; done) | (simp; omega) | omega) _)))⟩
theorem phys_table3 (a b : Int) (a1 : 0 ≤ a) (a2 : a ≤ 15) (b1 : 0 ≤ b) (b2 : b ≤ 15) : physS 1 1 100 60 a b 20 10 = ((50 - b, 80 - a, 10, 20), 0) := by
  rw [physS_ok (by decide) (by omega) (by omega) (by omega) (by omega) (by omega) (by omega), show farB 1 1 0 = true by decide, show farB 1 1 2 = true by decide, show vertB 1 1 = true by decide]
  simp only [turn_near, turn_far (i := 100) (a := a) (s := 20) (by omega) (by omega) (by omega), turn_far (i := 60) (a := b) (s := 10) (by omega) (by omega) (by omega)]
  simp
  try omega
set_option maxHeartbeats 2000000 in
theorem geomTable_3 (c x y a b : Int) (hi : wrap64 ((IntKind.u64.wrap c).tmod 6) = 3) (hx : bits .and .i64 x 15 = a) (a1 : 0 ≤ a) (a2 : a ≤ 15) (hy : bits .and .i64 y 15 = b) (b1 : 0 ≤ b) (b2 : b ≤ 15) (w : World) (ht : Tab w) :
    Calls Tryd.prog 6 #[.int .i64 c, .int .i64 x, .int .i64 y] w fun e w' => e = .returned (.bool true) ∧ Kept w w' := by
  have e1 := phys_table3 a b a1 a2 b1 b2
  have hk : Kept w w := Kept.refl w
  go_enter Tryd.func6, Tryd.ntmps6
  go_wp2_with fail
  refine (awake3_any _ (ht.kept hk)).mono ?_
  rintro e w1 ⟨rfl, hn⟩
  replace hk := hk.trans hn
  clear hn
  go_wp2_with fail
  simp only [hi]
  clear hi
  go_wp2_with fail
  refine with_boxes3 ?_
  intro X hX i r t
  have hsz := hk.size
  replace hk := hk.trans hX
  clear hX
  replace i_l := i.lt
  replace i_0 := i.at 0 _ rfl
  replace i_1 := i.at 1 _ rfl
  replace r_l := r.lt
  replace r_0 := r.at 0 _ rfl
  replace r_1 := r.at 1 _ rfl
  replace r_2 := r.at 2 _ rfl
  replace r_3 := r.at 3 _ rfl
  refine (phys_any _ _ _ _ _ _ _ _ _ (ht.kept hk)).mono ?_
  rintro e w1 ⟨rfl, hn⟩
  replace hk := hk.trans hn
  replace i := i.kept hn
  replace r := r.kept hn
  replace t := t.kept hn
  clear hn
  replace i_l := i.lt
  replace i_0 := i.at 0 _ rfl
  replace i_1 := i.at 1 _ rfl
  replace r_l := r.lt
  replace r_0 := r.at 0 _ rfl
  replace r_1 := r.at 1 _ rfl
  replace r_2 := r.at 2 _ rfl
  replace r_3 := r.at 3 _ rfl
  have t_l := t.lt
  have t_0 := t.at 12 _ rfl
  have t_1 := t.at 13 _ rfl
  have t_2 := t.at 14 _ rfl
  have t_3 := t.at 15 _ rfl
  go_wp2
  go_quiet (first
    | (go_at_call 14; exact Calls.quiet_of_same ((num_any _ _).mono fun _ _ h => ⟨h.1, h.2.symm⟩)))
  go_wp2
  go_ret
  exact ⟨rfl, (by first | ((repeat (first | with_reducible exact hk | with_reducible refine Kept.alloc ?_ _ | with_reducible refine Kept.drew ?_ | with_reducible refine Kept.drewN ?_ _ | with_reducible refine Kept.set ?_ (by first | (simp; done) | (simp; omega) | omega) _)); done) | exact hk | exact (hk.alloc _) | exact ((hk.alloc _).alloc _) | exact (((hk.alloc _).alloc _).alloc _) | exact ((((hk.alloc _).alloc _).alloc _).alloc _) | exact (((((hk.alloc _).alloc _).alloc _).alloc _).alloc _) | exact ((((((hk.alloc _).alloc _).alloc _).alloc _).alloc _).alloc _) | (repeat (first | exact hk | refine Kept.alloc ?_ _ | refine Kept.drew ?_ | refine Kept.drewN ?_ _ | refine Kept.set ?_ (by first | (simp; done) | (simp; omega) | omega) _)))⟩
theorem phys_table4 (a b : Int) (a1 : 0 ≤ a) (a2 : a ≤ 15) (b1 : 0 ≤ b) (b2 : b ≤ 15) : physS 2 0 100 60 a b 20 10 = ((b, a, 10, 20), 0) := by
  rw [physS_ok (by decide) (by omega) (by omega) (by omega) (by omega) (by omega) (by omega), show farB 2 0 0 = false by decide, show farB 2 0 2 = false by decide, show vertB 2 0 = true by decide]
  simp only [turn_near, turn_far (i := 100) (a := a) (s := 20) (by omega) (by omega) (by omega), turn_far (i := 60) (a := b) (s := 10) (by omega) (by omega) (by omega)]
  simp
  try omega
set_option maxHeartbeats 2000000 in
theorem geomTable_4 (c x y a b : Int) (hi : wrap64 ((IntKind.u64.wrap c).tmod 6) = 4) (hx : bits .and .i64 x 15 = a) (a1 : 0 ≤ a) (a2 : a ≤ 15) (hy : bits .and .i64 y 15 = b) (b1 : 0 ≤ b) (b2 : b ≤ 15) (w : World) (ht : Tab w) :
    Calls Tryd.prog 6 #[.int .i64 c, .int .i64 x, .int .i64 y] w fun e w' => e = .returned (.bool true) ∧ Kept w w' := by
  have e1 := phys_table4 a b a1 a2 b1 b2
  have hk : Kept w w := Kept.refl w
  go_enter Tryd.func6, Tryd.ntmps6
  go_wp2_with fail
  refine (awake3_any _ (ht.kept hk)).mono ?_
  rintro e w1 ⟨rfl, hn⟩
  replace hk := hk.trans hn
  clear hn
  go_wp2_with fail
  simp only [hi]
  clear hi
  go_wp2_with fail
  refine with_boxes3 ?_
  intro X hX i r t
  have hsz := hk.size
  replace hk := hk.trans hX
  clear hX
  replace i_l := i.lt
  replace i_0 := i.at 0 _ rfl
  replace i_1 := i.at 1 _ rfl
  replace r_l := r.lt
  replace r_0 := r.at 0 _ rfl
  replace r_1 := r.at 1 _ rfl
  replace r_2 := r.at 2 _ rfl
  replace r_3 := r.at 3 _ rfl
  refine (phys_any _ _ _ _ _ _ _ _ _ (ht.kept hk)).mono ?_
  rintro e w1 ⟨rfl, hn⟩
  replace hk := hk.trans hn
  replace i := i.kept hn
  replace r := r.kept hn
  replace t := t.kept hn
  clear hn
  replace i_l := i.lt
  replace i_0 := i.at 0 _ rfl
  replace i_1 := i.at 1 _ rfl
  replace r_l := r.lt
  replace r_0 := r.at 0 _ rfl
  replace r_1 := r.at 1 _ rfl
  replace r_2 := r.at 2 _ rfl
  replace r_3 := r.at 3 _ rfl
  have t_l := t.lt
  have t_0 := t.at 16 _ rfl
  have t_1 := t.at 17 _ rfl
  have t_2 := t.at 18 _ rfl
  have t_3 := t.at 19 _ rfl
  go_wp2
  go_quiet (first
    | (go_at_call 14; exact Calls.quiet_of_same ((num_any _ _).mono fun _ _ h => ⟨h.1, h.2.symm⟩)))
  go_wp2
  go_ret
  exact ⟨rfl, (by first | ((repeat (first | with_reducible exact hk | with_reducible refine Kept.alloc ?_ _ | with_reducible refine Kept.drew ?_ | with_reducible refine Kept.drewN ?_ _ | with_reducible refine Kept.set ?_ (by first | (simp; done) | (simp; omega) | omega) _)); done) | exact hk | exact (hk.alloc _) | exact ((hk.alloc _).alloc _) | exact (((hk.alloc _).alloc _).alloc _) | exact ((((hk.alloc _).alloc _).alloc _).alloc _) | exact (((((hk.alloc _).alloc _).alloc _).alloc _).alloc _) | exact ((((((hk.alloc _).alloc _).alloc _).alloc _).alloc _).alloc _) | (repeat (first | exact hk | refine Kept.alloc ?_ _ | refine Kept.drew ?_ | refine Kept.drewN ?_ _ | refine Kept.set ?_ (by first | (simp; done) | (simp; omega) | omega) _)))⟩
theorem phys_table5 (a b : Int) (a1 : 0 ≤ a) (a2 : a ≤ 15) (b1 : 0 ≤ b) (b2 : b ≤ 15) : physS 2 1 100 60 a b 20 10 = ((b, 80 - a, 10, 20), 0) := by
  rw [physS_ok (by decide) (by omega) (by omega) (by omega) (by omega) (by omega) (by omega), show farB 2 1 0 = true by decide, show farB 2 1 2 = false by decide, show vertB 2 1 = true by decide]
  simp only [turn_near, turn_far (i := 100) (a := a) (s := 20) (by omega) (by omega) (by omega), turn_far (i := 60) (a := b) (s := 10) (by omega) (by omega) (by omega)]
  simp
  try omega
set_option maxHeartbeats 2000000 in
theorem geomTable_5 (c x y a b : Int) (hi : wrap64 ((IntKind.u64.wrap c).tmod 6) = 5) (hx : bits .and .i64 x 15 = a) (a1 : 0 ≤ a) (a2 : a ≤ 15) (hy : bits .and .i64 y 15 = b) (b1 : 0 ≤ b) (b2 : b ≤ 15) (w : World) (ht : Tab w) :
    Calls Tryd.prog 6 #[.int .i64 c, .int .i64 x, .int .i64 y] w fun e w' => e = .returned (.bool true) ∧ Kept w w' := by
  have e1 := phys_table5 a b a1 a2 b1 b2
  have hk : Kept w w := Kept.refl w
  go_enter Tryd.func6, Tryd.ntmps6
  go_wp2_with fail
  refine (awake3_any _ (ht.kept hk)).mono ?_
  rintro e w1 ⟨rfl, hn⟩
  replace hk := hk.trans hn
  clear hn
  go_wp2_with fail
  simp only [hi]
  clear hi
  go_wp2_with fail
  refine with_boxes3 ?_
  intro X hX i r t
  have hsz := hk.size
  replace hk := hk.trans hX
  clear hX
  replace i_l := i.lt
  replace i_0 := i.at 0 _ rfl
  replace i_1 := i.at 1 _ rfl
  replace r_l := r.lt
  replace r_0 := r.at 0 _ rfl
  replace r_1 := r.at 1 _ rfl
  replace r_2 := r.at 2 _ rfl
  replace r_3 := r.at 3 _ rfl
  refine (phys_any _ _ _ _ _ _ _ _ _ (ht.kept hk)).mono ?_
  rintro e w1 ⟨rfl, hn⟩
  replace hk := hk.trans hn
  replace i := i.kept hn
  replace r := r.kept hn
  replace t := t.kept hn
  clear hn
  replace i_l := i.lt
  replace i_0 := i.at 0 _ rfl
  replace i_1 := i.at 1 _ rfl
  replace r_l := r.lt
  replace r_0 := r.at 0 _ rfl
  replace r_1 := r.at 1 _ rfl
  replace r_2 := r.at 2 _ rfl
  replace r_3 := r.at 3 _ rfl
  have t_l := t.lt
  have t_0 := t.at 20 _ rfl
  have t_1 := t.at 21 _ rfl
  have t_2 := t.at 22 _ rfl
  have t_3 := t.at 23 _ rfl
  go_wp2
  go_quiet (first
    | (go_at_call 14; exact Calls.quiet_of_same ((num_any _ _).mono fun _ _ h => ⟨h.1, h.2.symm⟩)))
  go_wp2
  go_ret
  exact ⟨rfl, (by first | ((repeat (first | with_reducible exact hk | with_reducible refine Kept.alloc ?_ _ | with_reducible refine Kept.drew ?_ | with_reducible refine Kept.drewN ?_ _ | with_reducible refine Kept.set ?_ (by first | (simp; done) | (simp; omega) | omega) _)); done) | exact hk | exact (hk.alloc _) | exact ((hk.alloc _).alloc _) | exact (((hk.alloc _).alloc _).alloc _) | exact ((((hk.alloc _).alloc _).alloc _).alloc _) | exact (((((hk.alloc _).alloc _).alloc _).alloc _).alloc _) | exact ((((((hk.alloc _).alloc _).alloc _).alloc _).alloc _).alloc _) | (repeat (first | exact hk | refine Kept.alloc ?_ _ | refine Kept.drew ?_ | refine Kept.drewN ?_ _ | refine Kept.set ?_ (by first | (simp; done) | (simp; omega) | omega) _)))⟩
theorem geomTable_walk (c x y : Int) (w : World) (ht : Tab w) :
    Calls Tryd.prog 6 #[.int .i64 c, .int .i64 x, .int .i64 y] w fun e w' => e = .returned (.bool true) ∧ Kept w w' := by
  obtain ⟨a, hx, a1, a2⟩ := masked x 4 15 (by decide) (by decide)
  obtain ⟨b, hy, b1, b2⟩ := masked y 4 15 (by decide) (by decide)
  obtain ⟨i, hi, i1, i2⟩ := urest c 6 (by decide) (by decide)
  rcases (by omega : i = 0 ∨ i = 1 ∨ i = 2 ∨ i = 3 ∨ i = 4 ∨ i = 5) with rfl | rfl | rfl | rfl | rfl | rfl
  · exact geomTable_0 c x y a b hi hx a1 a2 hy b1 b2 w ht
  · exact geomTable_1 c x y a b hi hx a1 a2 hy b1 b2 w ht
  · exact geomTable_2 c x y a b hi hx a1 a2 hy b1 b2 w ht
  · exact geomTable_3 c x y a b hi hx a1 a2 hy b1 b2 w ht
  · exact geomTable_4 c x y a b hi hx a1 a2 hy b1 b2 w ht
  · exact geomTable_5 c x y a b hi hx a1 a2 hy b1 b2 w ht
end Go.Proofs.YtjehmhgafibgbaaDoor
