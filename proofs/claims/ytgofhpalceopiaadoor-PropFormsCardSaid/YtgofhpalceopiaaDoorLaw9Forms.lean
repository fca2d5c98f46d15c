/- Layer 9: properties, names that are none. -/
import Derived.Test.YtgofhpalceopiaaDoorAwake9
import Derived.Test.YtgofhpalceopiaaDoorMask
namespace Go.Proofs.YtgofhpalceopiaaDoor
open Go.RowKit
set_option linter.unusedSimpArgs false
set_option linter.unusedVariables false
set_option maxRecDepth 20000 in
set_option maxHeartbeats 4000000 in
theorem propForms_0 (c x q d i : Int) (hi : wrap64 ((IntKind.u64.wrap c).tmod 8) = i) (i1 : 0 ≤ i) (i2 : i < 8) (hj : bits .and .i64 c 1 = 0) (hq : bits .and .i64 x 1023 = q) (hqd : 1 + q = d) (d1 : 1 ≤ d) (d2 : d ≤ 1024) (w : World) (ht : TabN w) :
    Calls Tryd.prog 5 #[.int .i64 c, .int .i64 x] w fun e w' => e = .returned (.bool true) ∧ Kept w w' := by
  have hbad : inB 0 28 (-d) = false := inB_false.2 (by omega)
  have hm : mapS 0 0 (-d) = (0, 900) := if_neg (by simp [hbad])
  have HB := Lib.hid hbad
  clear hbad
  have t0 : propOf ⟨#[]⟩ = (0, 900) := by decide +kernel
  have t1 : propOf ⟨#[105, 110, 108, 105, 110, 101]⟩ = (0, 900) := by decide +kernel
  have t2 : propOf ⟨#[109, 97, 114, 103, 105, 110]⟩ = (0, 900) := by decide +kernel
  have t3 : propOf ⟨#[109, 97, 114, 103, 105, 110, 45, 116, 111, 112, 32]⟩ = (0, 900) := by decide +kernel
  have t4 : propOf ⟨#[77, 97, 114, 103, 105, 110, 45, 116, 111, 112]⟩ = (0, 900) := by decide +kernel
  have t5 : propOf ⟨#[112, 97, 100, 100, 105, 110, 103, 95, 116, 111, 112]⟩ = (0, 900) := by decide +kernel
  have t6 : propOf ⟨#[102, 108, 101, 120]⟩ = (0, 900) := by decide +kernel
  have t7 : propOf ⟨#[116, 101, 120, 116, 45, 97, 108, 105, 103, 110, 45, 108, 97, 115, 116]⟩ = (0, 900) := by decide +kernel
  rcases (by omega : i = 0 ∨ i = 1 ∨ i = 2 ∨ i = 3 ∨ i = 4 ∨ i = 5 ∨ i = 6 ∨ i = 7) with rfl | rfl | rfl | rfl | rfl | rfl | rfl | rfl
  all_goals
    have hk : Kept w w := Kept.refl w
    go_enter Tryd.func5, Tryd.ntmps5
    go_wp2_with fail
    refine (awake9_any _ (ht.kept hk)).mono ?_
    rintro e w1 ⟨rfl, hn⟩
    replace hk := hk.trans hn
    clear hn
    go_wp2_with fail
    refine with_boxes1 ?_
    intro X hX a
    have hsz := hk.size
    replace hk := hk.trans hX
    clear hX
    replace a_l := a.lt
    replace a_0 := a.at 0 _ rfl
    replace a_1 := a.at 1 _ rfl
    refine (propName_no (-d) HB.out _).mono ?_
    rintro e w1 ⟨rfl, hn⟩
    replace hk := hk.trans hn
    replace a := a.kept hn
    clear hn
    replace a_l := a.lt
    replace a_0 := a.at 0 _ rfl
    replace a_1 := a.at 1 _ rfl
    go_wp2_with fail
    refine (propMap_any _ _ _ _ (ht.kept hk).tab).mono ?_
    rintro e w1 ⟨rfl, hn⟩
    replace hk := hk.trans hn
    replace a := a.kept hn
    clear hn
    replace a_l := a.lt
    replace a_0 := a.at 0 _ rfl
    replace a_1 := a.at 1 _ rfl
    go_wp2_with fail
    refine with_boxes1 ?_
    intro X hX b
    have hsz := hk.size
    replace hk := hk.trans hX
    replace a := a.kept hX
    clear hX
    replace a_l := a.lt
    replace a_0 := a.at 0 _ rfl
    replace a_1 := a.at 1 _ rfl
    replace b_l := b.lt
    replace b_0 := b.at 0 _ rfl
    replace b_1 := b.at 1 _ rfl
    replace b_2 := b.at 2 _ rfl
    replace b_3 := b.at 3 _ rfl
    replace b_4 := b.at 4 _ rfl
    replace b_5 := b.at 5 _ rfl
    replace b_6 := b.at 6 _ rfl
    replace b_7 := b.at 7 _ rfl
    refine (propParse_any _ _ (ht.kept hk)).mono ?_
    rintro e w1 ⟨rfl, hn⟩
    replace hk := hk.trans hn
    replace a := a.kept hn
    replace b := b.kept hn
    clear hn
    replace a_l := a.lt
    replace a_0 := a.at 0 _ rfl
    replace a_1 := a.at 1 _ rfl
    replace b_l := b.lt
    replace b_0 := b.at 0 _ rfl
    replace b_1 := b.at 1 _ rfl
    replace b_2 := b.at 2 _ rfl
    replace b_3 := b.at 3 _ rfl
    replace b_4 := b.at 4 _ rfl
    replace b_5 := b.at 5 _ rfl
    replace b_6 := b.at 6 _ rfl
    replace b_7 := b.at 7 _ rfl
    go_wp2_with fail
    refine (num_any _ _).mono ?_
    rintro e w1 ⟨rfl, rfl⟩
    go_wp2_with fail
    refine (num_any _ _).mono ?_
    rintro e w1 ⟨rfl, rfl⟩
    go_wp2_with fail
    refine (num_any _ _).mono ?_
    rintro e w1 ⟨rfl, rfl⟩
    go_wp2
    go_ret
    exact ⟨rfl, hk⟩
set_option maxRecDepth 20000 in
set_option maxHeartbeats 4000000 in
theorem propForms_1 (c x q d i : Int) (hi : wrap64 ((IntKind.u64.wrap c).tmod 8) = i) (i1 : 0 ≤ i) (i2 : i < 8) (hj : bits .and .i64 c 1 = 1) (hq : bits .and .i64 x 1023 = q) (hqd : 1 + q = d) (d1 : 1 ≤ d) (d2 : d ≤ 1024) (w : World) (ht : TabN w) :
    Calls Tryd.prog 5 #[.int .i64 c, .int .i64 x] w fun e w' => e = .returned (.bool true) ∧ Kept w w' := by
  have hbad : inB 0 28 (28 + d) = false := inB_false.2 (by omega)
  have hm : mapS 0 0 (28 + d) = (0, 900) := if_neg (by simp [hbad])
  have HB := Lib.hid hbad
  clear hbad
  have t0 : propOf ⟨#[]⟩ = (0, 900) := by decide +kernel
  have t1 : propOf ⟨#[105, 110, 108, 105, 110, 101]⟩ = (0, 900) := by decide +kernel
  have t2 : propOf ⟨#[109, 97, 114, 103, 105, 110]⟩ = (0, 900) := by decide +kernel
  have t3 : propOf ⟨#[109, 97, 114, 103, 105, 110, 45, 116, 111, 112, 32]⟩ = (0, 900) := by decide +kernel
  have t4 : propOf ⟨#[77, 97, 114, 103, 105, 110, 45, 116, 111, 112]⟩ = (0, 900) := by decide +kernel
  have t5 : propOf ⟨#[112, 97, 100, 100, 105, 110, 103, 95, 116, 111, 112]⟩ = (0, 900) := by decide +kernel
  have t6 : propOf ⟨#[102, 108, 101, 120]⟩ = (0, 900) := by decide +kernel
  have t7 : propOf ⟨#[116, 101, 120, 116, 45, 97, 108, 105, 103, 110, 45, 108, 97, 115, 116]⟩ = (0, 900) := by decide +kernel
  rcases (by omega : i = 0 ∨ i = 1 ∨ i = 2 ∨ i = 3 ∨ i = 4 ∨ i = 5 ∨ i = 6 ∨ i = 7) with rfl | rfl | rfl | rfl | rfl | rfl | rfl | rfl
  all_goals
    have hk : Kept w w := Kept.refl w
    go_enter Tryd.func5, Tryd.ntmps5
    go_wp2_with fail
    refine (awake9_any _ (ht.kept hk)).mono ?_
    rintro e w1 ⟨rfl, hn⟩
    replace hk := hk.trans hn
    clear hn
    go_wp2_with fail
    refine with_boxes1 ?_
    intro X hX a
    have hsz := hk.size
    replace hk := hk.trans hX
    clear hX
    replace a_l := a.lt
    replace a_0 := a.at 0 _ rfl
    replace a_1 := a.at 1 _ rfl
    refine (propName_no (28 + d) HB.out _).mono ?_
    rintro e w1 ⟨rfl, hn⟩
    replace hk := hk.trans hn
    replace a := a.kept hn
    clear hn
    replace a_l := a.lt
    replace a_0 := a.at 0 _ rfl
    replace a_1 := a.at 1 _ rfl
    go_wp2_with fail
    refine (propMap_any _ _ _ _ (ht.kept hk).tab).mono ?_
    rintro e w1 ⟨rfl, hn⟩
    replace hk := hk.trans hn
    replace a := a.kept hn
    clear hn
    replace a_l := a.lt
    replace a_0 := a.at 0 _ rfl
    replace a_1 := a.at 1 _ rfl
    go_wp2_with fail
    refine with_boxes1 ?_
    intro X hX b
    have hsz := hk.size
    replace hk := hk.trans hX
    replace a := a.kept hX
    clear hX
    replace a_l := a.lt
    replace a_0 := a.at 0 _ rfl
    replace a_1 := a.at 1 _ rfl
    replace b_l := b.lt
    replace b_0 := b.at 0 _ rfl
    replace b_1 := b.at 1 _ rfl
    replace b_2 := b.at 2 _ rfl
    replace b_3 := b.at 3 _ rfl
    replace b_4 := b.at 4 _ rfl
    replace b_5 := b.at 5 _ rfl
    replace b_6 := b.at 6 _ rfl
    replace b_7 := b.at 7 _ rfl
    refine (propParse_any _ _ (ht.kept hk)).mono ?_
    rintro e w1 ⟨rfl, hn⟩
    replace hk := hk.trans hn
    replace a := a.kept hn
    replace b := b.kept hn
    clear hn
    replace a_l := a.lt
    replace a_0 := a.at 0 _ rfl
    replace a_1 := a.at 1 _ rfl
    replace b_l := b.lt
    replace b_0 := b.at 0 _ rfl
    replace b_1 := b.at 1 _ rfl
    replace b_2 := b.at 2 _ rfl
    replace b_3 := b.at 3 _ rfl
    replace b_4 := b.at 4 _ rfl
    replace b_5 := b.at 5 _ rfl
    replace b_6 := b.at 6 _ rfl
    replace b_7 := b.at 7 _ rfl
    go_wp2_with fail
    refine (num_any _ _).mono ?_
    rintro e w1 ⟨rfl, rfl⟩
    go_wp2_with fail
    refine (num_any _ _).mono ?_
    rintro e w1 ⟨rfl, rfl⟩
    go_wp2_with fail
    refine (num_any _ _).mono ?_
    rintro e w1 ⟨rfl, rfl⟩
    go_wp2
    go_ret
    exact ⟨rfl, hk⟩
theorem propForms_walk (c x : Int) (w : World) (ht : TabN w) :
    Calls Tryd.prog 5 #[.int .i64 c, .int .i64 x] w fun e w' => e = .returned (.bool true) ∧ Kept w w' := by
  obtain ⟨q, hq, q1, q2⟩ := masked x 10 1023 (by decide) (by decide)
  obtain ⟨jj, hj, j1, j2⟩ := masked c 1 1 (by decide) (by decide)
  obtain ⟨i, hi, i1, i2⟩ := urest c 8 (by decide) (by decide)
  rcases (by omega : jj = 0 ∨ jj = 1) with rfl | rfl
  · exact propForms_0 c x q (1 + q) i hi i1 (by omega) hj hq rfl (by omega) (by omega) w ht
  · exact propForms_1 c x q (1 + q) i hi i1 (by omega) hj hq rfl (by omega) (by omega) w ht
end Go.Proofs.YtgofhpalceopiaaDoor
