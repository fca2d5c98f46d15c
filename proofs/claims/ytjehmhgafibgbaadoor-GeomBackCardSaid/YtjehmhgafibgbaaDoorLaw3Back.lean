/- Layer 3: a rectangle comes back, in each mode. -/
import Derived.Test.YtjehmhgafibgbaaDoorLaw3Table
import Derived.Test.YtjehmhgafibgbaaDoorRefMode
import Derived.Deep.CutRange
namespace Go.Proofs.YtjehmhgafibgbaaDoor
open Go.RowKit
set_option linter.unusedSimpArgs false
set_option linter.unusedVariables false
def insB (a b c d : Int) (i j : Int) : Bool := decide (0 ≤ a) && decide (0 ≤ b) && decide (a + c ≤ i) && decide (b + d ≤ j)
theorem insB_true {a b c d i j : Int} : insB a b c d i j = true ↔ 0 ≤ a ∧ 0 ≤ b ∧ a + c ≤ i ∧ b + d ≤ j := by
  unfold insB; simp [Bool.and_eq_true, and_assoc]
theorem insB_eq {a b c d i j x y z u k l : Int} (h : (0 ≤ a ∧ 0 ≤ b ∧ a + c ≤ i ∧ b + d ≤ j) ↔ (0 ≤ x ∧ 0 ≤ y ∧ x + z ≤ k ∧ y + u ≤ l)) : insB a b c d i j = insB x y z u k l := by
  rw [Bool.eq_iff_iff, insB_true, insB_true]; exact h
theorem turn_axis (F : Bool) {i a s : Int} (h1 : 0 ≤ i ∧ i ≤ 1073741824) (h2 : -1073741824 ≤ a ∧ a ≤ 1073741824) (h3 : 0 ≤ s ∧ s ≤ 1073741824) :
    (-2147483648 ≤ turnS F i a s ∧ turnS F i a s ≤ 2147483648) ∧ ((0 ≤ turnS F i a s ∧ turnS F i a s + s ≤ i) ↔ (0 ≤ a ∧ a + s ≤ i)) ∧ turnS F i (turnS F i a s) s = a := by
  cases F with
  | false => exact ⟨by rw [turn_near]; omega, by rw [turn_near], rfl⟩
  | true =>
    rw [turn_far h1 h2 h3]
    refine ⟨by omega, by omega, ?_⟩
    unfold turnS wrap64; simp; omega
section
variable (wm di x y ra rb sa sb p q ia ib bx by_ bw bh M : Int) (w : World)
set_option maxHeartbeats 1000000 in
theorem geomBack_no1 (ht : Tab w) (h1 : modeMayB wm di = false) :
    Calls Tryd.prog 4 #[modeV wm di, .int .i64 x, .int .i64 y, fourV ra rb sa sb] w fun e w' => e = .returned (.bool true) ∧ Kept w w' := by
  have e1 : ∀ a b, logS wm di a b = ((0, 0), 300) := fun a b => if_neg (by simp [h1])
  have hk : Kept w w := Kept.refl w
  go_enter Tryd.func4, Tryd.ntmps4
  go_wp2_with fail
  refine with_boxes2 ?_
  intro X hX m r
  have hsz := hk.size
  replace hk := hk.trans hX
  clear hX
  replace m_l := m.lt
  replace m_0 := m.at 0 _ rfl
  replace m_1 := m.at 1 _ rfl
  replace r_l := r.lt
  replace r_0 := r.at 0 _ rfl
  replace r_1 := r.at 1 _ rfl
  replace r_2 := r.at 2 _ rfl
  replace r_3 := r.at 3 _ rfl
  refine (awake3_any _ (ht.kept hk)).mono ?_
  rintro e w1 ⟨rfl, hn⟩
  replace hk := hk.trans hn
  replace m := m.kept hn
  replace r := r.kept hn
  clear hn
  replace m_l := m.lt
  replace m_0 := m.at 0 _ rfl
  replace m_1 := m.at 1 _ rfl
  replace r_l := r.lt
  replace r_0 := r.at 0 _ rfl
  replace r_1 := r.at 1 _ rfl
  replace r_2 := r.at 2 _ rfl
  replace r_3 := r.at 3 _ rfl
  go_wp2_with fail
  refine (geomLogical_any _ _ _ _ _).mono ?_
  rintro e w1 ⟨rfl, hn⟩
  replace hk := hk.trans hn
  replace m := m.kept hn
  replace r := r.kept hn
  clear hn
  replace m_l := m.lt
  replace m_0 := m.at 0 _ rfl
  replace m_1 := m.at 1 _ rfl
  replace r_l := r.lt
  replace r_0 := r.at 0 _ rfl
  replace r_1 := r.at 1 _ rfl
  replace r_2 := r.at 2 _ rfl
  replace r_3 := r.at 3 _ rfl
  go_wp2_with fail
  refine with_boxes1 ?_
  intro X hX i
  have hsz := hk.size
  replace hk := hk.trans hX
  replace m := m.kept hX
  replace r := r.kept hX
  clear hX
  replace m_l := m.lt
  replace m_0 := m.at 0 _ rfl
  replace m_1 := m.at 1 _ rfl
  replace r_l := r.lt
  replace r_0 := r.at 0 _ rfl
  replace r_1 := r.at 1 _ rfl
  replace r_2 := r.at 2 _ rfl
  replace r_3 := r.at 3 _ rfl
  replace i_l := i.lt
  replace i_0 := i.at 0 _ rfl
  replace i_1 := i.at 1 _ rfl
  refine (num_any _ _).mono ?_
  rintro e w1 ⟨rfl, rfl⟩
  go_wp2_with fail
  refine (refModeMay_any _ _ _).mono ?_
  rintro e w1 ⟨rfl, hn⟩
  replace hk := hk.trans hn
  replace m := m.kept hn
  replace r := r.kept hn
  replace i := i.kept hn
  clear hn
  replace m_l := m.lt
  replace m_0 := m.at 0 _ rfl
  replace m_1 := m.at 1 _ rfl
  replace r_l := r.lt
  replace r_0 := r.at 0 _ rfl
  replace r_1 := r.at 1 _ rfl
  replace r_2 := r.at 2 _ rfl
  replace r_3 := r.at 3 _ rfl
  replace i_l := i.lt
  replace i_0 := i.at 0 _ rfl
  replace i_1 := i.at 1 _ rfl
  go_wp2
  go_ret
  exact ⟨rfl, (by first | ((repeat (first | with_reducible exact hk | with_reducible refine Kept.alloc ?_ _ | with_reducible refine Kept.drew ?_ | with_reducible refine Kept.drewN ?_ _ | with_reducible refine Kept.set ?_ (by first | (simp; done) | (simp; omega) | omega) _)); done) | exact hk | exact (hk.alloc _) | exact ((hk.alloc _).alloc _) | exact (((hk.alloc _).alloc _).alloc _) | exact ((((hk.alloc _).alloc _).alloc _).alloc _) | exact (((((hk.alloc _).alloc _).alloc _).alloc _).alloc _) | exact ((((((hk.alloc _).alloc _).alloc _).alloc _).alloc _).alloc _) | (repeat (first | exact hk | refine Kept.alloc ?_ _ | refine Kept.drew ?_ | refine Kept.drewN ?_ _ | refine Kept.set ?_ (by first | (simp; done) | (simp; omega) | omega) _)))⟩
set_option maxHeartbeats 1000000 in
theorem geomBack_no2 (ht : Tab w) (hx : bits .and .i64 x 65535 = p) (hy : bits .and .i64 y 65535 = q) (e1 : logS wm di p q = ((ia, ib), 0)) (e2 : physS wm di ia ib ra rb sa sb = ((0, 0, 0, 0), 300)) :
    Calls Tryd.prog 4 #[modeV wm di, .int .i64 x, .int .i64 y, fourV ra rb sa sb] w fun e w' => e = .returned (.bool true) ∧ Kept w w' := by
  have hk : Kept w w := Kept.refl w
  go_enter Tryd.func4, Tryd.ntmps4
  go_wp2_with fail
  refine with_boxes2 ?_
  intro X hX m r
  have hsz := hk.size
  replace hk := hk.trans hX
  clear hX
  replace m_l := m.lt
  replace m_0 := m.at 0 _ rfl
  replace m_1 := m.at 1 _ rfl
  replace r_l := r.lt
  replace r_0 := r.at 0 _ rfl
  replace r_1 := r.at 1 _ rfl
  replace r_2 := r.at 2 _ rfl
  replace r_3 := r.at 3 _ rfl
  refine (awake3_any _ (ht.kept hk)).mono ?_
  rintro e w1 ⟨rfl, hn⟩
  replace hk := hk.trans hn
  replace m := m.kept hn
  replace r := r.kept hn
  clear hn
  replace m_l := m.lt
  replace m_0 := m.at 0 _ rfl
  replace m_1 := m.at 1 _ rfl
  replace r_l := r.lt
  replace r_0 := r.at 0 _ rfl
  replace r_1 := r.at 1 _ rfl
  replace r_2 := r.at 2 _ rfl
  replace r_3 := r.at 3 _ rfl
  go_wp2_with fail
  refine (geomLogical_any _ _ _ _ _).mono ?_
  rintro e w1 ⟨rfl, hn⟩
  replace hk := hk.trans hn
  replace m := m.kept hn
  replace r := r.kept hn
  clear hn
  replace m_l := m.lt
  replace m_0 := m.at 0 _ rfl
  replace m_1 := m.at 1 _ rfl
  replace r_l := r.lt
  replace r_0 := r.at 0 _ rfl
  replace r_1 := r.at 1 _ rfl
  replace r_2 := r.at 2 _ rfl
  replace r_3 := r.at 3 _ rfl
  go_wp2_with fail
  refine with_boxes1 ?_
  intro X hX i
  have hsz := hk.size
  replace hk := hk.trans hX
  replace m := m.kept hX
  replace r := r.kept hX
  clear hX
  replace m_l := m.lt
  replace m_0 := m.at 0 _ rfl
  replace m_1 := m.at 1 _ rfl
  replace r_l := r.lt
  replace r_0 := r.at 0 _ rfl
  replace r_1 := r.at 1 _ rfl
  replace r_2 := r.at 2 _ rfl
  replace r_3 := r.at 3 _ rfl
  replace i_l := i.lt
  replace i_0 := i.at 0 _ rfl
  replace i_1 := i.at 1 _ rfl
  refine (num_any _ _).mono ?_
  rintro e w1 ⟨rfl, rfl⟩
  go_wp2_with fail
  refine (phys_any _ _ _ _ _ _ _ _ _ (ht.kept hk)).mono ?_
  rintro e w1 ⟨rfl, hn⟩
  replace hk := hk.trans hn
  replace m := m.kept hn
  replace r := r.kept hn
  replace i := i.kept hn
  clear hn
  replace m_l := m.lt
  replace m_0 := m.at 0 _ rfl
  replace m_1 := m.at 1 _ rfl
  replace r_l := r.lt
  replace r_0 := r.at 0 _ rfl
  replace r_1 := r.at 1 _ rfl
  replace r_2 := r.at 2 _ rfl
  replace r_3 := r.at 3 _ rfl
  replace i_l := i.lt
  replace i_0 := i.at 0 _ rfl
  replace i_1 := i.at 1 _ rfl
  go_wp2_with fail
  refine with_boxes1 ?_
  intro X hX b
  have hsz := hk.size
  replace hk := hk.trans hX
  replace m := m.kept hX
  replace r := r.kept hX
  replace i := i.kept hX
  clear hX
  replace m_l := m.lt
  replace m_0 := m.at 0 _ rfl
  replace m_1 := m.at 1 _ rfl
  replace r_l := r.lt
  replace r_0 := r.at 0 _ rfl
  replace r_1 := r.at 1 _ rfl
  replace r_2 := r.at 2 _ rfl
  replace r_3 := r.at 3 _ rfl
  replace i_l := i.lt
  replace i_0 := i.at 0 _ rfl
  replace i_1 := i.at 1 _ rfl
  replace b_l := b.lt
  replace b_0 := b.at 0 _ rfl
  replace b_1 := b.at 1 _ rfl
  replace b_2 := b.at 2 _ rfl
  replace b_3 := b.at 3 _ rfl
  refine (num_any _ _).mono ?_
  rintro e w1 ⟨rfl, rfl⟩
  go_wp2
  go_ret
  exact ⟨rfl, (by first | ((repeat (first | with_reducible exact hk | with_reducible refine Kept.alloc ?_ _ | with_reducible refine Kept.drew ?_ | with_reducible refine Kept.drewN ?_ _ | with_reducible refine Kept.set ?_ (by first | (simp; done) | (simp; omega) | omega) _)); done) | exact hk | exact (hk.alloc _) | exact ((hk.alloc _).alloc _) | exact (((hk.alloc _).alloc _).alloc _) | exact ((((hk.alloc _).alloc _).alloc _).alloc _) | exact (((((hk.alloc _).alloc _).alloc _).alloc _).alloc _) | exact ((((((hk.alloc _).alloc _).alloc _).alloc _).alloc _).alloc _) | (repeat (first | exact hk | refine Kept.alloc ?_ _ | refine Kept.drew ?_ | refine Kept.drewN ?_ _ | refine Kept.set ?_ (by first | (simp; done) | (simp; omega) | omega) _)))⟩
set_option maxRecDepth 20000 in
set_option maxHeartbeats 4000000 in
theorem geomBack_main (ht : Tab w) (hx : bits .and .i64 x 65535 = p) (hy : bits .and .i64 y 65535 = q) (p1 : 0 ≤ p ∧ p ≤ 65535) (q1 : 0 ≤ q ∧ q ≤ 65535)
    (e1 : logS wm di p q = ((ia, ib), 0)) (e2 : physS wm di ia ib ra rb sa sb = ((bx, by_, bw, bh), 0)) (e3 : backS wm di ia ib bx by_ bw bh = ((ra, rb, sa, sb), 0))
    (r1 : -1073741824 ≤ ra ∧ ra ≤ 1073741824) (r2 : -1073741824 ≤ rb ∧ rb ≤ 1073741824) (r3 : 0 ≤ sa ∧ sa ≤ 1073741824) (r4 : 0 ≤ sb ∧ sb ≤ 1073741824)
    (b1 : -2147483648 ≤ bx ∧ bx ≤ 2147483648) (b2 : -2147483648 ≤ by_ ∧ by_ ≤ 2147483648) (b3 : 0 ≤ bw ∧ bw ≤ 1073741824) (b4 : 0 ≤ bh ∧ bh ≤ 1073741824)
    (hI : insB bx by_ bw bh p q = insB ra rb sa sb ia ib) (hM1 : wrap64 (bw * bh) = M) (hM2 : wrap64 (sa * sb) = M) :
    Calls Tryd.prog 4 #[modeV wm di, .int .i64 x, .int .i64 y, fourV ra rb sa sb] w fun e w' => e = .returned (.bool true) ∧ Kept w w' := by
  replace hI := Lib.hid hI
  have hk : Kept w w := Kept.refl w
  go_enter Tryd.func4, Tryd.ntmps4
  go_wp2_with fail
  refine with_boxes2 ?_
  intro X hX m r
  have hsz := hk.size
  replace hk := hk.trans hX
  clear hX
  replace m_l := m.lt
  replace m_0 := m.at 0 _ rfl
  replace m_1 := m.at 1 _ rfl
  replace r_l := r.lt
  replace r_0 := r.at 0 _ rfl
  replace r_1 := r.at 1 _ rfl
  replace r_2 := r.at 2 _ rfl
  replace r_3 := r.at 3 _ rfl
  refine (awake3_any _ (ht.kept hk)).mono ?_
  rintro e w1 ⟨rfl, hn⟩
  replace hk := hk.trans hn
  replace m := m.kept hn
  replace r := r.kept hn
  clear hn
  replace m_l := m.lt
  replace m_0 := m.at 0 _ rfl
  replace m_1 := m.at 1 _ rfl
  replace r_l := r.lt
  replace r_0 := r.at 0 _ rfl
  replace r_1 := r.at 1 _ rfl
  replace r_2 := r.at 2 _ rfl
  replace r_3 := r.at 3 _ rfl
  go_wp2_with fail
  refine (geomLogical_any _ _ _ _ _).mono ?_
  rintro e w1 ⟨rfl, hn⟩
  replace hk := hk.trans hn
  replace m := m.kept hn
  replace r := r.kept hn
  clear hn
  replace m_l := m.lt
  replace m_0 := m.at 0 _ rfl
  replace m_1 := m.at 1 _ rfl
  replace r_l := r.lt
  replace r_0 := r.at 0 _ rfl
  replace r_1 := r.at 1 _ rfl
  replace r_2 := r.at 2 _ rfl
  replace r_3 := r.at 3 _ rfl
  go_wp2_with fail
  refine with_boxes1 ?_
  intro X hX i
  have hsz := hk.size
  replace hk := hk.trans hX
  replace m := m.kept hX
  replace r := r.kept hX
  clear hX
  replace m_l := m.lt
  replace m_0 := m.at 0 _ rfl
  replace m_1 := m.at 1 _ rfl
  replace r_l := r.lt
  replace r_0 := r.at 0 _ rfl
  replace r_1 := r.at 1 _ rfl
  replace r_2 := r.at 2 _ rfl
  replace r_3 := r.at 3 _ rfl
  replace i_l := i.lt
  replace i_0 := i.at 0 _ rfl
  replace i_1 := i.at 1 _ rfl
  refine (num_any _ _).mono ?_
  rintro e w1 ⟨rfl, rfl⟩
  go_wp2_with fail
  refine (phys_any _ _ _ _ _ _ _ _ _ (ht.kept hk)).mono ?_
  rintro e w1 ⟨rfl, hn⟩
  replace hk := hk.trans hn
  replace m := m.kept hn
  replace r := r.kept hn
  replace i := i.kept hn
  clear hn
  replace m_l := m.lt
  replace m_0 := m.at 0 _ rfl
  replace m_1 := m.at 1 _ rfl
  replace r_l := r.lt
  replace r_0 := r.at 0 _ rfl
  replace r_1 := r.at 1 _ rfl
  replace r_2 := r.at 2 _ rfl
  replace r_3 := r.at 3 _ rfl
  replace i_l := i.lt
  replace i_0 := i.at 0 _ rfl
  replace i_1 := i.at 1 _ rfl
  go_wp2_with fail
  refine with_boxes1 ?_
  intro X hX b
  have hsz := hk.size
  replace hk := hk.trans hX
  replace m := m.kept hX
  replace r := r.kept hX
  replace i := i.kept hX
  clear hX
  replace m_l := m.lt
  replace m_0 := m.at 0 _ rfl
  replace m_1 := m.at 1 _ rfl
  replace r_l := r.lt
  replace r_0 := r.at 0 _ rfl
  replace r_1 := r.at 1 _ rfl
  replace r_2 := r.at 2 _ rfl
  replace r_3 := r.at 3 _ rfl
  replace i_l := i.lt
  replace i_0 := i.at 0 _ rfl
  replace i_1 := i.at 1 _ rfl
  replace b_l := b.lt
  replace b_0 := b.at 0 _ rfl
  replace b_1 := b.at 1 _ rfl
  replace b_2 := b.at 2 _ rfl
  replace b_3 := b.at 3 _ rfl
  refine (num_any _ _).mono ?_
  rintro e w1 ⟨rfl, rfl⟩
  go_wp2_with fail
  refine (back_any _ _ _ _ _ _ _ _ _ (ht.kept hk)).mono ?_
  rintro e w1 ⟨rfl, hn⟩
  replace hk := hk.trans hn
  replace m := m.kept hn
  replace r := r.kept hn
  replace i := i.kept hn
  replace b := b.kept hn
  clear hn
  replace m_l := m.lt
  replace m_0 := m.at 0 _ rfl
  replace m_1 := m.at 1 _ rfl
  replace r_l := r.lt
  replace r_0 := r.at 0 _ rfl
  replace r_1 := r.at 1 _ rfl
  replace r_2 := r.at 2 _ rfl
  replace r_3 := r.at 3 _ rfl
  replace i_l := i.lt
  replace i_0 := i.at 0 _ rfl
  replace i_1 := i.at 1 _ rfl
  replace b_l := b.lt
  replace b_0 := b.at 0 _ rfl
  replace b_1 := b.at 1 _ rfl
  replace b_2 := b.at 2 _ rfl
  replace b_3 := b.at 3 _ rfl
  go_upto_region 10 with fail
  clear e1 e2 e3
  refine code_boxes1 ?_
  intro X hX c
  have hsz := hk.size
  replace hk := hk.trans hX
  replace m := m.kept hX
  replace r := r.kept hX
  replace i := i.kept hX
  replace b := b.kept hX
  clear hX
  replace m_l := m.lt
  replace m_0 := m.at 0 _ rfl
  replace m_1 := m.at 1 _ rfl
  replace r_l := r.lt
  replace r_0 := r.at 0 _ rfl
  replace r_1 := r.at 1 _ rfl
  replace r_2 := r.at 2 _ rfl
  replace r_3 := r.at 3 _ rfl
  replace i_l := i.lt
  replace i_0 := i.at 0 _ rfl
  replace i_1 := i.at 1 _ rfl
  replace b_l := b.lt
  replace b_0 := b.at 0 _ rfl
  replace b_1 := b.at 1 _ rfl
  replace b_2 := b.at 2 _ rfl
  replace b_3 := b.at 3 _ rfl
  replace c_l := c.lt
  replace c_0 := c.at 0 _ rfl
  replace c_1 := c.at 1 _ rfl
  replace c_2 := c.at 2 _ rfl
  replace c_3 := c.at 3 _ rfl
  go_cut [15] from 54 to 87 (fun s wx => s = .bool (insB ra rb sa sb ia ib) ∧ wx = X)
  case first =>
    by_cases c1 : 0 ≤ ra
    · by_cases c2 : 0 ≤ rb
      · by_cases c3 : ra + sa ≤ ia
        · by_cases c4 : rb + sb ≤ ib
          · have hJ : insB ra rb sa sb ia ib = true := by unfold insB; simp [c1, c2, c3, c4]
            go_wp2_with fail
            go_meet
            exact ⟨by rw [hJ], rfl⟩
          · have hJ : insB ra rb sa sb ia ib = false := by unfold insB; simp [c1, c2, c3, c4]
            go_wp2_with fail
            go_meet
            exact ⟨by rw [hJ], rfl⟩
        · have hJ : insB ra rb sa sb ia ib = false := by unfold insB; simp [c1, c2, c3]
          go_wp2_with fail
          go_meet
          exact ⟨by rw [hJ], rfl⟩
      · have hJ : insB ra rb sa sb ia ib = false := by unfold insB; simp [c1, c2]
        go_wp2_with fail
        go_meet
        exact ⟨by rw [hJ], rfl⟩
    · have hJ : insB ra rb sa sb ia ib = false := by unfold insB; simp [c1]
      go_wp2_with fail
      go_meet
      exact ⟨by rw [hJ], rfl⟩
  case rest =>
    obtain ⟨rfl, rfl⟩ := hcut
    go_upto_region 11 with fail
    go_cut [16] from 88 to 115 (fun s wx => s = .bool (insB bx by_ bw bh p q) ∧ wx = wc)
    case first =>
      by_cases c1 : 0 ≤ bx
      · by_cases c2 : 0 ≤ by_
        · by_cases c3 : bx + bw ≤ p
          · by_cases c4 : by_ + bh ≤ q
            · have hJ : insB bx by_ bw bh p q = true := by unfold insB; simp [c1, c2, c3, c4]
              go_wp2_with fail
              go_meet
              exact ⟨by rw [hJ], rfl⟩
            · have hJ : insB bx by_ bw bh p q = false := by unfold insB; simp [c1, c2, c3, c4]
              go_wp2_with fail
              go_meet
              exact ⟨by rw [hJ], rfl⟩
          · have hJ : insB bx by_ bw bh p q = false := by unfold insB; simp [c1, c2, c3]
            go_wp2_with fail
            go_meet
            exact ⟨by rw [hJ], rfl⟩
        · have hJ : insB bx by_ bw bh p q = false := by unfold insB; simp [c1, c2]
          go_wp2_with fail
          go_meet
          exact ⟨by rw [hJ], rfl⟩
      · have hJ : insB bx by_ bw bh p q = false := by unfold insB; simp [c1]
        go_wp2_with fail
        go_meet
        exact ⟨by rw [hJ], rfl⟩
    case rest =>
      obtain ⟨rfl, rfl⟩ := hcut
      rw [hI.out]
      generalize insB ra rb sa sb ia ib = I at *
      go_wp2_with fail
      refine (num_any _ _).mono ?_
      rintro e w1 ⟨rfl, rfl⟩
      go_wp2
      go_ret
      exact ⟨rfl, (by first | ((repeat (first | with_reducible exact hk | with_reducible refine Kept.alloc ?_ _ | with_reducible refine Kept.drew ?_ | with_reducible refine Kept.drewN ?_ _ | with_reducible refine Kept.set ?_ (by first | (simp; done) | (simp; omega) | omega) _)); done) | exact hk | exact (hk.alloc _) | exact ((hk.alloc _).alloc _) | exact (((hk.alloc _).alloc _).alloc _) | exact ((((hk.alloc _).alloc _).alloc _).alloc _) | exact (((((hk.alloc _).alloc _).alloc _).alloc _).alloc _) | exact ((((((hk.alloc _).alloc _).alloc _).alloc _).alloc _).alloc _) | (repeat (first | exact hk | refine Kept.alloc ?_ _ | refine Kept.drew ?_ | refine Kept.drewN ?_ _ | refine Kept.set ?_ (by first | (simp; done) | (simp; omega) | omega) _)))⟩
end
theorem geomBack_walk (wm di x y ra rb sa sb : Int) (w : World) (ht : Tab w) :
    Calls Tryd.prog 4 #[modeV wm di, .int .i64 x, .int .i64 y, fourV ra rb sa sb] w fun e w' => e = .returned (.bool true) ∧ Kept w w' := by
  cases h1 : modeMayB wm di with
  | false => exact geomBack_no1 wm di x y ra rb sa sb w ht h1
  | true =>
    obtain ⟨p, hx, p1, p2⟩ := masked x 16 65535 (by decide) (by decide)
    obtain ⟨q, hy, q1, q2⟩ := masked y 16 65535 (by decide) (by decide)
    have e0 : logS wm di p q = ((if vertB wm di = true then (q, p) else (p, q)), 0) := if_pos ⟨h1, sizedB_true.2 ⟨by omega, by omega⟩⟩
    cases hv : vertB wm di with
    | false =>
      rw [hv] at e0
      cases hp : physOkB wm di p q ra rb sa sb with
      | false => exact geomBack_no2 wm di x y ra rb sa sb p q p q w ht hx hy e0 (if_neg (by simp [hp]))
      | true =>
        have hp' := hp
        unfold physOkB at hp'
        simp only [Bool.and_eq_true] at hp'
        obtain ⟨⟨⟨⟨-, -⟩, g2⟩, g3⟩, g4⟩ := hp'
        obtain ⟨s1, s2⟩ := sizedB_true.1 g2
        have t3 := mayB_true.1 g3
        have t4 := mayB_true.1 g4
        obtain ⟨a1, a2, a3⟩ := turn_axis (farB wm di 0) (i := p) (a := ra) (s := sa) (by omega) t3 s1
        obtain ⟨b1, b2, b3⟩ := turn_axis (farB wm di 2) (i := q) (a := rb) (s := sb) (by omega) t4 s2
        refine geomBack_main wm di x y ra rb sa sb p q p q (turnS (farB wm di 0) p ra sa) (turnS (farB wm di 2) q rb sb) sa sb _ w ht hx hy ⟨p1, p2⟩ ⟨q1, q2⟩ e0 ?_ ?_ t3 t4 s1 s2 a1 b1 s1 s2 ?_ rfl rfl
        · unfold physS; rw [if_pos hp, hv]; rfl
        · unfold backS
          rw [if_pos (by unfold backOkB farXB2 farXB; rw [h1, sizedB_true.2 ⟨by omega, by omega⟩, g2, inB_true.2 (by omega), inB_true.2 (by omega)]; rfl), hv, a3, b3]; rfl
        · exact insB_eq ⟨fun h => by have := a2.1 ⟨h.1, h.2.2.1⟩; have := b2.1 ⟨h.2.1, h.2.2.2⟩; omega, fun h => by have := a2.2 ⟨h.1, h.2.2.1⟩; have := b2.2 ⟨h.2.1, h.2.2.2⟩; omega⟩
    | true =>
      rw [hv] at e0
      cases hp : physOkB wm di q p ra rb sa sb with
      | false => exact geomBack_no2 wm di x y ra rb sa sb p q q p w ht hx hy e0 (if_neg (by simp [hp]))
      | true =>
        have hp' := hp
        unfold physOkB at hp'
        simp only [Bool.and_eq_true] at hp'
        obtain ⟨⟨⟨⟨-, -⟩, g2⟩, g3⟩, g4⟩ := hp'
        obtain ⟨s1, s2⟩ := sizedB_true.1 g2
        have t3 := mayB_true.1 g3
        have t4 := mayB_true.1 g4
        obtain ⟨a1, a2, a3⟩ := turn_axis (farB wm di 0) (i := q) (a := ra) (s := sa) (by omega) t3 s1
        obtain ⟨b1, b2, b3⟩ := turn_axis (farB wm di 2) (i := p) (a := rb) (s := sb) (by omega) t4 s2
        refine geomBack_main wm di x y ra rb sa sb p q q p (turnS (farB wm di 2) p rb sb) (turnS (farB wm di 0) q ra sa) sb sa _ w ht hx hy ⟨p1, p2⟩ ⟨q1, q2⟩ e0 ?_ ?_ t3 t4 s1 s2 b1 a1 s2 s1 ?_ (by rw [Int.mul_comm]) rfl
        · unfold physS; rw [if_pos hp, hv]; rfl
        · unfold backS
          rw [if_pos (by unfold backOkB farXB2 farXB; rw [h1, sizedB_true.2 ⟨by omega, by omega⟩, sizedB_true.2 ⟨s2, s1⟩, inB_true.2 (by omega), inB_true.2 (by omega)]; rfl), hv, a3, b3]; rfl
        · exact insB_eq ⟨fun h => by have := b2.1 ⟨h.1, h.2.2.1⟩; have := a2.1 ⟨h.2.1, h.2.2.2⟩; omega, fun h => by have := b2.2 ⟨h.2.1, h.2.2.2⟩; have := a2.2 ⟨h.1, h.2.2.1⟩; omega⟩
end Go.Proofs.YtjehmhgafibgbaaDoor
