/- Layer 3: geometry: Back. -/
import Derived.Test.YtbjkphelkfeliaaDoorHeldBack
namespace Go.Proofs.YtbjkphelkfeliaaDoor
open Go.RowKit
set_option linter.unusedSimpArgs false
set_option linter.unusedVariables false
set_option maxHeartbeats 1000000 in
theorem back_no1 (wm di ia ib x y bw bh : Int) (w : World) (ht : Tab w) (h1 : modeMayB wm di = false) :
    Calls Tryd.prog 12 #[modeV wm di, sizeV ia ib, fourV x y bw bh] w fun e w' => e = .returned (resV (backS wm di ia ib x y bw bh)) ∧ Kept w w' := by
  have hs : backS wm di ia ib x y bw bh = ((0, 0, 0, 0), 300) := if_neg (by simp [backOkB, h1])
  have Hs := Lib.hid hs
  clear hs
  have hk : Kept w w := Kept.refl w
  go_enter Tryd.func12, Tryd.ntmps12
  go_wp2_with fail
  refine with_boxes4 ?_
  intro X hX m i r o
  have hsz := hk.size
  replace hk := hk.trans hX
  clear hX
  replace m_l := m.lt
  replace m_0 := m.at 0 _ rfl
  replace m_1 := m.at 1 _ rfl
  replace i_l := i.lt
  replace i_0 := i.at 0 _ rfl
  replace i_1 := i.at 1 _ rfl
  replace r_l := r.lt
  replace r_0 := r.at 0 _ rfl
  replace r_1 := r.at 1 _ rfl
  replace r_2 := r.at 2 _ rfl
  replace r_3 := r.at 3 _ rfl
  refine (modeMay_any _ _ _).mono ?_
  rintro e w1 ⟨rfl, hn⟩
  replace hk := hk.trans hn
  replace m := m.kept hn
  replace i := i.kept hn
  replace r := r.kept hn
  replace o := o.kept hn
  clear hn
  replace m_l := m.lt
  replace m_0 := m.at 0 _ rfl
  replace m_1 := m.at 1 _ rfl
  replace i_l := i.lt
  replace i_0 := i.at 0 _ rfl
  replace i_1 := i.at 1 _ rfl
  replace r_l := r.lt
  replace r_0 := r.at 0 _ rfl
  replace r_1 := r.at 1 _ rfl
  replace r_2 := r.at 2 _ rfl
  replace r_3 := r.at 3 _ rfl
  replace o_l := o.lt
  replace o_0 := o.at 0 _ rfl
  replace o_f0 := o.free 0
  replace o_1 := o.at 1 _ rfl
  replace o_f1 := o.free 1
  replace o_2 := o.at 2 _ rfl
  replace o_f2 := o.free 2
  replace o_3 := o.at 3 _ rfl
  replace o_f3 := o.free 3
  go_wp2
  exact bodyPost_ret (v := resV ((0, 0, 0, 0), 300)) (by simp [results, Tryd.results12, go_sem, o_0, o_1, o_2, o_3, o_l]) rfl ⟨by first | (rw [Hs.out]; done) | rfl, (by first | ((repeat (first | with_reducible exact hk | with_reducible refine Kept.alloc ?_ _ | with_reducible refine Kept.drew ?_ | with_reducible refine Kept.drewN ?_ _ | with_reducible refine Kept.set ?_ (by first | (simp; done) | (simp; omega) | omega) _)); done) | exact hk | exact (hk.alloc _) | exact ((hk.alloc _).alloc _) | exact (((hk.alloc _).alloc _).alloc _) | exact ((((hk.alloc _).alloc _).alloc _).alloc _) | exact (((((hk.alloc _).alloc _).alloc _).alloc _).alloc _) | exact ((((((hk.alloc _).alloc _).alloc _).alloc _).alloc _).alloc _) | (repeat (first | exact hk | refine Kept.alloc ?_ _ | refine Kept.drew ?_ | refine Kept.drewN ?_ _ | refine Kept.set ?_ (by first | (simp; done) | (simp; omega) | omega) _)))⟩
set_option maxHeartbeats 1000000 in
theorem back_no2 (wm di ia ib x y bw bh : Int) (w : World) (ht : Tab w) (h1 : modeMayB wm di = true) (h2 : sizedB ia ib = false) :
    Calls Tryd.prog 12 #[modeV wm di, sizeV ia ib, fourV x y bw bh] w fun e w' => e = .returned (resV (backS wm di ia ib x y bw bh)) ∧ Kept w w' := by
  have hs : backS wm di ia ib x y bw bh = ((0, 0, 0, 0), 300) := if_neg (by simp [backOkB, h1, h2])
  have Hs := Lib.hid hs
  clear hs
  have hk : Kept w w := Kept.refl w
  go_enter Tryd.func12, Tryd.ntmps12
  go_wp2_with fail
  refine with_boxes4 ?_
  intro X hX m i r o
  have hsz := hk.size
  replace hk := hk.trans hX
  clear hX
  replace m_l := m.lt
  replace m_0 := m.at 0 _ rfl
  replace m_1 := m.at 1 _ rfl
  replace i_l := i.lt
  replace i_0 := i.at 0 _ rfl
  replace i_1 := i.at 1 _ rfl
  replace r_l := r.lt
  replace r_0 := r.at 0 _ rfl
  replace r_1 := r.at 1 _ rfl
  replace r_2 := r.at 2 _ rfl
  replace r_3 := r.at 3 _ rfl
  refine (modeMay_any _ _ _).mono ?_
  rintro e w1 ⟨rfl, hn⟩
  replace hk := hk.trans hn
  replace m := m.kept hn
  replace i := i.kept hn
  replace r := r.kept hn
  replace o := o.kept hn
  clear hn
  replace m_l := m.lt
  replace m_0 := m.at 0 _ rfl
  replace m_1 := m.at 1 _ rfl
  replace i_l := i.lt
  replace i_0 := i.at 0 _ rfl
  replace i_1 := i.at 1 _ rfl
  replace r_l := r.lt
  replace r_0 := r.at 0 _ rfl
  replace r_1 := r.at 1 _ rfl
  replace r_2 := r.at 2 _ rfl
  replace r_3 := r.at 3 _ rfl
  go_wp2_with fail
  refine (geomSized_any _ _ _).mono ?_
  rintro e w1 ⟨rfl, hn⟩
  replace hk := hk.trans hn
  replace m := m.kept hn
  replace i := i.kept hn
  replace r := r.kept hn
  replace o := o.kept hn
  clear hn
  replace m_l := m.lt
  replace m_0 := m.at 0 _ rfl
  replace m_1 := m.at 1 _ rfl
  replace i_l := i.lt
  replace i_0 := i.at 0 _ rfl
  replace i_1 := i.at 1 _ rfl
  replace r_l := r.lt
  replace r_0 := r.at 0 _ rfl
  replace r_1 := r.at 1 _ rfl
  replace r_2 := r.at 2 _ rfl
  replace r_3 := r.at 3 _ rfl
  replace o_l := o.lt
  replace o_0 := o.at 0 _ rfl
  replace o_f0 := o.free 0
  replace o_1 := o.at 1 _ rfl
  replace o_f1 := o.free 1
  replace o_2 := o.at 2 _ rfl
  replace o_f2 := o.free 2
  replace o_3 := o.at 3 _ rfl
  replace o_f3 := o.free 3
  go_wp2
  exact bodyPost_ret (v := resV ((0, 0, 0, 0), 300)) (by simp [results, Tryd.results12, go_sem, o_0, o_1, o_2, o_3, o_l]) rfl ⟨by first | (rw [Hs.out]; done) | rfl, (by first | ((repeat (first | with_reducible exact hk | with_reducible refine Kept.alloc ?_ _ | with_reducible refine Kept.drew ?_ | with_reducible refine Kept.drewN ?_ _ | with_reducible refine Kept.set ?_ (by first | (simp; done) | (simp; omega) | omega) _)); done) | exact hk | exact (hk.alloc _) | exact ((hk.alloc _).alloc _) | exact (((hk.alloc _).alloc _).alloc _) | exact ((((hk.alloc _).alloc _).alloc _).alloc _) | exact (((((hk.alloc _).alloc _).alloc _).alloc _).alloc _) | exact ((((((hk.alloc _).alloc _).alloc _).alloc _).alloc _).alloc _) | (repeat (first | exact hk | refine Kept.alloc ?_ _ | refine Kept.drew ?_ | refine Kept.drewN ?_ _ | refine Kept.set ?_ (by first | (simp; done) | (simp; omega) | omega) _)))⟩
set_option maxHeartbeats 1000000 in
theorem back_no3 (wm di ia ib x y bw bh : Int) (w : World) (ht : Tab w) (h1 : modeMayB wm di = true) (h2 : sizedB ia ib = true) (h3 : sizedB bw bh = false) :
    Calls Tryd.prog 12 #[modeV wm di, sizeV ia ib, fourV x y bw bh] w fun e w' => e = .returned (resV (backS wm di ia ib x y bw bh)) ∧ Kept w w' := by
  have hs : backS wm di ia ib x y bw bh = ((0, 0, 0, 0), 300) := if_neg (by simp [backOkB, h1, h2, h3])
  have Hs := Lib.hid hs
  clear hs
  have hk : Kept w w := Kept.refl w
  go_enter Tryd.func12, Tryd.ntmps12
  go_wp2_with fail
  refine with_boxes4 ?_
  intro X hX m i r o
  have hsz := hk.size
  replace hk := hk.trans hX
  clear hX
  replace m_l := m.lt
  replace m_0 := m.at 0 _ rfl
  replace m_1 := m.at 1 _ rfl
  replace i_l := i.lt
  replace i_0 := i.at 0 _ rfl
  replace i_1 := i.at 1 _ rfl
  replace r_l := r.lt
  replace r_0 := r.at 0 _ rfl
  replace r_1 := r.at 1 _ rfl
  replace r_2 := r.at 2 _ rfl
  replace r_3 := r.at 3 _ rfl
  refine (modeMay_any _ _ _).mono ?_
  rintro e w1 ⟨rfl, hn⟩
  replace hk := hk.trans hn
  replace m := m.kept hn
  replace i := i.kept hn
  replace r := r.kept hn
  replace o := o.kept hn
  clear hn
  replace m_l := m.lt
  replace m_0 := m.at 0 _ rfl
  replace m_1 := m.at 1 _ rfl
  replace i_l := i.lt
  replace i_0 := i.at 0 _ rfl
  replace i_1 := i.at 1 _ rfl
  replace r_l := r.lt
  replace r_0 := r.at 0 _ rfl
  replace r_1 := r.at 1 _ rfl
  replace r_2 := r.at 2 _ rfl
  replace r_3 := r.at 3 _ rfl
  go_wp2_with fail
  refine (geomSized_any _ _ _).mono ?_
  rintro e w1 ⟨rfl, hn⟩
  replace hk := hk.trans hn
  replace m := m.kept hn
  replace i := i.kept hn
  replace r := r.kept hn
  replace o := o.kept hn
  clear hn
  replace m_l := m.lt
  replace m_0 := m.at 0 _ rfl
  replace m_1 := m.at 1 _ rfl
  replace i_l := i.lt
  replace i_0 := i.at 0 _ rfl
  replace i_1 := i.at 1 _ rfl
  replace r_l := r.lt
  replace r_0 := r.at 0 _ rfl
  replace r_1 := r.at 1 _ rfl
  replace r_2 := r.at 2 _ rfl
  replace r_3 := r.at 3 _ rfl
  go_wp2_with fail
  refine with_boxes1 ?_
  intro X hX p
  have hsz := hk.size
  replace hk := hk.trans hX
  replace m := m.kept hX
  replace i := i.kept hX
  replace r := r.kept hX
  replace o := o.kept hX
  clear hX
  replace m_l := m.lt
  replace m_0 := m.at 0 _ rfl
  replace m_1 := m.at 1 _ rfl
  replace i_l := i.lt
  replace i_0 := i.at 0 _ rfl
  replace i_1 := i.at 1 _ rfl
  replace r_l := r.lt
  replace r_0 := r.at 0 _ rfl
  replace r_1 := r.at 1 _ rfl
  replace r_2 := r.at 2 _ rfl
  replace r_3 := r.at 3 _ rfl
  replace p_l := p.lt
  replace p_0 := p.at 0 _ rfl
  replace p_1 := p.at 1 _ rfl
  refine (eachSized_any _ _ _ _ p_0 p_1).mono ?_
  rintro e w1 ⟨rfl, rfl⟩
  clear p
  clear p_l p_0 p_1
  replace o_l := o.lt
  replace o_0 := o.at 0 _ rfl
  replace o_f0 := o.free 0
  replace o_1 := o.at 1 _ rfl
  replace o_f1 := o.free 1
  replace o_2 := o.at 2 _ rfl
  replace o_f2 := o.free 2
  replace o_3 := o.at 3 _ rfl
  replace o_f3 := o.free 3
  go_wp2
  exact bodyPost_ret (v := resV ((0, 0, 0, 0), 300)) (by simp [results, Tryd.results12, go_sem, o_0, o_1, o_2, o_3, o_l]) rfl ⟨by first | (rw [Hs.out]; done) | rfl, (by first | ((repeat (first | with_reducible exact hk | with_reducible refine Kept.alloc ?_ _ | with_reducible refine Kept.drew ?_ | with_reducible refine Kept.drewN ?_ _ | with_reducible refine Kept.set ?_ (by first | (simp; done) | (simp; omega) | omega) _)); done) | exact hk | exact (hk.alloc _) | exact ((hk.alloc _).alloc _) | exact (((hk.alloc _).alloc _).alloc _) | exact ((((hk.alloc _).alloc _).alloc _).alloc _) | exact (((((hk.alloc _).alloc _).alloc _).alloc _).alloc _) | exact ((((((hk.alloc _).alloc _).alloc _).alloc _).alloc _).alloc _) | (repeat (first | exact hk | refine Kept.alloc ?_ _ | refine Kept.drew ?_ | refine Kept.drewN ?_ _ | refine Kept.set ?_ (by first | (simp; done) | (simp; omega) | omega) _)))⟩
set_option maxHeartbeats 1000000 in
theorem back_no4 (wm di ia ib x y bw bh : Int) (w : World) (ht : Tab w) (h1 : modeMayB wm di = true) (h2 : sizedB ia ib = true) (h3 : sizedB bw bh = true) (h4 : farXB2 x y = false) :
    Calls Tryd.prog 12 #[modeV wm di, sizeV ia ib, fourV x y bw bh] w fun e w' => e = .returned (resV (backS wm di ia ib x y bw bh)) ∧ Kept w w' := by
  have hs : backS wm di ia ib x y bw bh = ((0, 0, 0, 0), 300) := if_neg (by simp [backOkB, h1, h2, h3, h4])
  have Hs := Lib.hid hs
  clear hs
  have hk : Kept w w := Kept.refl w
  go_enter Tryd.func12, Tryd.ntmps12
  go_wp2_with fail
  refine with_boxes4 ?_
  intro X hX m i r o
  have hsz := hk.size
  replace hk := hk.trans hX
  clear hX
  replace m_l := m.lt
  replace m_0 := m.at 0 _ rfl
  replace m_1 := m.at 1 _ rfl
  replace i_l := i.lt
  replace i_0 := i.at 0 _ rfl
  replace i_1 := i.at 1 _ rfl
  replace r_l := r.lt
  replace r_0 := r.at 0 _ rfl
  replace r_1 := r.at 1 _ rfl
  replace r_2 := r.at 2 _ rfl
  replace r_3 := r.at 3 _ rfl
  refine (modeMay_any _ _ _).mono ?_
  rintro e w1 ⟨rfl, hn⟩
  replace hk := hk.trans hn
  replace m := m.kept hn
  replace i := i.kept hn
  replace r := r.kept hn
  replace o := o.kept hn
  clear hn
  replace m_l := m.lt
  replace m_0 := m.at 0 _ rfl
  replace m_1 := m.at 1 _ rfl
  replace i_l := i.lt
  replace i_0 := i.at 0 _ rfl
  replace i_1 := i.at 1 _ rfl
  replace r_l := r.lt
  replace r_0 := r.at 0 _ rfl
  replace r_1 := r.at 1 _ rfl
  replace r_2 := r.at 2 _ rfl
  replace r_3 := r.at 3 _ rfl
  go_wp2_with fail
  refine (geomSized_any _ _ _).mono ?_
  rintro e w1 ⟨rfl, hn⟩
  replace hk := hk.trans hn
  replace m := m.kept hn
  replace i := i.kept hn
  replace r := r.kept hn
  replace o := o.kept hn
  clear hn
  replace m_l := m.lt
  replace m_0 := m.at 0 _ rfl
  replace m_1 := m.at 1 _ rfl
  replace i_l := i.lt
  replace i_0 := i.at 0 _ rfl
  replace i_1 := i.at 1 _ rfl
  replace r_l := r.lt
  replace r_0 := r.at 0 _ rfl
  replace r_1 := r.at 1 _ rfl
  replace r_2 := r.at 2 _ rfl
  replace r_3 := r.at 3 _ rfl
  go_wp2_with fail
  refine with_boxes1 ?_
  intro X hX p
  have hsz := hk.size
  replace hk := hk.trans hX
  replace m := m.kept hX
  replace i := i.kept hX
  replace r := r.kept hX
  replace o := o.kept hX
  clear hX
  replace m_l := m.lt
  replace m_0 := m.at 0 _ rfl
  replace m_1 := m.at 1 _ rfl
  replace i_l := i.lt
  replace i_0 := i.at 0 _ rfl
  replace i_1 := i.at 1 _ rfl
  replace r_l := r.lt
  replace r_0 := r.at 0 _ rfl
  replace r_1 := r.at 1 _ rfl
  replace r_2 := r.at 2 _ rfl
  replace r_3 := r.at 3 _ rfl
  replace p_l := p.lt
  replace p_0 := p.at 0 _ rfl
  replace p_1 := p.at 1 _ rfl
  refine (eachSized_any _ _ _ _ p_0 p_1).mono ?_
  rintro e w1 ⟨rfl, rfl⟩
  clear p
  clear p_l p_0 p_1
  go_wp2_with fail
  refine with_boxes1 ?_
  intro X hX q
  have hsz := hk.size
  replace hk := hk.trans hX
  replace m := m.kept hX
  replace i := i.kept hX
  replace r := r.kept hX
  replace o := o.kept hX
  clear hX
  replace m_l := m.lt
  replace m_0 := m.at 0 _ rfl
  replace m_1 := m.at 1 _ rfl
  replace i_l := i.lt
  replace i_0 := i.at 0 _ rfl
  replace i_1 := i.at 1 _ rfl
  replace r_l := r.lt
  replace r_0 := r.at 0 _ rfl
  replace r_1 := r.at 1 _ rfl
  replace r_2 := r.at 2 _ rfl
  replace r_3 := r.at 3 _ rfl
  replace q_l := q.lt
  replace q_0 := q.at 0 _ rfl
  replace q_1 := q.at 1 _ rfl
  refine (eachFar_any _ _ _ _ q_0 q_1).mono ?_
  rintro e w1 ⟨rfl, rfl⟩
  clear q
  clear q_l q_0 q_1
  replace o_l := o.lt
  replace o_0 := o.at 0 _ rfl
  replace o_f0 := o.free 0
  replace o_1 := o.at 1 _ rfl
  replace o_f1 := o.free 1
  replace o_2 := o.at 2 _ rfl
  replace o_f2 := o.free 2
  replace o_3 := o.at 3 _ rfl
  replace o_f3 := o.free 3
  go_wp2
  exact bodyPost_ret (v := resV ((0, 0, 0, 0), 300)) (by simp [results, Tryd.results12, go_sem, o_0, o_1, o_2, o_3, o_l]) rfl ⟨by first | (rw [Hs.out]; done) | rfl, (by first | ((repeat (first | with_reducible exact hk | with_reducible refine Kept.alloc ?_ _ | with_reducible refine Kept.drew ?_ | with_reducible refine Kept.drewN ?_ _ | with_reducible refine Kept.set ?_ (by first | (simp; done) | (simp; omega) | omega) _)); done) | exact hk | exact (hk.alloc _) | exact ((hk.alloc _).alloc _) | exact (((hk.alloc _).alloc _).alloc _) | exact ((((hk.alloc _).alloc _).alloc _).alloc _) | exact (((((hk.alloc _).alloc _).alloc _).alloc _).alloc _) | exact ((((((hk.alloc _).alloc _).alloc _).alloc _).alloc _).alloc _) | (repeat (first | exact hk | refine Kept.alloc ?_ _ | refine Kept.drew ?_ | refine Kept.drewN ?_ _ | refine Kept.set ?_ (by first | (simp; done) | (simp; omega) | omega) _)))⟩
end Go.Proofs.YtbjkphelkfeliaaDoor
