/- Layer 3: the document's Back. -/
import Derived.Test.YtpeoadnnemlphaaDoorGeomRef1
import Derived.Deep.QuietTactic
import Derived.BigQuiet
import Derived.Test.YtpeoadnnemlphaaDoorHeldBack
namespace Go.Proofs.YtpeoadnnemlphaaDoor
open Go.RowKit
set_option linter.unusedSimpArgs false
set_option linter.unusedVariables false
theorem farX_up {x : Int} (h1 : -9223372036854775808 ≤ x) (h2 : x ≤ 9223372036854775807) : inB 0 8589934592 (wrap64 (x + 4294967296)) = farXB x := by
  unfold farXB inB wrap64
  rw [decide_eq_decide]
  omega
set_option maxHeartbeats 1000000 in
theorem refBack_no1 (wm di ia ib x y bw bh : Int) (w : World) (x1 : -9223372036854775808 ≤ x) (x2 : x ≤ 9223372036854775807) (y1 : -9223372036854775808 ≤ y) (y2 : y ≤ 9223372036854775807) (h1 : modeMayB wm di = false) :
    Calls Tryd.prog 30 #[modeV wm di, sizeV ia ib, fourV x y bw bh] w fun e w' => e = .returned (resV (backS wm di ia ib x y bw bh)) ∧ Kept w w' := by
  have hs : backS wm di ia ib x y bw bh = ((0, 0, 0, 0), 300) := if_neg (by simp [backOkB, sizedB, farXB2, h1])
  have Hs := Lib.hid hs
  clear hs
  have g6 := farX_up x1 x2
  have g7 := farX_up y1 y2
  clear x1 x2 y1 y2
  have hk : Kept w w := Kept.refl w
  go_enter Tryd.func30, Tryd.ntmps30
  go_wp2_with fail
  refine with_boxes4 ?_
  intro X hX m i r o
  have hsz := hk.size
  replace hk := hk.trans hX
  clear hX
  replace m_l := m.lt
  replace m_0 := m.at 0 _ rfl
  replace m_1 := m.at 1 _ rfl
  replace i_l := i.lt
  replace i_0 := i.at 0 _ rfl
  replace i_1 := i.at 1 _ rfl
  replace r_l := r.lt
  replace r_0 := r.at 0 _ rfl
  replace r_1 := r.at 1 _ rfl
  replace r_2 := r.at 2 _ rfl
  replace r_3 := r.at 3 _ rfl
  refine (refModeMay_any _ _ _).mono ?_
  rintro e w1 ⟨rfl, hn⟩
  replace hk := hk.trans hn
  replace m := m.kept hn
  replace i := i.kept hn
  replace r := r.kept hn
  replace o := o.kept hn
  clear hn
  replace m_l := m.lt
  replace m_0 := m.at 0 _ rfl
  replace m_1 := m.at 1 _ rfl
  replace i_l := i.lt
  replace i_0 := i.at 0 _ rfl
  replace i_1 := i.at 1 _ rfl
  replace r_l := r.lt
  replace r_0 := r.at 0 _ rfl
  replace r_1 := r.at 1 _ rfl
  replace r_2 := r.at 2 _ rfl
  replace r_3 := r.at 3 _ rfl
  replace o_l := o.lt
  replace o_0 := o.at 0 _ rfl
  replace o_f0 := o.free 0
  replace o_1 := o.at 1 _ rfl
  replace o_f1 := o.free 1
  replace o_2 := o.at 2 _ rfl
  replace o_f2 := o.free 2
  replace o_3 := o.at 3 _ rfl
  replace o_f3 := o.free 3
  go_wp2
  exact bodyPost_ret (v := resV ((0, 0, 0, 0), 300)) (by simp [results, Tryd.results30, go_sem, o_0, o_1, o_2, o_3, o_l]) rfl ⟨by first | (rw [Hs.out]; done) | rfl, (by first | ((repeat (first | with_reducible exact hk | with_reducible refine Kept.alloc ?_ _ | with_reducible refine Kept.drew ?_ | with_reducible refine Kept.drewN ?_ _ | with_reducible refine Kept.set ?_ (by first | (simp; done) | (simp; omega) | omega) _)); done) | exact hk | exact (hk.alloc _) | exact ((hk.alloc _).alloc _) | exact (((hk.alloc _).alloc _).alloc _) | exact ((((hk.alloc _).alloc _).alloc _).alloc _) | exact (((((hk.alloc _).alloc _).alloc _).alloc _).alloc _) | exact ((((((hk.alloc _).alloc _).alloc _).alloc _).alloc _).alloc _) | (repeat (first | exact hk | refine Kept.alloc ?_ _ | refine Kept.drew ?_ | refine Kept.drewN ?_ _ | refine Kept.set ?_ (by first | (simp; done) | (simp; omega) | omega) _)))⟩
set_option maxHeartbeats 1000000 in
theorem refBack_no2 (wm di ia ib x y bw bh : Int) (w : World) (x1 : -9223372036854775808 ≤ x) (x2 : x ≤ 9223372036854775807) (y1 : -9223372036854775808 ≤ y) (y2 : y ≤ 9223372036854775807) (h1 : modeMayB wm di = true) (h2 : inB 0 1073741824 ia = false) :
    Calls Tryd.prog 30 #[modeV wm di, sizeV ia ib, fourV x y bw bh] w fun e w' => e = .returned (resV (backS wm di ia ib x y bw bh)) ∧ Kept w w' := by
  have hs : backS wm di ia ib x y bw bh = ((0, 0, 0, 0), 300) := if_neg (by simp [backOkB, sizedB, farXB2, h1, h2])
  have Hs := Lib.hid hs
  clear hs
  have g6 := farX_up x1 x2
  have g7 := farX_up y1 y2
  clear x1 x2 y1 y2
  have hk : Kept w w := Kept.refl w
  go_enter Tryd.func30, Tryd.ntmps30
  go_wp2_with fail
  refine with_boxes4 ?_
  intro X hX m i r o
  have hsz := hk.size
  replace hk := hk.trans hX
  clear hX
  replace m_l := m.lt
  replace m_0 := m.at 0 _ rfl
  replace m_1 := m.at 1 _ rfl
  replace i_l := i.lt
  replace i_0 := i.at 0 _ rfl
  replace i_1 := i.at 1 _ rfl
  replace r_l := r.lt
  replace r_0 := r.at 0 _ rfl
  replace r_1 := r.at 1 _ rfl
  replace r_2 := r.at 2 _ rfl
  replace r_3 := r.at 3 _ rfl
  refine (refModeMay_any _ _ _).mono ?_
  rintro e w1 ⟨rfl, hn⟩
  replace hk := hk.trans hn
  replace m := m.kept hn
  replace i := i.kept hn
  replace r := r.kept hn
  replace o := o.kept hn
  clear hn
  replace m_l := m.lt
  replace m_0 := m.at 0 _ rfl
  replace m_1 := m.at 1 _ rfl
  replace i_l := i.lt
  replace i_0 := i.at 0 _ rfl
  replace i_1 := i.at 1 _ rfl
  replace r_l := r.lt
  replace r_0 := r.at 0 _ rfl
  replace r_1 := r.at 1 _ rfl
  replace r_2 := r.at 2 _ rfl
  replace r_3 := r.at 3 _ rfl
  go_wp2_with fail
  refine (refUpTo3_any _ _ _).mono ?_
  rintro e w1 ⟨rfl, rfl⟩
  replace o_l := o.lt
  replace o_0 := o.at 0 _ rfl
  replace o_f0 := o.free 0
  replace o_1 := o.at 1 _ rfl
  replace o_f1 := o.free 1
  replace o_2 := o.at 2 _ rfl
  replace o_f2 := o.free 2
  replace o_3 := o.at 3 _ rfl
  replace o_f3 := o.free 3
  go_wp2
  exact bodyPost_ret (v := resV ((0, 0, 0, 0), 300)) (by simp [results, Tryd.results30, go_sem, o_0, o_1, o_2, o_3, o_l]) rfl ⟨by first | (rw [Hs.out]; done) | rfl, (by first | ((repeat (first | with_reducible exact hk | with_reducible refine Kept.alloc ?_ _ | with_reducible refine Kept.drew ?_ | with_reducible refine Kept.drewN ?_ _ | with_reducible refine Kept.set ?_ (by first | (simp; done) | (simp; omega) | omega) _)); done) | exact hk | exact (hk.alloc _) | exact ((hk.alloc _).alloc _) | exact (((hk.alloc _).alloc _).alloc _) | exact ((((hk.alloc _).alloc _).alloc _).alloc _) | exact (((((hk.alloc _).alloc _).alloc _).alloc _).alloc _) | exact ((((((hk.alloc _).alloc _).alloc _).alloc _).alloc _).alloc _) | (repeat (first | exact hk | refine Kept.alloc ?_ _ | refine Kept.drew ?_ | refine Kept.drewN ?_ _ | refine Kept.set ?_ (by first | (simp; done) | (simp; omega) | omega) _)))⟩
set_option maxHeartbeats 1000000 in
theorem refBack_no3 (wm di ia ib x y bw bh : Int) (w : World) (x1 : -9223372036854775808 ≤ x) (x2 : x ≤ 9223372036854775807) (y1 : -9223372036854775808 ≤ y) (y2 : y ≤ 9223372036854775807) (h1 : modeMayB wm di = true) (h2 : inB 0 1073741824 ia = true) (h3 : inB 0 1073741824 ib = false) :
    Calls Tryd.prog 30 #[modeV wm di, sizeV ia ib, fourV x y bw bh] w fun e w' => e = .returned (resV (backS wm di ia ib x y bw bh)) ∧ Kept w w' := by
  have hs : backS wm di ia ib x y bw bh = ((0, 0, 0, 0), 300) := if_neg (by simp [backOkB, sizedB, farXB2, h1, h2, h3])
  have Hs := Lib.hid hs
  clear hs
  have g6 := farX_up x1 x2
  have g7 := farX_up y1 y2
  clear x1 x2 y1 y2
  have hk : Kept w w := Kept.refl w
  go_enter Tryd.func30, Tryd.ntmps30
  go_wp2_with fail
  refine with_boxes4 ?_
  intro X hX m i r o
  have hsz := hk.size
  replace hk := hk.trans hX
  clear hX
  replace m_l := m.lt
  replace m_0 := m.at 0 _ rfl
  replace m_1 := m.at 1 _ rfl
  replace i_l := i.lt
  replace i_0 := i.at 0 _ rfl
  replace i_1 := i.at 1 _ rfl
  replace r_l := r.lt
  replace r_0 := r.at 0 _ rfl
  replace r_1 := r.at 1 _ rfl
  replace r_2 := r.at 2 _ rfl
  replace r_3 := r.at 3 _ rfl
  refine (refModeMay_any _ _ _).mono ?_
  rintro e w1 ⟨rfl, hn⟩
  replace hk := hk.trans hn
  replace m := m.kept hn
  replace i := i.kept hn
  replace r := r.kept hn
  replace o := o.kept hn
  clear hn
  replace m_l := m.lt
  replace m_0 := m.at 0 _ rfl
  replace m_1 := m.at 1 _ rfl
  replace i_l := i.lt
  replace i_0 := i.at 0 _ rfl
  replace i_1 := i.at 1 _ rfl
  replace r_l := r.lt
  replace r_0 := r.at 0 _ rfl
  replace r_1 := r.at 1 _ rfl
  replace r_2 := r.at 2 _ rfl
  replace r_3 := r.at 3 _ rfl
  go_wp2_with fail
  refine (refUpTo3_any _ _ _).mono ?_
  rintro e w1 ⟨rfl, rfl⟩
  go_wp2_with fail
  refine (refUpTo3_any _ _ _).mono ?_
  rintro e w1 ⟨rfl, rfl⟩
  replace o_l := o.lt
  replace o_0 := o.at 0 _ rfl
  replace o_f0 := o.free 0
  replace o_1 := o.at 1 _ rfl
  replace o_f1 := o.free 1
  replace o_2 := o.at 2 _ rfl
  replace o_f2 := o.free 2
  replace o_3 := o.at 3 _ rfl
  replace o_f3 := o.free 3
  go_wp2
  exact bodyPost_ret (v := resV ((0, 0, 0, 0), 300)) (by simp [results, Tryd.results30, go_sem, o_0, o_1, o_2, o_3, o_l]) rfl ⟨by first | (rw [Hs.out]; done) | rfl, (by first | ((repeat (first | with_reducible exact hk | with_reducible refine Kept.alloc ?_ _ | with_reducible refine Kept.drew ?_ | with_reducible refine Kept.drewN ?_ _ | with_reducible refine Kept.set ?_ (by first | (simp; done) | (simp; omega) | omega) _)); done) | exact hk | exact (hk.alloc _) | exact ((hk.alloc _).alloc _) | exact (((hk.alloc _).alloc _).alloc _) | exact ((((hk.alloc _).alloc _).alloc _).alloc _) | exact (((((hk.alloc _).alloc _).alloc _).alloc _).alloc _) | exact ((((((hk.alloc _).alloc _).alloc _).alloc _).alloc _).alloc _) | (repeat (first | exact hk | refine Kept.alloc ?_ _ | refine Kept.drew ?_ | refine Kept.drewN ?_ _ | refine Kept.set ?_ (by first | (simp; done) | (simp; omega) | omega) _)))⟩
set_option maxHeartbeats 1000000 in
theorem refBack_no4 (wm di ia ib x y bw bh : Int) (w : World) (x1 : -9223372036854775808 ≤ x) (x2 : x ≤ 9223372036854775807) (y1 : -9223372036854775808 ≤ y) (y2 : y ≤ 9223372036854775807) (h1 : modeMayB wm di = true) (h2 : inB 0 1073741824 ia = true) (h3 : inB 0 1073741824 ib = true) (h4 : inB 0 1073741824 bw = false) :
    Calls Tryd.prog 30 #[modeV wm di, sizeV ia ib, fourV x y bw bh] w fun e w' => e = .returned (resV (backS wm di ia ib x y bw bh)) ∧ Kept w w' := by
  have hs : backS wm di ia ib x y bw bh = ((0, 0, 0, 0), 300) := if_neg (by simp [backOkB, sizedB, farXB2, h1, h2, h3, h4])
  have Hs := Lib.hid hs
  clear hs
  have g6 := farX_up x1 x2
  have g7 := farX_up y1 y2
  clear x1 x2 y1 y2
  have hk : Kept w w := Kept.refl w
  go_enter Tryd.func30, Tryd.ntmps30
  go_wp2_with fail
  refine with_boxes4 ?_
  intro X hX m i r o
  have hsz := hk.size
  replace hk := hk.trans hX
  clear hX
  replace m_l := m.lt
  replace m_0 := m.at 0 _ rfl
  replace m_1 := m.at 1 _ rfl
  replace i_l := i.lt
  replace i_0 := i.at 0 _ rfl
  replace i_1 := i.at 1 _ rfl
  replace r_l := r.lt
  replace r_0 := r.at 0 _ rfl
  replace r_1 := r.at 1 _ rfl
  replace r_2 := r.at 2 _ rfl
  replace r_3 := r.at 3 _ rfl
  refine (refModeMay_any _ _ _).mono ?_
  rintro e w1 ⟨rfl, hn⟩
  replace hk := hk.trans hn
  replace m := m.kept hn
  replace i := i.kept hn
  replace r := r.kept hn
  replace o := o.kept hn
  clear hn
  replace m_l := m.lt
  replace m_0 := m.at 0 _ rfl
  replace m_1 := m.at 1 _ rfl
  replace i_l := i.lt
  replace i_0 := i.at 0 _ rfl
  replace i_1 := i.at 1 _ rfl
  replace r_l := r.lt
  replace r_0 := r.at 0 _ rfl
  replace r_1 := r.at 1 _ rfl
  replace r_2 := r.at 2 _ rfl
  replace r_3 := r.at 3 _ rfl
  go_wp2_with fail
  refine (refUpTo3_any _ _ _).mono ?_
  rintro e w1 ⟨rfl, rfl⟩
  go_wp2_with fail
  refine (refUpTo3_any _ _ _).mono ?_
  rintro e w1 ⟨rfl, rfl⟩
  go_wp2_with fail
  refine (refUpTo3_any _ _ _).mono ?_
  rintro e w1 ⟨rfl, rfl⟩
  replace o_l := o.lt
  replace o_0 := o.at 0 _ rfl
  replace o_f0 := o.free 0
  replace o_1 := o.at 1 _ rfl
  replace o_f1 := o.free 1
  replace o_2 := o.at 2 _ rfl
  replace o_f2 := o.free 2
  replace o_3 := o.at 3 _ rfl
  replace o_f3 := o.free 3
  go_wp2
  exact bodyPost_ret (v := resV ((0, 0, 0, 0), 300)) (by simp [results, Tryd.results30, go_sem, o_0, o_1, o_2, o_3, o_l]) rfl ⟨by first | (rw [Hs.out]; done) | rfl, (by first | ((repeat (first | with_reducible exact hk | with_reducible refine Kept.alloc ?_ _ | with_reducible refine Kept.drew ?_ | with_reducible refine Kept.drewN ?_ _ | with_reducible refine Kept.set ?_ (by first | (simp; done) | (simp; omega) | omega) _)); done) | exact hk | exact (hk.alloc _) | exact ((hk.alloc _).alloc _) | exact (((hk.alloc _).alloc _).alloc _) | exact ((((hk.alloc _).alloc _).alloc _).alloc _) | exact (((((hk.alloc _).alloc _).alloc _).alloc _).alloc _) | exact ((((((hk.alloc _).alloc _).alloc _).alloc _).alloc _).alloc _) | (repeat (first | exact hk | refine Kept.alloc ?_ _ | refine Kept.drew ?_ | refine Kept.drewN ?_ _ | refine Kept.set ?_ (by first | (simp; done) | (simp; omega) | omega) _)))⟩
set_option maxHeartbeats 1000000 in
theorem refBack_no5 (wm di ia ib x y bw bh : Int) (w : World) (x1 : -9223372036854775808 ≤ x) (x2 : x ≤ 9223372036854775807) (y1 : -9223372036854775808 ≤ y) (y2 : y ≤ 9223372036854775807) (h1 : modeMayB wm di = true) (h2 : inB 0 1073741824 ia = true) (h3 : inB 0 1073741824 ib = true) (h4 : inB 0 1073741824 bw = true) (h5 : inB 0 1073741824 bh = false) :
    Calls Tryd.prog 30 #[modeV wm di, sizeV ia ib, fourV x y bw bh] w fun e w' => e = .returned (resV (backS wm di ia ib x y bw bh)) ∧ Kept w w' := by
  have hs : backS wm di ia ib x y bw bh = ((0, 0, 0, 0), 300) := if_neg (by simp [backOkB, sizedB, farXB2, h1, h2, h3, h4, h5])
  have Hs := Lib.hid hs
  clear hs
  have g6 := farX_up x1 x2
  have g7 := farX_up y1 y2
  clear x1 x2 y1 y2
  have hk : Kept w w := Kept.refl w
  go_enter Tryd.func30, Tryd.ntmps30
  go_wp2_with fail
  refine with_boxes4 ?_
  intro X hX m i r o
  have hsz := hk.size
  replace hk := hk.trans hX
  clear hX
  replace m_l := m.lt
  replace m_0 := m.at 0 _ rfl
  replace m_1 := m.at 1 _ rfl
  replace i_l := i.lt
  replace i_0 := i.at 0 _ rfl
  replace i_1 := i.at 1 _ rfl
  replace r_l := r.lt
  replace r_0 := r.at 0 _ rfl
  replace r_1 := r.at 1 _ rfl
  replace r_2 := r.at 2 _ rfl
  replace r_3 := r.at 3 _ rfl
  refine (refModeMay_any _ _ _).mono ?_
  rintro e w1 ⟨rfl, hn⟩
  replace hk := hk.trans hn
  replace m := m.kept hn
  replace i := i.kept hn
  replace r := r.kept hn
  replace o := o.kept hn
  clear hn
  replace m_l := m.lt
  replace m_0 := m.at 0 _ rfl
  replace m_1 := m.at 1 _ rfl
  replace i_l := i.lt
  replace i_0 := i.at 0 _ rfl
  replace i_1 := i.at 1 _ rfl
  replace r_l := r.lt
  replace r_0 := r.at 0 _ rfl
  replace r_1 := r.at 1 _ rfl
  replace r_2 := r.at 2 _ rfl
  replace r_3 := r.at 3 _ rfl
  go_wp2_with fail
  refine (refUpTo3_any _ _ _).mono ?_
  rintro e w1 ⟨rfl, rfl⟩
  go_wp2_with fail
  refine (refUpTo3_any _ _ _).mono ?_
  rintro e w1 ⟨rfl, rfl⟩
  go_wp2_with fail
  refine (refUpTo3_any _ _ _).mono ?_
  rintro e w1 ⟨rfl, rfl⟩
  go_wp2_with fail
  refine (refUpTo3_any _ _ _).mono ?_
  rintro e w1 ⟨rfl, rfl⟩
  replace o_l := o.lt
  replace o_0 := o.at 0 _ rfl
  replace o_f0 := o.free 0
  replace o_1 := o.at 1 _ rfl
  replace o_f1 := o.free 1
  replace o_2 := o.at 2 _ rfl
  replace o_f2 := o.free 2
  replace o_3 := o.at 3 _ rfl
  replace o_f3 := o.free 3
  go_wp2
  exact bodyPost_ret (v := resV ((0, 0, 0, 0), 300)) (by simp [results, Tryd.results30, go_sem, o_0, o_1, o_2, o_3, o_l]) rfl ⟨by first | (rw [Hs.out]; done) | rfl, (by first | ((repeat (first | with_reducible exact hk | with_reducible refine Kept.alloc ?_ _ | with_reducible refine Kept.drew ?_ | with_reducible refine Kept.drewN ?_ _ | with_reducible refine Kept.set ?_ (by first | (simp; done) | (simp; omega) | omega) _)); done) | exact hk | exact (hk.alloc _) | exact ((hk.alloc _).alloc _) | exact (((hk.alloc _).alloc _).alloc _) | exact ((((hk.alloc _).alloc _).alloc _).alloc _) | exact (((((hk.alloc _).alloc _).alloc _).alloc _).alloc _) | exact ((((((hk.alloc _).alloc _).alloc _).alloc _).alloc _).alloc _) | (repeat (first | exact hk | refine Kept.alloc ?_ _ | refine Kept.drew ?_ | refine Kept.drewN ?_ _ | refine Kept.set ?_ (by first | (simp; done) | (simp; omega) | omega) _)))⟩
set_option maxHeartbeats 1000000 in
theorem refBack_no6 (wm di ia ib x y bw bh : Int) (w : World) (x1 : -9223372036854775808 ≤ x) (x2 : x ≤ 9223372036854775807) (y1 : -9223372036854775808 ≤ y) (y2 : y ≤ 9223372036854775807) (h1 : modeMayB wm di = true) (h2 : inB 0 1073741824 ia = true) (h3 : inB 0 1073741824 ib = true) (h4 : inB 0 1073741824 bw = true) (h5 : inB 0 1073741824 bh = true) (h6 : farXB x = false) :
    Calls Tryd.prog 30 #[modeV wm di, sizeV ia ib, fourV x y bw bh] w fun e w' => e = .returned (resV (backS wm di ia ib x y bw bh)) ∧ Kept w w' := by
  have hs : backS wm di ia ib x y bw bh = ((0, 0, 0, 0), 300) := if_neg (by simp [backOkB, sizedB, farXB2, h1, h2, h3, h4, h5, h6])
  have Hs := Lib.hid hs
  clear hs
  have g6 := farX_up x1 x2
  have g7 := farX_up y1 y2
  clear x1 x2 y1 y2
  have hk : Kept w w := Kept.refl w
  go_enter Tryd.func30, Tryd.ntmps30
  go_wp2_with fail
  refine with_boxes4 ?_
  intro X hX m i r o
  have hsz := hk.size
  replace hk := hk.trans hX
  clear hX
  replace m_l := m.lt
  replace m_0 := m.at 0 _ rfl
  replace m_1 := m.at 1 _ rfl
  replace i_l := i.lt
  replace i_0 := i.at 0 _ rfl
  replace i_1 := i.at 1 _ rfl
  replace r_l := r.lt
  replace r_0 := r.at 0 _ rfl
  replace r_1 := r.at 1 _ rfl
  replace r_2 := r.at 2 _ rfl
  replace r_3 := r.at 3 _ rfl
  refine (refModeMay_any _ _ _).mono ?_
  rintro e w1 ⟨rfl, hn⟩
  replace hk := hk.trans hn
  replace m := m.kept hn
  replace i := i.kept hn
  replace r := r.kept hn
  replace o := o.kept hn
  clear hn
  replace m_l := m.lt
  replace m_0 := m.at 0 _ rfl
  replace m_1 := m.at 1 _ rfl
  replace i_l := i.lt
  replace i_0 := i.at 0 _ rfl
  replace i_1 := i.at 1 _ rfl
  replace r_l := r.lt
  replace r_0 := r.at 0 _ rfl
  replace r_1 := r.at 1 _ rfl
  replace r_2 := r.at 2 _ rfl
  replace r_3 := r.at 3 _ rfl
  go_wp2_with fail
  refine (refUpTo3_any _ _ _).mono ?_
  rintro e w1 ⟨rfl, rfl⟩
  go_wp2_with fail
  refine (refUpTo3_any _ _ _).mono ?_
  rintro e w1 ⟨rfl, rfl⟩
  go_wp2_with fail
  refine (refUpTo3_any _ _ _).mono ?_
  rintro e w1 ⟨rfl, rfl⟩
  go_wp2_with fail
  refine (refUpTo3_any _ _ _).mono ?_
  rintro e w1 ⟨rfl, rfl⟩
  go_wp2_with fail
  refine (refUpTo3_any _ _ _).mono ?_
  rintro e w1 ⟨rfl, rfl⟩
  replace o_l := o.lt
  replace o_0 := o.at 0 _ rfl
  replace o_f0 := o.free 0
  replace o_1 := o.at 1 _ rfl
  replace o_f1 := o.free 1
  replace o_2 := o.at 2 _ rfl
  replace o_f2 := o.free 2
  replace o_3 := o.at 3 _ rfl
  replace o_f3 := o.free 3
  go_wp2
  exact bodyPost_ret (v := resV ((0, 0, 0, 0), 300)) (by simp [results, Tryd.results30, go_sem, o_0, o_1, o_2, o_3, o_l]) rfl ⟨by first | (rw [Hs.out]; done) | rfl, (by first | ((repeat (first | with_reducible exact hk | with_reducible refine Kept.alloc ?_ _ | with_reducible refine Kept.drew ?_ | with_reducible refine Kept.drewN ?_ _ | with_reducible refine Kept.set ?_ (by first | (simp; done) | (simp; omega) | omega) _)); done) | exact hk | exact (hk.alloc _) | exact ((hk.alloc _).alloc _) | exact (((hk.alloc _).alloc _).alloc _) | exact ((((hk.alloc _).alloc _).alloc _).alloc _) | exact (((((hk.alloc _).alloc _).alloc _).alloc _).alloc _) | exact ((((((hk.alloc _).alloc _).alloc _).alloc _).alloc _).alloc _) | (repeat (first | exact hk | refine Kept.alloc ?_ _ | refine Kept.drew ?_ | refine Kept.drewN ?_ _ | refine Kept.set ?_ (by first | (simp; done) | (simp; omega) | omega) _)))⟩
set_option maxHeartbeats 1000000 in
theorem refBack_no7 (wm di ia ib x y bw bh : Int) (w : World) (x1 : -9223372036854775808 ≤ x) (x2 : x ≤ 9223372036854775807) (y1 : -9223372036854775808 ≤ y) (y2 : y ≤ 9223372036854775807) (h1 : modeMayB wm di = true) (h2 : inB 0 1073741824 ia = true) (h3 : inB 0 1073741824 ib = true) (h4 : inB 0 1073741824 bw = true) (h5 : inB 0 1073741824 bh = true) (h6 : farXB x = true) (h7 : farXB y = false) :
    Calls Tryd.prog 30 #[modeV wm di, sizeV ia ib, fourV x y bw bh] w fun e w' => e = .returned (resV (backS wm di ia ib x y bw bh)) ∧ Kept w w' := by
  have hs : backS wm di ia ib x y bw bh = ((0, 0, 0, 0), 300) := if_neg (by simp [backOkB, sizedB, farXB2, h1, h2, h3, h4, h5, h6, h7])
  have Hs := Lib.hid hs
  clear hs
  have g6 := farX_up x1 x2
  have g7 := farX_up y1 y2
  clear x1 x2 y1 y2
  have hk : Kept w w := Kept.refl w
  go_enter Tryd.func30, Tryd.ntmps30
  go_wp2_with fail
  refine with_boxes4 ?_
  intro X hX m i r o
  have hsz := hk.size
  replace hk := hk.trans hX
  clear hX
  replace m_l := m.lt
  replace m_0 := m.at 0 _ rfl
  replace m_1 := m.at 1 _ rfl
  replace i_l := i.lt
  replace i_0 := i.at 0 _ rfl
  replace i_1 := i.at 1 _ rfl
  replace r_l := r.lt
  replace r_0 := r.at 0 _ rfl
  replace r_1 := r.at 1 _ rfl
  replace r_2 := r.at 2 _ rfl
  replace r_3 := r.at 3 _ rfl
  refine (refModeMay_any _ _ _).mono ?_
  rintro e w1 ⟨rfl, hn⟩
  replace hk := hk.trans hn
  replace m := m.kept hn
  replace i := i.kept hn
  replace r := r.kept hn
  replace o := o.kept hn
  clear hn
  replace m_l := m.lt
  replace m_0 := m.at 0 _ rfl
  replace m_1 := m.at 1 _ rfl
  replace i_l := i.lt
  replace i_0 := i.at 0 _ rfl
  replace i_1 := i.at 1 _ rfl
  replace r_l := r.lt
  replace r_0 := r.at 0 _ rfl
  replace r_1 := r.at 1 _ rfl
  replace r_2 := r.at 2 _ rfl
  replace r_3 := r.at 3 _ rfl
  go_wp2_with fail
  refine (refUpTo3_any _ _ _).mono ?_
  rintro e w1 ⟨rfl, rfl⟩
  go_wp2_with fail
  refine (refUpTo3_any _ _ _).mono ?_
  rintro e w1 ⟨rfl, rfl⟩
  go_wp2_with fail
  refine (refUpTo3_any _ _ _).mono ?_
  rintro e w1 ⟨rfl, rfl⟩
  go_wp2_with fail
  refine (refUpTo3_any _ _ _).mono ?_
  rintro e w1 ⟨rfl, rfl⟩
  go_wp2_with fail
  refine (refUpTo3_any _ _ _).mono ?_
  rintro e w1 ⟨rfl, rfl⟩
  go_wp2_with fail
  refine (refUpTo3_any _ _ _).mono ?_
  rintro e w1 ⟨rfl, rfl⟩
  replace o_l := o.lt
  replace o_0 := o.at 0 _ rfl
  replace o_f0 := o.free 0
  replace o_1 := o.at 1 _ rfl
  replace o_f1 := o.free 1
  replace o_2 := o.at 2 _ rfl
  replace o_f2 := o.free 2
  replace o_3 := o.at 3 _ rfl
  replace o_f3 := o.free 3
  go_wp2
  exact bodyPost_ret (v := resV ((0, 0, 0, 0), 300)) (by simp [results, Tryd.results30, go_sem, o_0, o_1, o_2, o_3, o_l]) rfl ⟨by first | (rw [Hs.out]; done) | rfl, (by first | ((repeat (first | with_reducible exact hk | with_reducible refine Kept.alloc ?_ _ | with_reducible refine Kept.drew ?_ | with_reducible refine Kept.drewN ?_ _ | with_reducible refine Kept.set ?_ (by first | (simp; done) | (simp; omega) | omega) _)); done) | exact hk | exact (hk.alloc _) | exact ((hk.alloc _).alloc _) | exact (((hk.alloc _).alloc _).alloc _) | exact ((((hk.alloc _).alloc _).alloc _).alloc _) | exact (((((hk.alloc _).alloc _).alloc _).alloc _).alloc _) | exact ((((((hk.alloc _).alloc _).alloc _).alloc _).alloc _).alloc _) | (repeat (first | exact hk | refine Kept.alloc ?_ _ | refine Kept.drew ?_ | refine Kept.drewN ?_ _ | refine Kept.set ?_ (by first | (simp; done) | (simp; omega) | omega) _)))⟩
end Go.Proofs.YtpeoadnnemlphaaDoor
