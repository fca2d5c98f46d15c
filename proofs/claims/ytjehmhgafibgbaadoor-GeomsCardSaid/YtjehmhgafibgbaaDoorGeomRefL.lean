/- Layer 3: the document's Logical. -/
import Derived.Test.YtjehmhgafibgbaaDoorGeomRef1
namespace Go.Proofs.YtjehmhgafibgbaaDoor
open Go.RowKit
set_option linter.unusedSimpArgs false
set_option linter.unusedVariables false
set_option maxHeartbeats 1000000 in
theorem refLogical_no1 (wm di a b : Int) (w : World) (h1 : modeMayB wm di = false) :
    Calls Tryd.prog 9 #[modeV wm di, .int .i64 a, .int .i64 b] w fun e w' => e = .returned (.tuple #[sizeV (logS wm di a b).1.1 (logS wm di a b).1.2, .int .i64 (logS wm di a b).2]) ∧ Kept w w' := by
  have hs : logS wm di a b = ((0, 0), 300) := if_neg (by simp [logS, sizedB, h1])
  have Hs := Lib.hid hs
  clear hs
  have hk : Kept w w := Kept.refl w
  go_enter Tryd.func9, Tryd.ntmps9
  go_wp2_with fail
  refine with_boxes2 ?_
  intro X hX m o
  have hsz := hk.size
  replace hk := hk.trans hX
  clear hX
  replace m_l := m.lt
  replace m_0 := m.at 0 _ rfl
  replace m_1 := m.at 1 _ rfl
  refine (refModeMay_any _ _ _).mono ?_
  rintro e w1 ⟨rfl, hn⟩
  replace hk := hk.trans hn
  replace m := m.kept hn
  replace o := o.kept hn
  clear hn
  replace m_l := m.lt
  replace m_0 := m.at 0 _ rfl
  replace m_1 := m.at 1 _ rfl
  replace o_l := o.lt
  replace o_0 := o.at 0 _ rfl
  replace o_f0 := o.free 0
  replace o_1 := o.at 1 _ rfl
  replace o_f1 := o.free 1
  go_wp2
  exact bodyPost_ret (v := .tuple #[sizeV 0 0, .int .i64 300]) (by simp [results, Tryd.results9, go_sem, o_0, o_1, o_l]) rfl ⟨by first | (rw [Hs.out]; done) | rfl, (by first | ((repeat (first | with_reducible exact hk | with_reducible refine Kept.alloc ?_ _ | with_reducible refine Kept.drew ?_ | with_reducible refine Kept.drewN ?_ _ | with_reducible refine Kept.set ?_ (by first | (simp; done) | (simp; omega) | omega) _)); done) | exact hk | exact (hk.alloc _) | exact ((hk.alloc _).alloc _) | exact (((hk.alloc _).alloc _).alloc _) | exact ((((hk.alloc _).alloc _).alloc _).alloc _) | exact (((((hk.alloc _).alloc _).alloc _).alloc _).alloc _) | exact ((((((hk.alloc _).alloc _).alloc _).alloc _).alloc _).alloc _) | (repeat (first | exact hk | refine Kept.alloc ?_ _ | refine Kept.drew ?_ | refine Kept.drewN ?_ _ | refine Kept.set ?_ (by first | (simp; done) | (simp; omega) | omega) _)))⟩
set_option maxHeartbeats 1000000 in
theorem refLogical_no2 (wm di a b : Int) (w : World) (h1 : modeMayB wm di = true) (h2 : inB 0 1073741824 a = false) :
    Calls Tryd.prog 9 #[modeV wm di, .int .i64 a, .int .i64 b] w fun e w' => e = .returned (.tuple #[sizeV (logS wm di a b).1.1 (logS wm di a b).1.2, .int .i64 (logS wm di a b).2]) ∧ Kept w w' := by
  have hs : logS wm di a b = ((0, 0), 300) := if_neg (by simp [logS, sizedB, h1, h2])
  have Hs := Lib.hid hs
  clear hs
  have hk : Kept w w := Kept.refl w
  go_enter Tryd.func9, Tryd.ntmps9
  go_wp2_with fail
  refine with_boxes2 ?_
  intro X hX m o
  have hsz := hk.size
  replace hk := hk.trans hX
  clear hX
  replace m_l := m.lt
  replace m_0 := m.at 0 _ rfl
  replace m_1 := m.at 1 _ rfl
  refine (refModeMay_any _ _ _).mono ?_
  rintro e w1 ⟨rfl, hn⟩
  replace hk := hk.trans hn
  replace m := m.kept hn
  replace o := o.kept hn
  clear hn
  replace m_l := m.lt
  replace m_0 := m.at 0 _ rfl
  replace m_1 := m.at 1 _ rfl
  go_wp2_with fail
  refine (refUpTo3_any _ _ _).mono ?_
  rintro e w1 ⟨rfl, rfl⟩
  replace o_l := o.lt
  replace o_0 := o.at 0 _ rfl
  replace o_f0 := o.free 0
  replace o_1 := o.at 1 _ rfl
  replace o_f1 := o.free 1
  go_wp2
  exact bodyPost_ret (v := .tuple #[sizeV 0 0, .int .i64 300]) (by simp [results, Tryd.results9, go_sem, o_0, o_1, o_l]) rfl ⟨by first | (rw [Hs.out]; done) | rfl, (by first | ((repeat (first | with_reducible exact hk | with_reducible refine Kept.alloc ?_ _ | with_reducible refine Kept.drew ?_ | with_reducible refine Kept.drewN ?_ _ | with_reducible refine Kept.set ?_ (by first | (simp; done) | (simp; omega) | omega) _)); done) | exact hk | exact (hk.alloc _) | exact ((hk.alloc _).alloc _) | exact (((hk.alloc _).alloc _).alloc _) | exact ((((hk.alloc _).alloc _).alloc _).alloc _) | exact (((((hk.alloc _).alloc _).alloc _).alloc _).alloc _) | exact ((((((hk.alloc _).alloc _).alloc _).alloc _).alloc _).alloc _) | (repeat (first | exact hk | refine Kept.alloc ?_ _ | refine Kept.drew ?_ | refine Kept.drewN ?_ _ | refine Kept.set ?_ (by first | (simp; done) | (simp; omega) | omega) _)))⟩
set_option maxHeartbeats 1000000 in
theorem refLogical_no3 (wm di a b : Int) (w : World) (h1 : modeMayB wm di = true) (h2 : inB 0 1073741824 a = true) (h3 : inB 0 1073741824 b = false) :
    Calls Tryd.prog 9 #[modeV wm di, .int .i64 a, .int .i64 b] w fun e w' => e = .returned (.tuple #[sizeV (logS wm di a b).1.1 (logS wm di a b).1.2, .int .i64 (logS wm di a b).2]) ∧ Kept w w' := by
  have hs : logS wm di a b = ((0, 0), 300) := if_neg (by simp [logS, sizedB, h1, h2, h3])
  have Hs := Lib.hid hs
  clear hs
  have hk : Kept w w := Kept.refl w
  go_enter Tryd.func9, Tryd.ntmps9
  go_wp2_with fail
  refine with_boxes2 ?_
  intro X hX m o
  have hsz := hk.size
  replace hk := hk.trans hX
  clear hX
  replace m_l := m.lt
  replace m_0 := m.at 0 _ rfl
  replace m_1 := m.at 1 _ rfl
  refine (refModeMay_any _ _ _).mono ?_
  rintro e w1 ⟨rfl, hn⟩
  replace hk := hk.trans hn
  replace m := m.kept hn
  replace o := o.kept hn
  clear hn
  replace m_l := m.lt
  replace m_0 := m.at 0 _ rfl
  replace m_1 := m.at 1 _ rfl
  go_wp2_with fail
  refine (refUpTo3_any _ _ _).mono ?_
  rintro e w1 ⟨rfl, rfl⟩
  go_wp2_with fail
  refine (refUpTo3_any _ _ _).mono ?_
  rintro e w1 ⟨rfl, rfl⟩
  replace o_l := o.lt
  replace o_0 := o.at 0 _ rfl
  replace o_f0 := o.free 0
  replace o_1 := o.at 1 _ rfl
  replace o_f1 := o.free 1
  go_wp2
  exact bodyPost_ret (v := .tuple #[sizeV 0 0, .int .i64 300]) (by simp [results, Tryd.results9, go_sem, o_0, o_1, o_l]) rfl ⟨by first | (rw [Hs.out]; done) | rfl, (by first | ((repeat (first | with_reducible exact hk | with_reducible refine Kept.alloc ?_ _ | with_reducible refine Kept.drew ?_ | with_reducible refine Kept.drewN ?_ _ | with_reducible refine Kept.set ?_ (by first | (simp; done) | (simp; omega) | omega) _)); done) | exact hk | exact (hk.alloc _) | exact ((hk.alloc _).alloc _) | exact (((hk.alloc _).alloc _).alloc _) | exact ((((hk.alloc _).alloc _).alloc _).alloc _) | exact (((((hk.alloc _).alloc _).alloc _).alloc _).alloc _) | exact ((((((hk.alloc _).alloc _).alloc _).alloc _).alloc _).alloc _) | (repeat (first | exact hk | refine Kept.alloc ?_ _ | refine Kept.drew ?_ | refine Kept.drewN ?_ _ | refine Kept.set ?_ (by first | (simp; done) | (simp; omega) | omega) _)))⟩
set_option maxHeartbeats 1000000 in
theorem refLogical_false (wm di a b : Int) (w : World) (h1 : modeMayB wm di = true) (h2 : inB 0 1073741824 a = true) (h3 : inB 0 1073741824 b = true) (h9 : vertB wm di = false) :
    Calls Tryd.prog 9 #[modeV wm di, .int .i64 a, .int .i64 b] w fun e w' => e = .returned (.tuple #[sizeV (logS wm di a b).1.1 (logS wm di a b).1.2, .int .i64 (logS wm di a b).2]) ∧ Kept w w' := by
  have hs : logS wm di a b = ((a, b), 0) := by unfold logS; rw [if_pos (by simp [logS, sizedB, h1, h2, h3]), h9]; rfl
  have Hs := Lib.hid hs
  clear hs
  have hk : Kept w w := Kept.refl w
  go_enter Tryd.func9, Tryd.ntmps9
  go_wp2_with fail
  refine with_boxes2 ?_
  intro X hX m o
  have hsz := hk.size
  replace hk := hk.trans hX
  clear hX
  replace m_l := m.lt
  replace m_0 := m.at 0 _ rfl
  replace m_1 := m.at 1 _ rfl
  refine (refModeMay_any _ _ _).mono ?_
  rintro e w1 ⟨rfl, hn⟩
  replace hk := hk.trans hn
  replace m := m.kept hn
  replace o := o.kept hn
  clear hn
  replace m_l := m.lt
  replace m_0 := m.at 0 _ rfl
  replace m_1 := m.at 1 _ rfl
  go_wp2_with fail
  refine (refUpTo3_any _ _ _).mono ?_
  rintro e w1 ⟨rfl, rfl⟩
  go_wp2_with fail
  refine (refUpTo3_any _ _ _).mono ?_
  rintro e w1 ⟨rfl, rfl⟩
  go_wp2_with fail
  refine (refVertical_any _ _ _).mono ?_
  rintro e w1 ⟨rfl, hn⟩
  replace hk := hk.trans hn
  replace m := m.kept hn
  replace o := o.kept hn
  clear hn
  replace m_l := m.lt
  replace m_0 := m.at 0 _ rfl
  replace m_1 := m.at 1 _ rfl
  replace o_l := o.lt
  replace o_0 := o.at 0 _ rfl
  replace o_f0 := o.free 0
  replace o_1 := o.at 1 _ rfl
  replace o_f1 := o.free 1
  go_wp2
  exact bodyPost_ret (v := .tuple #[sizeV a b, .int .i64 0]) (by simp [results, Tryd.results9, go_sem, o_0, o_1, o_l]) rfl ⟨by first | (rw [Hs.out]; done) | rfl, (by first | ((repeat (first | with_reducible exact hk | with_reducible refine Kept.alloc ?_ _ | with_reducible refine Kept.drew ?_ | with_reducible refine Kept.drewN ?_ _ | with_reducible refine Kept.set ?_ (by first | (simp; done) | (simp; omega) | omega) _)); done) | exact hk | exact (hk.alloc _) | exact ((hk.alloc _).alloc _) | exact (((hk.alloc _).alloc _).alloc _) | exact ((((hk.alloc _).alloc _).alloc _).alloc _) | exact (((((hk.alloc _).alloc _).alloc _).alloc _).alloc _) | exact ((((((hk.alloc _).alloc _).alloc _).alloc _).alloc _).alloc _) | (repeat (first | exact hk | refine Kept.alloc ?_ _ | refine Kept.drew ?_ | refine Kept.drewN ?_ _ | refine Kept.set ?_ (by first | (simp; done) | (simp; omega) | omega) _)))⟩
set_option maxHeartbeats 1000000 in
theorem refLogical_true (wm di a b : Int) (w : World) (h1 : modeMayB wm di = true) (h2 : inB 0 1073741824 a = true) (h3 : inB 0 1073741824 b = true) (h9 : vertB wm di = true) :
    Calls Tryd.prog 9 #[modeV wm di, .int .i64 a, .int .i64 b] w fun e w' => e = .returned (.tuple #[sizeV (logS wm di a b).1.1 (logS wm di a b).1.2, .int .i64 (logS wm di a b).2]) ∧ Kept w w' := by
  have hs : logS wm di a b = ((b, a), 0) := by unfold logS; rw [if_pos (by simp [logS, sizedB, h1, h2, h3]), h9]; rfl
  have Hs := Lib.hid hs
  clear hs
  have hk : Kept w w := Kept.refl w
  go_enter Tryd.func9, Tryd.ntmps9
  go_wp2_with fail
  refine with_boxes2 ?_
  intro X hX m o
  have hsz := hk.size
  replace hk := hk.trans hX
  clear hX
  replace m_l := m.lt
  replace m_0 := m.at 0 _ rfl
  replace m_1 := m.at 1 _ rfl
  refine (refModeMay_any _ _ _).mono ?_
  rintro e w1 ⟨rfl, hn⟩
  replace hk := hk.trans hn
  replace m := m.kept hn
  replace o := o.kept hn
  clear hn
  replace m_l := m.lt
  replace m_0 := m.at 0 _ rfl
  replace m_1 := m.at 1 _ rfl
  go_wp2_with fail
  refine (refUpTo3_any _ _ _).mono ?_
  rintro e w1 ⟨rfl, rfl⟩
  go_wp2_with fail
  refine (refUpTo3_any _ _ _).mono ?_
  rintro e w1 ⟨rfl, rfl⟩
  go_wp2_with fail
  refine (refVertical_any _ _ _).mono ?_
  rintro e w1 ⟨rfl, hn⟩
  replace hk := hk.trans hn
  replace m := m.kept hn
  replace o := o.kept hn
  clear hn
  replace m_l := m.lt
  replace m_0 := m.at 0 _ rfl
  replace m_1 := m.at 1 _ rfl
  replace o_l := o.lt
  replace o_0 := o.at 0 _ rfl
  replace o_f0 := o.free 0
  replace o_1 := o.at 1 _ rfl
  replace o_f1 := o.free 1
  go_wp2
  exact bodyPost_ret (v := .tuple #[sizeV b a, .int .i64 0]) (by simp [results, Tryd.results9, go_sem, o_0, o_1, o_l]) rfl ⟨by first | (rw [Hs.out]; done) | rfl, (by first | ((repeat (first | with_reducible exact hk | with_reducible refine Kept.alloc ?_ _ | with_reducible refine Kept.drew ?_ | with_reducible refine Kept.drewN ?_ _ | with_reducible refine Kept.set ?_ (by first | (simp; done) | (simp; omega) | omega) _)); done) | exact hk | exact (hk.alloc _) | exact ((hk.alloc _).alloc _) | exact (((hk.alloc _).alloc _).alloc _) | exact ((((hk.alloc _).alloc _).alloc _).alloc _) | exact (((((hk.alloc _).alloc _).alloc _).alloc _).alloc _) | exact ((((((hk.alloc _).alloc _).alloc _).alloc _).alloc _).alloc _) | (repeat (first | exact hk | refine Kept.alloc ?_ _ | refine Kept.drew ?_ | refine Kept.drewN ?_ _ | refine Kept.set ?_ (by first | (simp; done) | (simp; omega) | omega) _)))⟩
theorem refLogical_any (wm di a b : Int) (w : World) :
    Calls Tryd.prog 9 #[modeV wm di, .int .i64 a, .int .i64 b] w fun e w' => e = .returned (.tuple #[sizeV (logS wm di a b).1.1 (logS wm di a b).1.2, .int .i64 (logS wm di a b).2]) ∧ Kept w w' := by
  cases h1 : modeMayB wm di
  · exact refLogical_no1 _ _ _ _  w h1
  cases h2 : inB 0 1073741824 a
  · exact refLogical_no2 _ _ _ _  w h1 h2
  cases h3 : inB 0 1073741824 b
  · exact refLogical_no3 _ _ _ _  w h1 h2 h3
  cases h9 : vertB wm di
  · exact refLogical_false _ _ _ _  w h1 h2 h3 h9
  · exact refLogical_true _ _ _ _  w h1 h2 h3 h9
end Go.Proofs.YtjehmhgafibgbaaDoor
