/- Layer 3: geometry: sizes, the far sides. -/
import Derived.Test.YtbjkphelkfeliaaDoorModeSide
import Derived.Test.YtbjkphelkfeliaaDoorBoxes
import Derived.Test.YtbjkphelkfeliaaDoorUnit
namespace Go.Proofs.YtbjkphelkfeliaaDoor
open Go.RowKit
set_option linter.unusedSimpArgs false
abbrev sizeV (a b : Int) : Value := .agg #[.int .i64 a, .int .i64 b]
def sizedB (a b : Int) : Bool := inB 0 1073741824 a && inB 0 1073741824 b
theorem sizedB_true {a b : Int} : sizedB a b = true ↔ (0 ≤ a ∧ a ≤ 1073741824) ∧ 0 ≤ b ∧ b ≤ 1073741824 := by unfold sizedB; rw [Bool.and_eq_true, inB_true, inB_true]
theorem geomSized_any (a b : Int) (w : World) :
    Calls Tryd.prog 22 #[sizeV a b] w fun e w' => e = .returned (.bool (sizedB a b)) ∧ Kept w w' := by
  have hs : sizedB a b = (inB 0 1073741824 a && inB 0 1073741824 b) := rfl
  have Hs := Lib.hid hs
  clear hs
  have hk : Kept w w := Kept.refl w
  go_enter Tryd.func22, Tryd.ntmps22
  go_wp2_with (first
    | (go_at_call 19; refine (each2_any _ _ _ _ _ _ (cell_at _ _ _ _ _ _ (by simp) rfl) (cell_at _ _ _ _ _ _ (by simp) rfl)).mono ?_; rintro e w1 ⟨rfl, rfl⟩)
    | fail)
  go_ret
  exact ⟨ret_bool Hs.out.symm, (by first | ((repeat (first | with_reducible exact hk | with_reducible refine Kept.alloc ?_ _ | with_reducible refine Kept.drew ?_ | with_reducible refine Kept.drewN ?_ _ | with_reducible refine Kept.set ?_ (by first | (simp; done) | (simp; omega) | omega) _)); done) | exact hk | exact (hk.alloc _) | exact ((hk.alloc _).alloc _) | exact (((hk.alloc _).alloc _).alloc _) | exact ((((hk.alloc _).alloc _).alloc _).alloc _) | exact (((((hk.alloc _).alloc _).alloc _).alloc _).alloc _) | exact ((((((hk.alloc _).alloc _).alloc _).alloc _).alloc _).alloc _) | (repeat (first | exact hk | refine Kept.alloc ?_ _ | refine Kept.drew ?_ | refine Kept.drewN ?_ _ | refine Kept.set ?_ (by first | (simp; done) | (simp; omega) | omega) _)))⟩
def logS (wm di a b : Int) : (Int × Int) × Int := if modeMayB wm di = true ∧ sizedB a b = true then ((if vertB wm di = true then (b, a) else (a, b)), 0) else ((0, 0), 300)
set_option maxHeartbeats 1000000 in
theorem geomLogical_any (wm di a b : Int) (w : World) :
    Calls Tryd.prog 8 #[modeV wm di, .int .i64 a, .int .i64 b] w fun e w' => e = .returned (.tuple #[sizeV (logS wm di a b).1.1 (logS wm di a b).1.2, .int .i64 (logS wm di a b).2]) ∧ Kept w w' := by
  cases h1 : modeMayB wm di
  · have hs : logS wm di a b = ((0, 0), 300) := if_neg (by simp [h1])
    have Hs := Lib.hid hs
    clear hs
    have hk : Kept w w := Kept.refl w
    go_enter Tryd.func8, Tryd.ntmps8
    go_wp2_with fail
    refine with_boxes2 ?_
    intro X hX m r
    have hsz := hk.size
    replace hk := hk.trans hX
    clear hX
    replace m_l := m.lt
    replace m_0 := m.at 0 _ rfl
    replace m_1 := m.at 1 _ rfl
    refine (modeMay_any _ _ _).mono ?_
    rintro e w1 ⟨rfl, hn⟩
    replace hk := hk.trans hn
    replace m := m.kept hn
    replace r := r.kept hn
    clear hn
    replace m_l := m.lt
    replace m_0 := m.at 0 _ rfl
    replace m_1 := m.at 1 _ rfl
    replace r_l := r.lt
    replace r_0 := r.at 0 _ rfl
    replace r_f0 := r.free 0
    replace r_1 := r.at 1 _ rfl
    replace r_f1 := r.free 1
    go_wp2
    exact bodyPost_ret (v := .tuple #[sizeV 0 0, .int .i64 300]) (by simp [results, Tryd.results8, go_sem, r_0, r_1, r_l]) rfl ⟨by first | (rw [Hs.out]; done) | rfl, (by first | ((repeat (first | with_reducible exact hk | with_reducible refine Kept.alloc ?_ _ | with_reducible refine Kept.drew ?_ | with_reducible refine Kept.drewN ?_ _ | with_reducible refine Kept.set ?_ (by first | (simp; done) | (simp; omega) | omega) _)); done) | exact hk | exact (hk.alloc _) | exact ((hk.alloc _).alloc _) | exact (((hk.alloc _).alloc _).alloc _) | exact ((((hk.alloc _).alloc _).alloc _).alloc _) | exact (((((hk.alloc _).alloc _).alloc _).alloc _).alloc _) | exact ((((((hk.alloc _).alloc _).alloc _).alloc _).alloc _).alloc _) | (repeat (first | exact hk | refine Kept.alloc ?_ _ | refine Kept.drew ?_ | refine Kept.drewN ?_ _ | refine Kept.set ?_ (by first | (simp; done) | (simp; omega) | omega) _)))⟩
  cases h2 : sizedB a b
  · have hs : logS wm di a b = ((0, 0), 300) := if_neg (by simp [h2])
    have Hs := Lib.hid hs
    clear hs
    have h2' : (inB 0 1073741824 a && inB 0 1073741824 b) = false := h2
    have hk : Kept w w := Kept.refl w
    go_enter Tryd.func8, Tryd.ntmps8
    go_wp2_with fail
    refine with_boxes2 ?_
    intro X hX m r
    have hsz := hk.size
    replace hk := hk.trans hX
    clear hX
    replace m_l := m.lt
    replace m_0 := m.at 0 _ rfl
    replace m_1 := m.at 1 _ rfl
    refine (modeMay_any _ _ _).mono ?_
    rintro e w1 ⟨rfl, hn⟩
    replace hk := hk.trans hn
    replace m := m.kept hn
    replace r := r.kept hn
    clear hn
    replace m_l := m.lt
    replace m_0 := m.at 0 _ rfl
    replace m_1 := m.at 1 _ rfl
    go_wp2_with fail
    refine with_boxes1 ?_
    intro X hX p
    have hsz := hk.size
    replace hk := hk.trans hX
    replace m := m.kept hX
    replace r := r.kept hX
    clear hX
    replace m_l := m.lt
    replace m_0 := m.at 0 _ rfl
    replace m_1 := m.at 1 _ rfl
    replace p_l := p.lt
    replace p_0 := p.at 0 _ rfl
    replace p_1 := p.at 1 _ rfl
    refine (each2_any _ _ _ _ _ _ p_0 p_1).mono ?_
    rintro e w1 ⟨rfl, rfl⟩
    replace r_l := r.lt
    replace r_0 := r.at 0 _ rfl
    replace r_f0 := r.free 0
    replace r_1 := r.at 1 _ rfl
    replace r_f1 := r.free 1
    go_wp2
    exact bodyPost_ret (v := .tuple #[sizeV 0 0, .int .i64 300]) (by simp [results, Tryd.results8, go_sem, r_0, r_1, r_l]) rfl ⟨by first | (rw [Hs.out]; done) | rfl, (by first | ((repeat (first | with_reducible exact hk | with_reducible refine Kept.alloc ?_ _ | with_reducible refine Kept.drew ?_ | with_reducible refine Kept.drewN ?_ _ | with_reducible refine Kept.set ?_ (by first | (simp; done) | (simp; omega) | omega) _)); done) | exact hk | exact (hk.alloc _) | exact ((hk.alloc _).alloc _) | exact (((hk.alloc _).alloc _).alloc _) | exact ((((hk.alloc _).alloc _).alloc _).alloc _) | exact (((((hk.alloc _).alloc _).alloc _).alloc _).alloc _) | exact ((((((hk.alloc _).alloc _).alloc _).alloc _).alloc _).alloc _) | (repeat (first | exact hk | refine Kept.alloc ?_ _ | refine Kept.drew ?_ | refine Kept.drewN ?_ _ | refine Kept.set ?_ (by first | (simp; done) | (simp; omega) | omega) _)))⟩
  have h2' : (inB 0 1073741824 a && inB 0 1073741824 b) = true := h2
  cases h3 : vertB wm di
  · have hs : logS wm di a b = ((a, b), 0) := by unfold logS; rw [if_pos ⟨h1, h2⟩, h3]; rfl
    have Hs := Lib.hid hs
    clear hs
    have hk : Kept w w := Kept.refl w
    go_enter Tryd.func8, Tryd.ntmps8
    go_wp2_with fail
    refine with_boxes2 ?_
    intro X hX m r
    have hsz := hk.size
    replace hk := hk.trans hX
    clear hX
    replace m_l := m.lt
    replace m_0 := m.at 0 _ rfl
    replace m_1 := m.at 1 _ rfl
    refine (modeMay_any _ _ _).mono ?_
    rintro e w1 ⟨rfl, hn⟩
    replace hk := hk.trans hn
    replace m := m.kept hn
    replace r := r.kept hn
    clear hn
    replace m_l := m.lt
    replace m_0 := m.at 0 _ rfl
    replace m_1 := m.at 1 _ rfl
    go_wp2_with fail
    refine with_boxes1 ?_
    intro X hX p
    have hsz := hk.size
    replace hk := hk.trans hX
    replace m := m.kept hX
    replace r := r.kept hX
    clear hX
    replace m_l := m.lt
    replace m_0 := m.at 0 _ rfl
    replace m_1 := m.at 1 _ rfl
    replace p_l := p.lt
    replace p_0 := p.at 0 _ rfl
    replace p_1 := p.at 1 _ rfl
    refine (each2_any _ _ _ _ _ _ p_0 p_1).mono ?_
    rintro e w1 ⟨rfl, rfl⟩
    go_wp2_with fail
    refine (modeVertical_any _ _ _).mono ?_
    rintro e w1 ⟨rfl, hn⟩
    replace hk := hk.trans hn
    replace m := m.kept hn
    replace r := r.kept hn
    replace p := p.kept hn
    clear hn
    replace m_l := m.lt
    replace m_0 := m.at 0 _ rfl
    replace m_1 := m.at 1 _ rfl
    replace p_l := p.lt
    replace p_0 := p.at 0 _ rfl
    replace p_1 := p.at 1 _ rfl
    replace r_l := r.lt
    replace r_0 := r.at 0 _ rfl
    replace r_f0 := r.free 0
    replace r_1 := r.at 1 _ rfl
    replace r_f1 := r.free 1
    go_wp2
    exact bodyPost_ret (v := .tuple #[sizeV a b, .int .i64 0]) (by simp [results, Tryd.results8, go_sem, r_0, r_1, r_l]) rfl ⟨by first | (rw [Hs.out]; done) | rfl, (by first | ((repeat (first | with_reducible exact hk | with_reducible refine Kept.alloc ?_ _ | with_reducible refine Kept.drew ?_ | with_reducible refine Kept.drewN ?_ _ | with_reducible refine Kept.set ?_ (by first | (simp; done) | (simp; omega) | omega) _)); done) | exact hk | exact (hk.alloc _) | exact ((hk.alloc _).alloc _) | exact (((hk.alloc _).alloc _).alloc _) | exact ((((hk.alloc _).alloc _).alloc _).alloc _) | exact (((((hk.alloc _).alloc _).alloc _).alloc _).alloc _) | exact ((((((hk.alloc _).alloc _).alloc _).alloc _).alloc _).alloc _) | (repeat (first | exact hk | refine Kept.alloc ?_ _ | refine Kept.drew ?_ | refine Kept.drewN ?_ _ | refine Kept.set ?_ (by first | (simp; done) | (simp; omega) | omega) _)))⟩
  · have hs : logS wm di a b = ((b, a), 0) := by unfold logS; rw [if_pos ⟨h1, h2⟩, h3]; rfl
    have Hs := Lib.hid hs
    clear hs
    have hk : Kept w w := Kept.refl w
    go_enter Tryd.func8, Tryd.ntmps8
    go_wp2_with fail
    refine with_boxes2 ?_
    intro X hX m r
    have hsz := hk.size
    replace hk := hk.trans hX
    clear hX
    replace m_l := m.lt
    replace m_0 := m.at 0 _ rfl
    replace m_1 := m.at 1 _ rfl
    refine (modeMay_any _ _ _).mono ?_
    rintro e w1 ⟨rfl, hn⟩
    replace hk := hk.trans hn
    replace m := m.kept hn
    replace r := r.kept hn
    clear hn
    replace m_l := m.lt
    replace m_0 := m.at 0 _ rfl
    replace m_1 := m.at 1 _ rfl
    go_wp2_with fail
    refine with_boxes1 ?_
    intro X hX p
    have hsz := hk.size
    replace hk := hk.trans hX
    replace m := m.kept hX
    replace r := r.kept hX
    clear hX
    replace m_l := m.lt
    replace m_0 := m.at 0 _ rfl
    replace m_1 := m.at 1 _ rfl
    replace p_l := p.lt
    replace p_0 := p.at 0 _ rfl
    replace p_1 := p.at 1 _ rfl
    refine (each2_any _ _ _ _ _ _ p_0 p_1).mono ?_
    rintro e w1 ⟨rfl, rfl⟩
    go_wp2_with fail
    refine (modeVertical_any _ _ _).mono ?_
    rintro e w1 ⟨rfl, hn⟩
    replace hk := hk.trans hn
    replace m := m.kept hn
    replace r := r.kept hn
    replace p := p.kept hn
    clear hn
    replace m_l := m.lt
    replace m_0 := m.at 0 _ rfl
    replace m_1 := m.at 1 _ rfl
    replace p_l := p.lt
    replace p_0 := p.at 0 _ rfl
    replace p_1 := p.at 1 _ rfl
    replace r_l := r.lt
    replace r_0 := r.at 0 _ rfl
    replace r_f0 := r.free 0
    replace r_1 := r.at 1 _ rfl
    replace r_f1 := r.free 1
    go_wp2
    exact bodyPost_ret (v := .tuple #[sizeV b a, .int .i64 0]) (by simp [results, Tryd.results8, go_sem, r_0, r_1, r_l]) rfl ⟨by first | (rw [Hs.out]; done) | rfl, (by first | ((repeat (first | with_reducible exact hk | with_reducible refine Kept.alloc ?_ _ | with_reducible refine Kept.drew ?_ | with_reducible refine Kept.drewN ?_ _ | with_reducible refine Kept.set ?_ (by first | (simp; done) | (simp; omega) | omega) _)); done) | exact hk | exact (hk.alloc _) | exact ((hk.alloc _).alloc _) | exact (((hk.alloc _).alloc _).alloc _) | exact ((((hk.alloc _).alloc _).alloc _).alloc _) | exact (((((hk.alloc _).alloc _).alloc _).alloc _).alloc _) | exact ((((((hk.alloc _).alloc _).alloc _).alloc _).alloc _).alloc _) | (repeat (first | exact hk | refine Kept.alloc ?_ _ | refine Kept.drew ?_ | refine Kept.drewN ?_ _ | refine Kept.set ?_ (by first | (simp; done) | (simp; omega) | omega) _)))⟩
def farB (wm di side : Int) : Bool := (edgeS wm di side).1 == 1 || (edgeS wm di side).1 == 2
theorem geomFromFar_any (wm di side : Int) (w : World) (ht : Tab w) :
    Calls Tryd.prog 28 #[modeV wm di, .int .i64 side] w fun e w' => e = .returned (.bool (farB wm di side)) ∧ Kept w w' := by
  have hs : farB wm di side = ((edgeS wm di side).1 == 1 || (edgeS wm di side).1 == 2) := rfl
  have Hs := Lib.hid hs
  clear hs
  cases h1 : ((edgeS wm di side).1 == 1)
  all_goals
    have hk : Kept w w := Kept.refl w
    go_enter Tryd.func28, Tryd.ntmps28
    go_wp2_with fail
    refine with_boxes1 ?_
    intro X hX m
    have hsz := hk.size
    replace hk := hk.trans hX
    clear hX
    replace m_l := m.lt
    replace m_0 := m.at 0 _ rfl
    replace m_1 := m.at 1 _ rfl
    refine (modeEdge_any _ _ _ _ (ht.kept hk)).mono ?_
    rintro e w1 ⟨rfl, hn⟩
    replace hk := hk.trans hn
    replace m := m.kept hn
    clear hn
    replace m_l := m.lt
    replace m_0 := m.at 0 _ rfl
    replace m_1 := m.at 1 _ rfl
    go_wp2
    go_ret
    exact ⟨ret_bool (by rw [Hs.out, h1]; rfl), (by first | ((repeat (first | with_reducible exact hk | with_reducible refine Kept.alloc ?_ _ | with_reducible refine Kept.drew ?_ | with_reducible refine Kept.drewN ?_ _ | with_reducible refine Kept.set ?_ (by first | (simp; done) | (simp; omega) | omega) _)); done) | exact hk | exact (hk.alloc _) | exact ((hk.alloc _).alloc _) | exact (((hk.alloc _).alloc _).alloc _) | exact ((((hk.alloc _).alloc _).alloc _).alloc _) | exact (((((hk.alloc _).alloc _).alloc _).alloc _).alloc _) | exact ((((((hk.alloc _).alloc _).alloc _).alloc _).alloc _).alloc _) | (repeat (first | exact hk | refine Kept.alloc ?_ _ | refine Kept.drew ?_ | refine Kept.drewN ?_ _ | refine Kept.set ?_ (by first | (simp; done) | (simp; omega) | omega) _)))⟩
/-- a distance that is told from the far side -/
def turnS (far : Bool) (inn at_ size : Int) : Int := if far = true then wrap64 (wrap64 (inn - at_) - size) else at_
set_option maxHeartbeats 2000000 in
theorem geomTurn_any (wm di ia ib a b c d : Int) (w : World) (ht : Tab w) :
    Calls Tryd.prog 24 #[modeV wm di, sizeV ia ib, sizeV a b, sizeV c d] w fun e w' => e = .returned (sizeV (turnS (farB wm di 0) ia a c) (turnS (farB wm di 2) ib b d)) ∧ Kept w w' := by
  cases h1 : farB wm di 0 <;> cases h2 : farB wm di 2
  case false.false =>
    have hk : Kept w w := Kept.refl w
    go_enter Tryd.func24, Tryd.ntmps24
    go_wp2_with fail
    refine with_boxes5 ?_
    intro X hX m i t z r
    have hsz := hk.size
    replace hk := hk.trans hX
    clear hX
    replace m_l := m.lt
    replace m_0 := m.at 0 _ rfl
    replace m_1 := m.at 1 _ rfl
    replace i_l := i.lt
    replace i_0 := i.at 0 _ rfl
    replace i_1 := i.at 1 _ rfl
    replace z_l := z.lt
    replace z_0 := z.at 0 _ rfl
    replace z_1 := z.at 1 _ rfl
    refine (geomFromFar_any _ _ _ _ (ht.kept hk)).mono ?_
    rintro e w1 ⟨rfl, hn⟩
    replace hk := hk.trans hn
    replace m := m.kept hn
    replace i := i.kept hn
    replace t := t.kept hn
    replace z := z.kept hn
    replace r := r.kept hn
    clear hn
    replace m_l := m.lt
    replace m_0 := m.at 0 _ rfl
    replace m_1 := m.at 1 _ rfl
    replace i_l := i.lt
    replace i_0 := i.at 0 _ rfl
    replace i_1 := i.at 1 _ rfl
    replace z_l := z.lt
    replace z_0 := z.at 0 _ rfl
    replace z_1 := z.at 1 _ rfl
    go_wp2_with fail
    refine (geomFromFar_any _ _ _ _ (ht.kept hk)).mono ?_
    rintro e w1 ⟨rfl, hn⟩
    replace hk := hk.trans hn
    replace m := m.kept hn
    replace i := i.kept hn
    replace t := t.kept hn
    replace z := z.kept hn
    replace r := r.kept hn
    clear hn
    replace m_l := m.lt
    replace m_0 := m.at 0 _ rfl
    replace m_1 := m.at 1 _ rfl
    replace i_l := i.lt
    replace i_0 := i.at 0 _ rfl
    replace i_1 := i.at 1 _ rfl
    replace z_l := z.lt
    replace z_0 := z.at 0 _ rfl
    replace z_1 := z.at 1 _ rfl
    replace t_l := t.lt
    replace t_0 := t.at 0 _ rfl
    replace t_f0 := t.free 0
    replace t_1 := t.at 1 _ rfl
    replace t_f1 := t.free 1
    replace r_l := r.lt
    replace r_0 := r.at 0 _ rfl
    replace r_f0 := r.free 0
    replace r_1 := r.at 1 _ rfl
    replace r_f1 := r.free 1
    go_wp2
    exact bodyPost_ret (v := sizeV a b) (by simp [results, Tryd.results24, go_sem, t_0, t_1, r_0, r_1, t_l, r_l]) rfl ⟨by first | (rw [Hs.out]; done) | rfl, (by first | ((repeat (first | with_reducible exact hk | with_reducible refine Kept.alloc ?_ _ | with_reducible refine Kept.drew ?_ | with_reducible refine Kept.drewN ?_ _ | with_reducible refine Kept.set ?_ (by first | (simp; done) | (simp; omega) | omega) _)); done) | exact hk | exact (hk.alloc _) | exact ((hk.alloc _).alloc _) | exact (((hk.alloc _).alloc _).alloc _) | exact ((((hk.alloc _).alloc _).alloc _).alloc _) | exact (((((hk.alloc _).alloc _).alloc _).alloc _).alloc _) | exact ((((((hk.alloc _).alloc _).alloc _).alloc _).alloc _).alloc _) | (repeat (first | exact hk | refine Kept.alloc ?_ _ | refine Kept.drew ?_ | refine Kept.drewN ?_ _ | refine Kept.set ?_ (by first | (simp; done) | (simp; omega) | omega) _)))⟩
  case false.true =>
    have hk : Kept w w := Kept.refl w
    go_enter Tryd.func24, Tryd.ntmps24
    go_wp2_with fail
    refine with_boxes5 ?_
    intro X hX m i t z r
    have hsz := hk.size
    replace hk := hk.trans hX
    clear hX
    replace m_l := m.lt
    replace m_0 := m.at 0 _ rfl
    replace m_1 := m.at 1 _ rfl
    replace i_l := i.lt
    replace i_0 := i.at 0 _ rfl
    replace i_1 := i.at 1 _ rfl
    replace z_l := z.lt
    replace z_0 := z.at 0 _ rfl
    replace z_1 := z.at 1 _ rfl
    refine (geomFromFar_any _ _ _ _ (ht.kept hk)).mono ?_
    rintro e w1 ⟨rfl, hn⟩
    replace hk := hk.trans hn
    replace m := m.kept hn
    replace i := i.kept hn
    replace t := t.kept hn
    replace z := z.kept hn
    replace r := r.kept hn
    clear hn
    replace m_l := m.lt
    replace m_0 := m.at 0 _ rfl
    replace m_1 := m.at 1 _ rfl
    replace i_l := i.lt
    replace i_0 := i.at 0 _ rfl
    replace i_1 := i.at 1 _ rfl
    replace z_l := z.lt
    replace z_0 := z.at 0 _ rfl
    replace z_1 := z.at 1 _ rfl
    go_wp2_with fail
    refine (geomFromFar_any _ _ _ _ (ht.kept hk)).mono ?_
    rintro e w1 ⟨rfl, hn⟩
    replace hk := hk.trans hn
    replace m := m.kept hn
    replace i := i.kept hn
    replace t := t.kept hn
    replace z := z.kept hn
    replace r := r.kept hn
    clear hn
    replace m_l := m.lt
    replace m_0 := m.at 0 _ rfl
    replace m_1 := m.at 1 _ rfl
    replace i_l := i.lt
    replace i_0 := i.at 0 _ rfl
    replace i_1 := i.at 1 _ rfl
    replace z_l := z.lt
    replace z_0 := z.at 0 _ rfl
    replace z_1 := z.at 1 _ rfl
    replace t_l := t.lt
    replace t_0 := t.at 0 _ rfl
    replace t_f0 := t.free 0
    replace t_1 := t.at 1 _ rfl
    replace t_f1 := t.free 1
    replace r_l := r.lt
    replace r_0 := r.at 0 _ rfl
    replace r_f0 := r.free 0
    replace r_1 := r.at 1 _ rfl
    replace r_f1 := r.free 1
    go_wp2
    exact bodyPost_ret (v := sizeV a (wrap64 (wrap64 (ib - b) - d))) (by simp [results, Tryd.results24, go_sem, t_0, t_1, r_0, r_1, t_l, r_l]) rfl ⟨by first | (rw [Hs.out]; done) | rfl, (by first | ((repeat (first | with_reducible exact hk | with_reducible refine Kept.alloc ?_ _ | with_reducible refine Kept.drew ?_ | with_reducible refine Kept.drewN ?_ _ | with_reducible refine Kept.set ?_ (by first | (simp; done) | (simp; omega) | omega) _)); done) | exact hk | exact (hk.alloc _) | exact ((hk.alloc _).alloc _) | exact (((hk.alloc _).alloc _).alloc _) | exact ((((hk.alloc _).alloc _).alloc _).alloc _) | exact (((((hk.alloc _).alloc _).alloc _).alloc _).alloc _) | exact ((((((hk.alloc _).alloc _).alloc _).alloc _).alloc _).alloc _) | (repeat (first | exact hk | refine Kept.alloc ?_ _ | refine Kept.drew ?_ | refine Kept.drewN ?_ _ | refine Kept.set ?_ (by first | (simp; done) | (simp; omega) | omega) _)))⟩
  case true.false =>
    have hk : Kept w w := Kept.refl w
    go_enter Tryd.func24, Tryd.ntmps24
    go_wp2_with fail
    refine with_boxes5 ?_
    intro X hX m i t z r
    have hsz := hk.size
    replace hk := hk.trans hX
    clear hX
    replace m_l := m.lt
    replace m_0 := m.at 0 _ rfl
    replace m_1 := m.at 1 _ rfl
    replace i_l := i.lt
    replace i_0 := i.at 0 _ rfl
    replace i_1 := i.at 1 _ rfl
    replace z_l := z.lt
    replace z_0 := z.at 0 _ rfl
    replace z_1 := z.at 1 _ rfl
    refine (geomFromFar_any _ _ _ _ (ht.kept hk)).mono ?_
    rintro e w1 ⟨rfl, hn⟩
    replace hk := hk.trans hn
    replace m := m.kept hn
    replace i := i.kept hn
    replace t := t.kept hn
    replace z := z.kept hn
    replace r := r.kept hn
    clear hn
    replace m_l := m.lt
    replace m_0 := m.at 0 _ rfl
    replace m_1 := m.at 1 _ rfl
    replace i_l := i.lt
    replace i_0 := i.at 0 _ rfl
    replace i_1 := i.at 1 _ rfl
    replace z_l := z.lt
    replace z_0 := z.at 0 _ rfl
    replace z_1 := z.at 1 _ rfl
    replace t_l := t.lt
    replace t_0 := t.at 0 _ rfl
    replace t_f0 := t.free 0
    replace t_1 := t.at 1 _ rfl
    replace t_f1 := t.free 1
    go_wp2_with fail
    refine with_set ?_
    intro X eX
    replace hk := (eX ▸ (hk.set (by first | (simp; done) | (simp; omega) | omega) _) : Kept w X)
    replace t : Own X _ _ #[.int .i64 (wrap64 (wrap64 (ia - a) - c)), .int .i64 b] := eX ▸ ((t.set 0 _).is (by rfl))
    replace m : Own X _ _ _ := eX ▸ (m.other (by first | omega | (simp; done) | (simp; omega)) _)
    replace i : Own X _ _ _ := eX ▸ (i.other (by first | omega | (simp; done) | (simp; omega)) _)
    replace z : Own X _ _ _ := eX ▸ (z.other (by first | omega | (simp; done) | (simp; omega)) _)
    replace r : Own X _ _ _ := eX ▸ (r.other (by first | omega | (simp; done) | (simp; omega)) _)
    clear eX
    replace m_l := m.lt
    replace m_0 := m.at 0 _ rfl
    replace m_1 := m.at 1 _ rfl
    replace i_l := i.lt
    replace i_0 := i.at 0 _ rfl
    replace i_1 := i.at 1 _ rfl
    replace z_l := z.lt
    replace z_0 := z.at 0 _ rfl
    replace z_1 := z.at 1 _ rfl
    go_wp2_with fail
    refine (geomFromFar_any _ _ _ _ (ht.kept hk)).mono ?_
    rintro e w1 ⟨rfl, hn⟩
    replace hk := hk.trans hn
    replace m := m.kept hn
    replace i := i.kept hn
    replace t := t.kept hn
    replace z := z.kept hn
    replace r := r.kept hn
    clear hn
    replace m_l := m.lt
    replace m_0 := m.at 0 _ rfl
    replace m_1 := m.at 1 _ rfl
    replace i_l := i.lt
    replace i_0 := i.at 0 _ rfl
    replace i_1 := i.at 1 _ rfl
    replace z_l := z.lt
    replace z_0 := z.at 0 _ rfl
    replace z_1 := z.at 1 _ rfl
    replace t_l := t.lt
    replace t_0 := t.at 0 _ rfl
    replace t_f0 := t.free 0
    replace t_1 := t.at 1 _ rfl
    replace t_f1 := t.free 1
    replace r_l := r.lt
    replace r_0 := r.at 0 _ rfl
    replace r_f0 := r.free 0
    replace r_1 := r.at 1 _ rfl
    replace r_f1 := r.free 1
    go_wp2
    exact bodyPost_ret (v := sizeV (wrap64 (wrap64 (ia - a) - c)) b) (by simp [results, Tryd.results24, go_sem, t_0, t_1, r_0, r_1, t_l, r_l]) rfl ⟨by first | (rw [Hs.out]; done) | rfl, (by first | ((repeat (first | with_reducible exact hk | with_reducible refine Kept.alloc ?_ _ | with_reducible refine Kept.drew ?_ | with_reducible refine Kept.drewN ?_ _ | with_reducible refine Kept.set ?_ (by first | (simp; done) | (simp; omega) | omega) _)); done) | exact hk | exact (hk.alloc _) | exact ((hk.alloc _).alloc _) | exact (((hk.alloc _).alloc _).alloc _) | exact ((((hk.alloc _).alloc _).alloc _).alloc _) | exact (((((hk.alloc _).alloc _).alloc _).alloc _).alloc _) | exact ((((((hk.alloc _).alloc _).alloc _).alloc _).alloc _).alloc _) | (repeat (first | exact hk | refine Kept.alloc ?_ _ | refine Kept.drew ?_ | refine Kept.drewN ?_ _ | refine Kept.set ?_ (by first | (simp; done) | (simp; omega) | omega) _)))⟩
  case true.true =>
    have hk : Kept w w := Kept.refl w
    go_enter Tryd.func24, Tryd.ntmps24
    go_wp2_with fail
    refine with_boxes5 ?_
    intro X hX m i t z r
    have hsz := hk.size
    replace hk := hk.trans hX
    clear hX
    replace m_l := m.lt
    replace m_0 := m.at 0 _ rfl
    replace m_1 := m.at 1 _ rfl
    replace i_l := i.lt
    replace i_0 := i.at 0 _ rfl
    replace i_1 := i.at 1 _ rfl
    replace z_l := z.lt
    replace z_0 := z.at 0 _ rfl
    replace z_1 := z.at 1 _ rfl
    refine (geomFromFar_any _ _ _ _ (ht.kept hk)).mono ?_
    rintro e w1 ⟨rfl, hn⟩
    replace hk := hk.trans hn
    replace m := m.kept hn
    replace i := i.kept hn
    replace t := t.kept hn
    replace z := z.kept hn
    replace r := r.kept hn
    clear hn
    replace m_l := m.lt
    replace m_0 := m.at 0 _ rfl
    replace m_1 := m.at 1 _ rfl
    replace i_l := i.lt
    replace i_0 := i.at 0 _ rfl
    replace i_1 := i.at 1 _ rfl
    replace z_l := z.lt
    replace z_0 := z.at 0 _ rfl
    replace z_1 := z.at 1 _ rfl
    replace t_l := t.lt
    replace t_0 := t.at 0 _ rfl
    replace t_f0 := t.free 0
    replace t_1 := t.at 1 _ rfl
    replace t_f1 := t.free 1
    go_wp2_with fail
    refine with_set ?_
    intro X eX
    replace hk := (eX ▸ (hk.set (by first | (simp; done) | (simp; omega) | omega) _) : Kept w X)
    replace t : Own X _ _ #[.int .i64 (wrap64 (wrap64 (ia - a) - c)), .int .i64 b] := eX ▸ ((t.set 0 _).is (by rfl))
    replace m : Own X _ _ _ := eX ▸ (m.other (by first | omega | (simp; done) | (simp; omega)) _)
    replace i : Own X _ _ _ := eX ▸ (i.other (by first | omega | (simp; done) | (simp; omega)) _)
    replace z : Own X _ _ _ := eX ▸ (z.other (by first | omega | (simp; done) | (simp; omega)) _)
    replace r : Own X _ _ _ := eX ▸ (r.other (by first | omega | (simp; done) | (simp; omega)) _)
    clear eX
    replace m_l := m.lt
    replace m_0 := m.at 0 _ rfl
    replace m_1 := m.at 1 _ rfl
    replace i_l := i.lt
    replace i_0 := i.at 0 _ rfl
    replace i_1 := i.at 1 _ rfl
    replace z_l := z.lt
    replace z_0 := z.at 0 _ rfl
    replace z_1 := z.at 1 _ rfl
    go_wp2_with fail
    refine (geomFromFar_any _ _ _ _ (ht.kept hk)).mono ?_
    rintro e w1 ⟨rfl, hn⟩
    replace hk := hk.trans hn
    replace m := m.kept hn
    replace i := i.kept hn
    replace t := t.kept hn
    replace z := z.kept hn
    replace r := r.kept hn
    clear hn
    replace m_l := m.lt
    replace m_0 := m.at 0 _ rfl
    replace m_1 := m.at 1 _ rfl
    replace i_l := i.lt
    replace i_0 := i.at 0 _ rfl
    replace i_1 := i.at 1 _ rfl
    replace z_l := z.lt
    replace z_0 := z.at 0 _ rfl
    replace z_1 := z.at 1 _ rfl
    replace t_l := t.lt
    replace t_0 := t.at 0 _ rfl
    replace t_f0 := t.free 0
    replace t_1 := t.at 1 _ rfl
    replace t_f1 := t.free 1
    replace r_l := r.lt
    replace r_0 := r.at 0 _ rfl
    replace r_f0 := r.free 0
    replace r_1 := r.at 1 _ rfl
    replace r_f1 := r.free 1
    go_wp2
    exact bodyPost_ret (v := sizeV (wrap64 (wrap64 (ia - a) - c)) (wrap64 (wrap64 (ib - b) - d))) (by simp [results, Tryd.results24, go_sem, t_0, t_1, r_0, r_1, t_l, r_l]) rfl ⟨by first | (rw [Hs.out]; done) | rfl, (by first | ((repeat (first | with_reducible exact hk | with_reducible refine Kept.alloc ?_ _ | with_reducible refine Kept.drew ?_ | with_reducible refine Kept.drewN ?_ _ | with_reducible refine Kept.set ?_ (by first | (simp; done) | (simp; omega) | omega) _)); done) | exact hk | exact (hk.alloc _) | exact ((hk.alloc _).alloc _) | exact (((hk.alloc _).alloc _).alloc _) | exact ((((hk.alloc _).alloc _).alloc _).alloc _) | exact (((((hk.alloc _).alloc _).alloc _).alloc _).alloc _) | exact ((((((hk.alloc _).alloc _).alloc _).alloc _).alloc _).alloc _) | (repeat (first | exact hk | refine Kept.alloc ?_ _ | refine Kept.drew ?_ | refine Kept.drewN ?_ _ | refine Kept.set ?_ (by first | (simp; done) | (simp; omega) | omega) _)))⟩
end Go.Proofs.YtbjkphelkfeliaaDoor
