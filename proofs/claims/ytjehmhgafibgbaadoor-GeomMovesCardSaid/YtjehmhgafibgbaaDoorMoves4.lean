/- Layer 3: a rectangle that is moved is moved by as much. -/
import Derived.Test.YtjehmhgafibgbaaDoorAwake3
import Derived.Test.YtjehmhgafibgbaaDoorMask
import Derived.Deep.QuietTactic
import Derived.BigQuiet
import Derived.BigRegion
import Derived.Test.YtjehmhgafibgbaaDoorRefMode
import Derived.Deep.CutRange
namespace Go.Proofs.YtjehmhgafibgbaaDoor
open Go.RowKit
set_option linter.unusedSimpArgs false
set_option linter.unusedVariables false
set_option maxRecDepth 20000 in
set_option maxHeartbeats 4000000 in
theorem moves_4 (wm di a b x y by_ px py pw ph qy ox d : Int) (p1 : -4294967296 ≤ px ∧ px ≤ 4294967296) (p2 : -4294967296 ≤ py ∧ py ≤ 4294967296) (hd : 0 < d) (hd2 : d ≤ 255) (hq : qy - py = d) (ho : ox - px = d) (hby : bits .and .i64 by_ 255 = d) (hx : bits .and .i64 x 255 = a) (a1 : 0 ≤ a) (a2 : a ≤ 255) (hy : bits .and .i64 y 255 = b) (b1 : 0 ≤ b) (b2 : b ≤ 255)
    (e1 : physS wm di 500 300 a b 20 10 = ((px, py, pw, ph), 0)) (e2 : physS wm di 500 300 (a + d) b 20 10 = ((px, qy, pw, ph), 0)) (e3 : physS wm di 500 300 a (b + d) 20 10 = ((ox, py, pw, ph), 0)) (hv : vertB wm di = true) (w : World) (ht : Tab w) :
    Calls Tryd.prog 7 #[modeV wm di, .int .i64 x, .int .i64 y, .int .i64 by_] w fun e w' => e = .returned (.bool true) ∧ Kept w w' := by
  have hk : Kept w w := Kept.refl w
  go_enter Tryd.func7, Tryd.ntmps7
  go_wp2_with fail
  refine with_boxes1 ?_
  intro X hX m
  have hsz := hk.size
  replace hk := hk.trans hX
  clear hX
  replace m_l := m.lt
  replace m_0 := m.at 0 _ rfl
  replace m_1 := m.at 1 _ rfl
  refine (awake3_any _ (ht.kept hk)).mono ?_
  rintro e w1 ⟨rfl, hn⟩
  replace hk := hk.trans hn
  replace m := m.kept hn
  clear hn
  replace m_l := m.lt
  replace m_0 := m.at 0 _ rfl
  replace m_1 := m.at 1 _ rfl
  go_wp2_with fail
  refine with_boxes2 ?_
  intro X hX i r
  have hsz := hk.size
  replace hk := hk.trans hX
  replace m := m.kept hX
  clear hX
  replace m_l := m.lt
  replace m_0 := m.at 0 _ rfl
  replace m_1 := m.at 1 _ rfl
  replace i_l := i.lt
  replace i_0 := i.at 0 _ rfl
  replace i_1 := i.at 1 _ rfl
  replace r_l := r.lt
  replace r_0 := r.at 0 _ rfl
  replace r_1 := r.at 1 _ rfl
  replace r_2 := r.at 2 _ rfl
  replace r_3 := r.at 3 _ rfl
  refine (phys_any _ _ _ _ _ _ _ _ _ (ht.kept hk)).mono ?_
  rintro e w1 ⟨rfl, hn⟩
  replace hk := hk.trans hn
  replace m := m.kept hn
  replace i := i.kept hn
  replace r := r.kept hn
  clear hn
  replace m_l := m.lt
  replace m_0 := m.at 0 _ rfl
  replace m_1 := m.at 1 _ rfl
  replace i_l := i.lt
  replace i_0 := i.at 0 _ rfl
  replace i_1 := i.at 1 _ rfl
  replace r_l := r.lt
  replace r_0 := r.at 0 _ rfl
  replace r_1 := r.at 1 _ rfl
  replace r_2 := r.at 2 _ rfl
  replace r_3 := r.at 3 _ rfl
  go_wp2_with fail
  refine with_boxes1 ?_
  intro X hX p
  have hsz := hk.size
  replace hk := hk.trans hX
  replace m := m.kept hX
  replace i := i.kept hX
  replace r := r.kept hX
  clear hX
  replace m_l := m.lt
  replace m_0 := m.at 0 _ rfl
  replace m_1 := m.at 1 _ rfl
  replace i_l := i.lt
  replace i_0 := i.at 0 _ rfl
  replace i_1 := i.at 1 _ rfl
  replace r_l := r.lt
  replace r_0 := r.at 0 _ rfl
  replace r_1 := r.at 1 _ rfl
  replace r_2 := r.at 2 _ rfl
  replace r_3 := r.at 3 _ rfl
  replace p_l := p.lt
  replace p_0 := p.at 0 _ rfl
  replace p_1 := p.at 1 _ rfl
  replace p_2 := p.at 2 _ rfl
  replace p_3 := p.at 3 _ rfl
  refine (num_any _ _).mono ?_
  rintro e w1 ⟨rfl, rfl⟩
  go_wp2_with fail
  obtain ⟨wq, rfl⟩ : ∃ wq : World, wq = X := ⟨_, rfl⟩
  go_cut [14, 15] from 49 to 50 (fun ss st wx => ∃ s t : Nat, ss = .pointer (some ⟨s, 0, none⟩) ∧ st = .pointer (some ⟨t, 0, none⟩) ∧ s ≠ t ∧ wq.heap.size ≤ s ∧ wq.heap.size ≤ t ∧ Kept wq wx ∧ Own wx s 27 #[.int .i64 a, .int .i64 b, .int .i64 20, .int .i64 10] ∧ Own wx t 27 #[.int .i64 a, .int .i64 b, .int .i64 20, .int .i64 10])
  case first =>
    clear e1 e2 e3
    go_region
    · go_wp2_with fail
      go_meet
      exact ⟨_, _, rfl, rfl, by simp, by simp, by simp, (((Kept.refl _).alloc _).alloc _).drew, ((Own.at_ _ _ _ rfl).alloc _).drew, (Own.at_ _ _ _ (by simp)).drew⟩
    · go_wp2_with fail
      go_meet
      exact ⟨_, _, rfl, rfl, by simp, by simp, by simp, (((Kept.refl _).alloc _).alloc _).drew, (Own.at_ _ _ _ (by simp)).drew, ((Own.at_ _ _ _ rfl).alloc _).drew⟩
  case rest =>
    obtain ⟨s, t, rfl, rfl, hst, hs, htt, hn, s', t'⟩ := hcut
    have hw := hk.size
    have hml := m.lt
    have hpl := p.lt
    have hil := i.lt
    have hrl := r.lt
    replace hk := hk.trans hn
    replace m := m.kept hn
    replace i := i.kept hn
    replace r := r.kept hn
    replace p := p.kept hn
    clear hn
    rename Own _ s _ _ => sb
    rename Own _ t _ _ => tb
    replace m_l := m.lt
    replace m_0 := m.at 0 _ rfl
    replace m_1 := m.at 1 _ rfl
    replace i_l := i.lt
    replace i_0 := i.at 0 _ rfl
    replace i_1 := i.at 1 _ rfl
    replace r_l := r.lt
    replace r_0 := r.at 0 _ rfl
    replace r_1 := r.at 1 _ rfl
    replace r_2 := r.at 2 _ rfl
    replace r_3 := r.at 3 _ rfl
    replace p_l := p.lt
    replace p_0 := p.at 0 _ rfl
    replace p_1 := p.at 1 _ rfl
    replace p_2 := p.at 2 _ rfl
    replace p_3 := p.at 3 _ rfl
    replace sb_l := sb.lt
    replace sb_0 := sb.at 0 _ rfl
    replace sb_f0 := sb.free 0
    replace sb_1 := sb.at 1 _ rfl
    replace sb_f1 := sb.free 1
    replace sb_2 := sb.at 2 _ rfl
    replace sb_f2 := sb.free 2
    replace sb_3 := sb.at 3 _ rfl
    replace sb_f3 := sb.free 3
    replace tb_l := tb.lt
    replace tb_0 := tb.at 0 _ rfl
    replace tb_f0 := tb.free 0
    replace tb_1 := tb.at 1 _ rfl
    replace tb_f1 := tb.free 1
    replace tb_2 := tb.at 2 _ rfl
    replace tb_f2 := tb.free 2
    replace tb_3 := tb.at 3 _ rfl
    replace tb_f3 := tb.free 3
    go_wp2_with fail
    refine with_eq ?_
    intro X eX
    have hsz := hk.size
    replace hk := (eX ▸ (by first | ((repeat (first | with_reducible exact hk | with_reducible refine Kept.alloc ?_ _ | with_reducible refine Kept.drew ?_ | with_reducible refine Kept.drewN ?_ _ | with_reducible refine Kept.set ?_ (by first | (simp; done) | (simp; omega) | omega) _)); done) | exact hk | exact (hk.alloc _) | exact ((hk.alloc _).alloc _) | exact (((hk.alloc _).alloc _).alloc _) | exact ((((hk.alloc _).alloc _).alloc _).alloc _) | exact (((((hk.alloc _).alloc _).alloc _).alloc _).alloc _) | exact ((((((hk.alloc _).alloc _).alloc _).alloc _).alloc _).alloc _) | (repeat (first | exact hk | refine Kept.alloc ?_ _ | refine Kept.drew ?_ | refine Kept.drewN ?_ _ | refine Kept.set ?_ (by first | (simp; done) | (simp; omega) | omega) _))) : Kept w X)
    replace m := m.same (X := X) (by rw [eX]; repeat (first | with_reducible rfl | with_reducible refine (Below.heap_setCell _ _ _ _ (by first | omega | (simp; done) | (simp; omega))).trans ?_ | with_reducible refine (heap_drew_ _ _).trans ?_ | with_reducible refine (heap_drewN_ _ _ _).trans ?_))
    replace i := i.same (X := X) (by rw [eX]; repeat (first | with_reducible rfl | with_reducible refine (Below.heap_setCell _ _ _ _ (by first | omega | (simp; done) | (simp; omega))).trans ?_ | with_reducible refine (heap_drew_ _ _).trans ?_ | with_reducible refine (heap_drewN_ _ _ _).trans ?_))
    replace r := r.same (X := X) (by rw [eX]; repeat (first | with_reducible rfl | with_reducible refine (Below.heap_setCell _ _ _ _ (by first | omega | (simp; done) | (simp; omega))).trans ?_ | with_reducible refine (heap_drew_ _ _).trans ?_ | with_reducible refine (heap_drewN_ _ _ _).trans ?_))
    replace p := p.same (X := X) (by rw [eX]; repeat (first | with_reducible rfl | with_reducible refine (Below.heap_setCell _ _ _ _ (by first | omega | (simp; done) | (simp; omega))).trans ?_ | with_reducible refine (heap_drew_ _ _).trans ?_ | with_reducible refine (heap_drewN_ _ _ _).trans ?_))
    replace sb : Own X _ _ #[.int .i64 (a + d), .int .i64 b, .int .i64 20, .int .i64 10] := eX ▸ (((sb.set 0 _).other (by first | omega | (simp; done) | (simp; omega)) _).is (by rfl))
    replace tb : Own X _ _ #[.int .i64 a, .int .i64 (b + d), .int .i64 20, .int .i64 10] := eX ▸ (((tb.other (by first | omega | (simp; done) | (simp; omega)) _).set 1 _).is (by rfl))
    clear eX
    replace m_l := m.lt
    replace m_0 := m.at 0 _ rfl
    replace m_1 := m.at 1 _ rfl
    replace i_l := i.lt
    replace i_0 := i.at 0 _ rfl
    replace i_1 := i.at 1 _ rfl
    replace r_l := r.lt
    replace r_0 := r.at 0 _ rfl
    replace r_1 := r.at 1 _ rfl
    replace r_2 := r.at 2 _ rfl
    replace r_3 := r.at 3 _ rfl
    replace p_l := p.lt
    replace p_0 := p.at 0 _ rfl
    replace p_1 := p.at 1 _ rfl
    replace p_2 := p.at 2 _ rfl
    replace p_3 := p.at 3 _ rfl
    go_wp2_with fail
    refine (phys_any _ _ _ _ _ _ _ _ _ (ht.kept hk)).mono ?_
    rintro e w1 ⟨rfl, hn⟩
    replace hk := hk.trans hn
    replace m := m.kept hn
    replace i := i.kept hn
    replace r := r.kept hn
    replace p := p.kept hn
    replace sb := sb.kept hn
    replace tb := tb.kept hn
    clear hn
    replace m_l := m.lt
    replace m_0 := m.at 0 _ rfl
    replace m_1 := m.at 1 _ rfl
    replace i_l := i.lt
    replace i_0 := i.at 0 _ rfl
    replace i_1 := i.at 1 _ rfl
    replace r_l := r.lt
    replace r_0 := r.at 0 _ rfl
    replace r_1 := r.at 1 _ rfl
    replace r_2 := r.at 2 _ rfl
    replace r_3 := r.at 3 _ rfl
    replace p_l := p.lt
    replace p_0 := p.at 0 _ rfl
    replace p_1 := p.at 1 _ rfl
    replace p_2 := p.at 2 _ rfl
    replace p_3 := p.at 3 _ rfl
    clear sb
    replace tb_l := tb.lt
    replace tb_0 := tb.at 0 _ rfl
    replace tb_f0 := tb.free 0
    replace tb_1 := tb.at 1 _ rfl
    replace tb_f1 := tb.free 1
    replace tb_2 := tb.at 2 _ rfl
    replace tb_f2 := tb.free 2
    replace tb_3 := tb.at 3 _ rfl
    replace tb_f3 := tb.free 3
    go_wp2_with fail
    refine with_boxes1 ?_
    intro X hX q
    have hsz := hk.size
    replace hk := hk.trans hX
    replace m := m.kept hX
    replace i := i.kept hX
    replace r := r.kept hX
    replace p := p.kept hX
    replace tb := tb.kept hX
    clear hX
    replace m_l := m.lt
    replace m_0 := m.at 0 _ rfl
    replace m_1 := m.at 1 _ rfl
    replace i_l := i.lt
    replace i_0 := i.at 0 _ rfl
    replace i_1 := i.at 1 _ rfl
    replace r_l := r.lt
    replace r_0 := r.at 0 _ rfl
    replace r_1 := r.at 1 _ rfl
    replace r_2 := r.at 2 _ rfl
    replace r_3 := r.at 3 _ rfl
    replace p_l := p.lt
    replace p_0 := p.at 0 _ rfl
    replace p_1 := p.at 1 _ rfl
    replace p_2 := p.at 2 _ rfl
    replace p_3 := p.at 3 _ rfl
    replace q_l := q.lt
    replace q_0 := q.at 0 _ rfl
    replace q_1 := q.at 1 _ rfl
    replace q_2 := q.at 2 _ rfl
    replace q_3 := q.at 3 _ rfl
    refine (phys_any _ _ _ _ _ _ _ _ _ (ht.kept hk)).mono ?_
    rintro e w1 ⟨rfl, hn⟩
    replace hk := hk.trans hn
    replace m := m.kept hn
    replace i := i.kept hn
    replace r := r.kept hn
    replace p := p.kept hn
    replace tb := tb.kept hn
    replace q := q.kept hn
    clear hn
    replace m_l := m.lt
    replace m_0 := m.at 0 _ rfl
    replace m_1 := m.at 1 _ rfl
    replace i_l := i.lt
    replace i_0 := i.at 0 _ rfl
    replace i_1 := i.at 1 _ rfl
    replace r_l := r.lt
    replace r_0 := r.at 0 _ rfl
    replace r_1 := r.at 1 _ rfl
    replace r_2 := r.at 2 _ rfl
    replace r_3 := r.at 3 _ rfl
    replace p_l := p.lt
    replace p_0 := p.at 0 _ rfl
    replace p_1 := p.at 1 _ rfl
    replace p_2 := p.at 2 _ rfl
    replace p_3 := p.at 3 _ rfl
    replace q_l := q.lt
    replace q_0 := q.at 0 _ rfl
    replace q_1 := q.at 1 _ rfl
    replace q_2 := q.at 2 _ rfl
    replace q_3 := q.at 3 _ rfl
    go_wp2_with fail
    refine code_boxes1 ?_
    intro X hX o
    have hsz := hk.size
    replace hk := hk.trans hX
    replace m := m.kept hX
    replace i := i.kept hX
    replace r := r.kept hX
    replace p := p.kept hX
    replace tb := tb.kept hX
    replace q := q.kept hX
    clear hX
    replace m_l := m.lt
    replace m_0 := m.at 0 _ rfl
    replace m_1 := m.at 1 _ rfl
    replace i_l := i.lt
    replace i_0 := i.at 0 _ rfl
    replace i_1 := i.at 1 _ rfl
    replace r_l := r.lt
    replace r_0 := r.at 0 _ rfl
    replace r_1 := r.at 1 _ rfl
    replace r_2 := r.at 2 _ rfl
    replace r_3 := r.at 3 _ rfl
    replace p_l := p.lt
    replace p_0 := p.at 0 _ rfl
    replace p_1 := p.at 1 _ rfl
    replace p_2 := p.at 2 _ rfl
    replace p_3 := p.at 3 _ rfl
    replace q_l := q.lt
    replace q_0 := q.at 0 _ rfl
    replace q_1 := q.at 1 _ rfl
    replace q_2 := q.at 2 _ rfl
    replace q_3 := q.at 3 _ rfl
    replace o_l := o.lt
    replace o_0 := o.at 0 _ rfl
    replace o_1 := o.at 1 _ rfl
    replace o_2 := o.at 2 _ rfl
    replace o_3 := o.at 3 _ rfl
    clear e1 e2 e3
    go_quiet (fail)
    go_wp2
    go_quiet (fail)
    go_wp2_with fail
    refine with_eq ?_
    intro X eX
    have hsz := hk.size
    replace hk := (eX ▸ (by first | ((repeat (first | with_reducible exact hk | with_reducible refine Kept.alloc ?_ _ | with_reducible refine Kept.drew ?_ | with_reducible refine Kept.drewN ?_ _ | with_reducible refine Kept.set ?_ (by first | (simp; done) | (simp; omega) | omega) _)); done) | exact hk | exact (hk.alloc _) | exact ((hk.alloc _).alloc _) | exact (((hk.alloc _).alloc _).alloc _) | exact ((((hk.alloc _).alloc _).alloc _).alloc _) | exact (((((hk.alloc _).alloc _).alloc _).alloc _).alloc _) | exact ((((((hk.alloc _).alloc _).alloc _).alloc _).alloc _).alloc _) | (repeat (first | exact hk | refine Kept.alloc ?_ _ | refine Kept.drew ?_ | refine Kept.drewN ?_ _ | refine Kept.set ?_ (by first | (simp; done) | (simp; omega) | omega) _))) : Kept w X)
    replace m := m.same (X := X) (by rw [eX]; repeat (first | with_reducible rfl | with_reducible refine (Below.heap_setCell _ _ _ _ (by first | omega | (simp; done) | (simp; omega))).trans ?_ | with_reducible refine (heap_drew_ _ _).trans ?_ | with_reducible refine (heap_drewN_ _ _ _).trans ?_))
    replace i := i.same (X := X) (by rw [eX]; repeat (first | with_reducible rfl | with_reducible refine (Below.heap_setCell _ _ _ _ (by first | omega | (simp; done) | (simp; omega))).trans ?_ | with_reducible refine (heap_drew_ _ _).trans ?_ | with_reducible refine (heap_drewN_ _ _ _).trans ?_))
    replace r := r.same (X := X) (by rw [eX]; repeat (first | with_reducible rfl | with_reducible refine (Below.heap_setCell _ _ _ _ (by first | omega | (simp; done) | (simp; omega))).trans ?_ | with_reducible refine (heap_drew_ _ _).trans ?_ | with_reducible refine (heap_drewN_ _ _ _).trans ?_))
    replace p := p.same (X := X) (by rw [eX]; repeat (first | with_reducible rfl | with_reducible refine (Below.heap_setCell _ _ _ _ (by first | omega | (simp; done) | (simp; omega))).trans ?_ | with_reducible refine (heap_drew_ _ _).trans ?_ | with_reducible refine (heap_drewN_ _ _ _).trans ?_))
    replace tb := tb.same (X := X) (by rw [eX]; repeat (first | with_reducible rfl | with_reducible refine (Below.heap_setCell _ _ _ _ (by first | omega | (simp; done) | (simp; omega))).trans ?_ | with_reducible refine (heap_drew_ _ _).trans ?_ | with_reducible refine (heap_drewN_ _ _ _).trans ?_))
    replace q := q.same (X := X) (by rw [eX]; repeat (first | with_reducible rfl | with_reducible refine (Below.heap_setCell _ _ _ _ (by first | omega | (simp; done) | (simp; omega))).trans ?_ | with_reducible refine (heap_drew_ _ _).trans ?_ | with_reducible refine (heap_drewN_ _ _ _).trans ?_))
    replace o := o.same (X := X) (by rw [eX]; repeat (first | with_reducible rfl | with_reducible refine (Below.heap_setCell _ _ _ _ (by first | omega | (simp; done) | (simp; omega))).trans ?_ | with_reducible refine (heap_drew_ _ _).trans ?_ | with_reducible refine (heap_drewN_ _ _ _).trans ?_))
    clear eX
    replace m_l := m.lt
    replace m_0 := m.at 0 _ rfl
    replace m_1 := m.at 1 _ rfl
    replace i_l := i.lt
    replace i_0 := i.at 0 _ rfl
    replace i_1 := i.at 1 _ rfl
    replace r_l := r.lt
    replace r_0 := r.at 0 _ rfl
    replace r_1 := r.at 1 _ rfl
    replace r_2 := r.at 2 _ rfl
    replace r_3 := r.at 3 _ rfl
    replace p_l := p.lt
    replace p_0 := p.at 0 _ rfl
    replace p_1 := p.at 1 _ rfl
    replace p_2 := p.at 2 _ rfl
    replace p_3 := p.at 3 _ rfl
    replace q_l := q.lt
    replace q_0 := q.at 0 _ rfl
    replace q_1 := q.at 1 _ rfl
    replace q_2 := q.at 2 _ rfl
    replace q_3 := q.at 3 _ rfl
    replace o_l := o.lt
    replace o_0 := o.at 0 _ rfl
    replace o_1 := o.at 1 _ rfl
    replace o_2 := o.at 2 _ rfl
    replace o_3 := o.at 3 _ rfl
    go_wp2_with fail
    refine (refVertical_any _ _ _).mono ?_
    rintro e w1 ⟨rfl, hn⟩
    replace hk := hk.trans hn
    replace m := m.kept hn
    replace i := i.kept hn
    replace r := r.kept hn
    replace p := p.kept hn
    replace tb := tb.kept hn
    replace q := q.kept hn
    replace o := o.kept hn
    clear hn
    replace m_l := m.lt
    replace m_0 := m.at 0 _ rfl
    replace m_1 := m.at 1 _ rfl
    replace i_l := i.lt
    replace i_0 := i.at 0 _ rfl
    replace i_1 := i.at 1 _ rfl
    replace r_l := r.lt
    replace r_0 := r.at 0 _ rfl
    replace r_1 := r.at 1 _ rfl
    replace r_2 := r.at 2 _ rfl
    replace r_3 := r.at 3 _ rfl
    replace p_l := p.lt
    replace p_0 := p.at 0 _ rfl
    replace p_1 := p.at 1 _ rfl
    replace p_2 := p.at 2 _ rfl
    replace p_3 := p.at 3 _ rfl
    replace q_l := q.lt
    replace q_0 := q.at 0 _ rfl
    replace q_1 := q.at 1 _ rfl
    replace q_2 := q.at 2 _ rfl
    replace q_3 := q.at 3 _ rfl
    replace o_l := o.lt
    replace o_0 := o.at 0 _ rfl
    replace o_1 := o.at 1 _ rfl
    replace o_2 := o.at 2 _ rfl
    replace o_3 := o.at 3 _ rfl
    go_wp2_with fail
    refine (num_any _ _).mono ?_
    rintro e w1 ⟨rfl, rfl⟩
    go_wp2_with fail
    refine (num_any _ _).mono ?_
    rintro e w1 ⟨rfl, rfl⟩
    go_wp2
    go_ret
    exact ⟨rfl, (by first | ((repeat (first | with_reducible exact hk | with_reducible refine Kept.alloc ?_ _ | with_reducible refine Kept.drew ?_ | with_reducible refine Kept.drewN ?_ _ | with_reducible refine Kept.set ?_ (by first | (simp; done) | (simp; omega) | omega) _)); done) | exact hk | exact (hk.alloc _) | exact ((hk.alloc _).alloc _) | exact (((hk.alloc _).alloc _).alloc _) | exact ((((hk.alloc _).alloc _).alloc _).alloc _) | exact (((((hk.alloc _).alloc _).alloc _).alloc _).alloc _) | exact ((((((hk.alloc _).alloc _).alloc _).alloc _).alloc _).alloc _) | (repeat (first | exact hk | refine Kept.alloc ?_ _ | refine Kept.drew ?_ | refine Kept.drewN ?_ _ | refine Kept.set ?_ (by first | (simp; done) | (simp; omega) | omega) _)))⟩
end Go.Proofs.YtjehmhgafibgbaaDoor
