/- Layer 3: any mode, numbers, rectangle, box: every call. -/
import Derived.Test.YtjehmhgafibgbaaDoorAwake3
import Derived.Test.YtjehmhgafibgbaaDoorGeomRefL
import Derived.Test.YtjehmhgafibgbaaDoorGeomRefP
import Derived.Test.YtjehmhgafibgbaaDoorGeomRefB2
namespace Go.Proofs.YtjehmhgafibgbaaDoor
open Go.RowKit
set_option linter.unusedSimpArgs false
set_option linter.unusedVariables false
set_option maxHeartbeats 4000000 in
theorem geoms_walk (wm di a b ia ib ra rb sa sb x y bw bh : Int) (x1 : -9223372036854775808 ≤ x) (x2 : x ≤ 9223372036854775807) (y1 : -9223372036854775808 ≤ y) (y2 : y ≤ 9223372036854775807) (w : World) (ht : Tab w) :
    Calls Tryd.prog 3 #[modeV wm di, .int .i64 a, .int .i64 b, sizeV ia ib, fourV ra rb sa sb, fourV x y bw bh] w fun e w' => e = .returned (.bool true) ∧ Kept w w' := by
  have hk : Kept w w := Kept.refl w
  go_enter Tryd.func3, Tryd.ntmps3
  go_wp2_with fail
  refine with_boxes4 ?_
  intro X hX m i r v
  have hsz := hk.size
  replace hk := hk.trans hX
  clear hX
  replace m_l := m.lt
  replace m_0 := m.at 0 _ rfl
  replace m_1 := m.at 1 _ rfl
  replace i_l := i.lt
  replace i_0 := i.at 0 _ rfl
  replace i_1 := i.at 1 _ rfl
  replace r_l := r.lt
  replace r_0 := r.at 0 _ rfl
  replace r_1 := r.at 1 _ rfl
  replace r_2 := r.at 2 _ rfl
  replace r_3 := r.at 3 _ rfl
  replace v_l := v.lt
  replace v_0 := v.at 0 _ rfl
  replace v_1 := v.at 1 _ rfl
  replace v_2 := v.at 2 _ rfl
  replace v_3 := v.at 3 _ rfl
  refine (geomLogical_any _ _ _ _ _).mono ?_
  rintro e w1 ⟨rfl, hn⟩
  replace hk := hk.trans hn
  replace m := m.kept hn
  replace i := i.kept hn
  replace r := r.kept hn
  replace v := v.kept hn
  clear hn
  replace m_l := m.lt
  replace m_0 := m.at 0 _ rfl
  replace m_1 := m.at 1 _ rfl
  replace i_l := i.lt
  replace i_0 := i.at 0 _ rfl
  replace i_1 := i.at 1 _ rfl
  replace r_l := r.lt
  replace r_0 := r.at 0 _ rfl
  replace r_1 := r.at 1 _ rfl
  replace r_2 := r.at 2 _ rfl
  replace r_3 := r.at 3 _ rfl
  replace v_l := v.lt
  replace v_0 := v.at 0 _ rfl
  replace v_1 := v.at 1 _ rfl
  replace v_2 := v.at 2 _ rfl
  replace v_3 := v.at 3 _ rfl
  go_wp2_with fail
  refine with_boxes1 ?_
  intro X hX s
  have hsz := hk.size
  replace hk := hk.trans hX
  replace m := m.kept hX
  replace i := i.kept hX
  replace r := r.kept hX
  replace v := v.kept hX
  clear hX
  replace m_l := m.lt
  replace m_0 := m.at 0 _ rfl
  replace m_1 := m.at 1 _ rfl
  replace i_l := i.lt
  replace i_0 := i.at 0 _ rfl
  replace i_1 := i.at 1 _ rfl
  replace r_l := r.lt
  replace r_0 := r.at 0 _ rfl
  replace r_1 := r.at 1 _ rfl
  replace r_2 := r.at 2 _ rfl
  replace r_3 := r.at 3 _ rfl
  replace v_l := v.lt
  replace v_0 := v.at 0 _ rfl
  replace v_1 := v.at 1 _ rfl
  replace v_2 := v.at 2 _ rfl
  replace v_3 := v.at 3 _ rfl
  replace s_l := s.lt
  replace s_0 := s.at 0 _ rfl
  replace s_1 := s.at 1 _ rfl
  refine (refLogical_any _ _ _ _ _).mono ?_
  rintro e w1 ⟨rfl, hn⟩
  replace hk := hk.trans hn
  replace m := m.kept hn
  replace i := i.kept hn
  replace r := r.kept hn
  replace v := v.kept hn
  replace s := s.kept hn
  clear hn
  replace m_l := m.lt
  replace m_0 := m.at 0 _ rfl
  replace m_1 := m.at 1 _ rfl
  replace i_l := i.lt
  replace i_0 := i.at 0 _ rfl
  replace i_1 := i.at 1 _ rfl
  replace r_l := r.lt
  replace r_0 := r.at 0 _ rfl
  replace r_1 := r.at 1 _ rfl
  replace r_2 := r.at 2 _ rfl
  replace r_3 := r.at 3 _ rfl
  replace v_l := v.lt
  replace v_0 := v.at 0 _ rfl
  replace v_1 := v.at 1 _ rfl
  replace v_2 := v.at 2 _ rfl
  replace v_3 := v.at 3 _ rfl
  replace s_l := s.lt
  replace s_0 := s.at 0 _ rfl
  replace s_1 := s.at 1 _ rfl
  generalize logS wm di a b = L at *
  go_wp2_with fail
  refine with_boxes1 ?_
  intro X hX t
  have hsz := hk.size
  replace hk := hk.trans hX
  replace m := m.kept hX
  replace i := i.kept hX
  replace r := r.kept hX
  replace v := v.kept hX
  replace s := s.kept hX
  clear hX
  replace m_l := m.lt
  replace m_0 := m.at 0 _ rfl
  replace m_1 := m.at 1 _ rfl
  replace i_l := i.lt
  replace i_0 := i.at 0 _ rfl
  replace i_1 := i.at 1 _ rfl
  replace r_l := r.lt
  replace r_0 := r.at 0 _ rfl
  replace r_1 := r.at 1 _ rfl
  replace r_2 := r.at 2 _ rfl
  replace r_3 := r.at 3 _ rfl
  replace v_l := v.lt
  replace v_0 := v.at 0 _ rfl
  replace v_1 := v.at 1 _ rfl
  replace v_2 := v.at 2 _ rfl
  replace v_3 := v.at 3 _ rfl
  replace s_l := s.lt
  replace s_0 := s.at 0 _ rfl
  replace s_1 := s.at 1 _ rfl
  replace t_l := t.lt
  replace t_0 := t.at 0 _ rfl
  replace t_1 := t.at 1 _ rfl
  refine (phys_any _ _ _ _ _ _ _ _ _ (ht.kept hk)).mono ?_
  rintro e w1 ⟨rfl, hn⟩
  replace hk := hk.trans hn
  replace m := m.kept hn
  replace i := i.kept hn
  replace r := r.kept hn
  replace v := v.kept hn
  replace s := s.kept hn
  replace t := t.kept hn
  clear hn
  replace m_l := m.lt
  replace m_0 := m.at 0 _ rfl
  replace m_1 := m.at 1 _ rfl
  replace i_l := i.lt
  replace i_0 := i.at 0 _ rfl
  replace i_1 := i.at 1 _ rfl
  replace r_l := r.lt
  replace r_0 := r.at 0 _ rfl
  replace r_1 := r.at 1 _ rfl
  replace r_2 := r.at 2 _ rfl
  replace r_3 := r.at 3 _ rfl
  replace v_l := v.lt
  replace v_0 := v.at 0 _ rfl
  replace v_1 := v.at 1 _ rfl
  replace v_2 := v.at 2 _ rfl
  replace v_3 := v.at 3 _ rfl
  replace s_l := s.lt
  replace s_0 := s.at 0 _ rfl
  replace s_1 := s.at 1 _ rfl
  replace t_l := t.lt
  replace t_0 := t.at 0 _ rfl
  replace t_1 := t.at 1 _ rfl
  go_wp2_with fail
  refine with_boxes1 ?_
  intro X hX p
  have hsz := hk.size
  replace hk := hk.trans hX
  replace m := m.kept hX
  replace i := i.kept hX
  replace r := r.kept hX
  replace v := v.kept hX
  replace s := s.kept hX
  replace t := t.kept hX
  clear hX
  replace m_l := m.lt
  replace m_0 := m.at 0 _ rfl
  replace m_1 := m.at 1 _ rfl
  replace i_l := i.lt
  replace i_0 := i.at 0 _ rfl
  replace i_1 := i.at 1 _ rfl
  replace r_l := r.lt
  replace r_0 := r.at 0 _ rfl
  replace r_1 := r.at 1 _ rfl
  replace r_2 := r.at 2 _ rfl
  replace r_3 := r.at 3 _ rfl
  replace v_l := v.lt
  replace v_0 := v.at 0 _ rfl
  replace v_1 := v.at 1 _ rfl
  replace v_2 := v.at 2 _ rfl
  replace v_3 := v.at 3 _ rfl
  replace s_l := s.lt
  replace s_0 := s.at 0 _ rfl
  replace s_1 := s.at 1 _ rfl
  replace t_l := t.lt
  replace t_0 := t.at 0 _ rfl
  replace t_1 := t.at 1 _ rfl
  replace p_l := p.lt
  replace p_0 := p.at 0 _ rfl
  replace p_1 := p.at 1 _ rfl
  replace p_2 := p.at 2 _ rfl
  replace p_3 := p.at 3 _ rfl
  refine (refPhys_any _ _ _ _ _ _ _ _ _).mono ?_
  rintro e w1 ⟨rfl, hn⟩
  replace hk := hk.trans hn
  replace m := m.kept hn
  replace i := i.kept hn
  replace r := r.kept hn
  replace v := v.kept hn
  replace s := s.kept hn
  replace t := t.kept hn
  replace p := p.kept hn
  clear hn
  replace m_l := m.lt
  replace m_0 := m.at 0 _ rfl
  replace m_1 := m.at 1 _ rfl
  replace i_l := i.lt
  replace i_0 := i.at 0 _ rfl
  replace i_1 := i.at 1 _ rfl
  replace r_l := r.lt
  replace r_0 := r.at 0 _ rfl
  replace r_1 := r.at 1 _ rfl
  replace r_2 := r.at 2 _ rfl
  replace r_3 := r.at 3 _ rfl
  replace v_l := v.lt
  replace v_0 := v.at 0 _ rfl
  replace v_1 := v.at 1 _ rfl
  replace v_2 := v.at 2 _ rfl
  replace v_3 := v.at 3 _ rfl
  replace s_l := s.lt
  replace s_0 := s.at 0 _ rfl
  replace s_1 := s.at 1 _ rfl
  replace t_l := t.lt
  replace t_0 := t.at 0 _ rfl
  replace t_1 := t.at 1 _ rfl
  replace p_l := p.lt
  replace p_0 := p.at 0 _ rfl
  replace p_1 := p.at 1 _ rfl
  replace p_2 := p.at 2 _ rfl
  replace p_3 := p.at 3 _ rfl
  generalize physS wm di ia ib ra rb sa sb = P at *
  clear r
  clear r_l r_0 r_1 r_2 r_3
  go_wp2_with fail
  refine with_boxes1 ?_
  intro X hX q
  have hsz := hk.size
  replace hk := hk.trans hX
  replace m := m.kept hX
  replace i := i.kept hX
  replace v := v.kept hX
  replace s := s.kept hX
  replace t := t.kept hX
  replace p := p.kept hX
  clear hX
  replace m_l := m.lt
  replace m_0 := m.at 0 _ rfl
  replace m_1 := m.at 1 _ rfl
  replace i_l := i.lt
  replace i_0 := i.at 0 _ rfl
  replace i_1 := i.at 1 _ rfl
  replace v_l := v.lt
  replace v_0 := v.at 0 _ rfl
  replace v_1 := v.at 1 _ rfl
  replace v_2 := v.at 2 _ rfl
  replace v_3 := v.at 3 _ rfl
  replace s_l := s.lt
  replace s_0 := s.at 0 _ rfl
  replace s_1 := s.at 1 _ rfl
  replace t_l := t.lt
  replace t_0 := t.at 0 _ rfl
  replace t_1 := t.at 1 _ rfl
  replace p_l := p.lt
  replace p_0 := p.at 0 _ rfl
  replace p_1 := p.at 1 _ rfl
  replace p_2 := p.at 2 _ rfl
  replace p_3 := p.at 3 _ rfl
  replace q_l := q.lt
  replace q_0 := q.at 0 _ rfl
  replace q_1 := q.at 1 _ rfl
  replace q_2 := q.at 2 _ rfl
  replace q_3 := q.at 3 _ rfl
  refine (back_any _ _ _ _ _ _ _ _ _ (ht.kept hk)).mono ?_
  rintro e w1 ⟨rfl, hn⟩
  replace hk := hk.trans hn
  replace m := m.kept hn
  replace i := i.kept hn
  replace v := v.kept hn
  replace s := s.kept hn
  replace t := t.kept hn
  replace p := p.kept hn
  replace q := q.kept hn
  clear hn
  replace m_l := m.lt
  replace m_0 := m.at 0 _ rfl
  replace m_1 := m.at 1 _ rfl
  replace i_l := i.lt
  replace i_0 := i.at 0 _ rfl
  replace i_1 := i.at 1 _ rfl
  replace v_l := v.lt
  replace v_0 := v.at 0 _ rfl
  replace v_1 := v.at 1 _ rfl
  replace v_2 := v.at 2 _ rfl
  replace v_3 := v.at 3 _ rfl
  replace s_l := s.lt
  replace s_0 := s.at 0 _ rfl
  replace s_1 := s.at 1 _ rfl
  replace t_l := t.lt
  replace t_0 := t.at 0 _ rfl
  replace t_1 := t.at 1 _ rfl
  replace p_l := p.lt
  replace p_0 := p.at 0 _ rfl
  replace p_1 := p.at 1 _ rfl
  replace p_2 := p.at 2 _ rfl
  replace p_3 := p.at 3 _ rfl
  replace q_l := q.lt
  replace q_0 := q.at 0 _ rfl
  replace q_1 := q.at 1 _ rfl
  replace q_2 := q.at 2 _ rfl
  replace q_3 := q.at 3 _ rfl
  go_wp2_with fail
  refine with_boxes1 ?_
  intro X hX c
  have hsz := hk.size
  replace hk := hk.trans hX
  replace m := m.kept hX
  replace i := i.kept hX
  replace v := v.kept hX
  replace s := s.kept hX
  replace t := t.kept hX
  replace p := p.kept hX
  replace q := q.kept hX
  clear hX
  replace m_l := m.lt
  replace m_0 := m.at 0 _ rfl
  replace m_1 := m.at 1 _ rfl
  replace i_l := i.lt
  replace i_0 := i.at 0 _ rfl
  replace i_1 := i.at 1 _ rfl
  replace v_l := v.lt
  replace v_0 := v.at 0 _ rfl
  replace v_1 := v.at 1 _ rfl
  replace v_2 := v.at 2 _ rfl
  replace v_3 := v.at 3 _ rfl
  replace s_l := s.lt
  replace s_0 := s.at 0 _ rfl
  replace s_1 := s.at 1 _ rfl
  replace t_l := t.lt
  replace t_0 := t.at 0 _ rfl
  replace t_1 := t.at 1 _ rfl
  replace p_l := p.lt
  replace p_0 := p.at 0 _ rfl
  replace p_1 := p.at 1 _ rfl
  replace p_2 := p.at 2 _ rfl
  replace p_3 := p.at 3 _ rfl
  replace q_l := q.lt
  replace q_0 := q.at 0 _ rfl
  replace q_1 := q.at 1 _ rfl
  replace q_2 := q.at 2 _ rfl
  replace q_3 := q.at 3 _ rfl
  replace c_l := c.lt
  replace c_0 := c.at 0 _ rfl
  replace c_1 := c.at 1 _ rfl
  replace c_2 := c.at 2 _ rfl
  replace c_3 := c.at 3 _ rfl
  refine (refBack_any _ _ _ _ _ _ _ _ _ x1 x2 y1 y2).mono ?_
  rintro e w1 ⟨rfl, hn⟩
  replace hk := hk.trans hn
  replace m := m.kept hn
  replace i := i.kept hn
  replace v := v.kept hn
  replace s := s.kept hn
  replace t := t.kept hn
  replace p := p.kept hn
  replace q := q.kept hn
  replace c := c.kept hn
  clear hn
  replace m_l := m.lt
  replace m_0 := m.at 0 _ rfl
  replace m_1 := m.at 1 _ rfl
  replace i_l := i.lt
  replace i_0 := i.at 0 _ rfl
  replace i_1 := i.at 1 _ rfl
  replace v_l := v.lt
  replace v_0 := v.at 0 _ rfl
  replace v_1 := v.at 1 _ rfl
  replace v_2 := v.at 2 _ rfl
  replace v_3 := v.at 3 _ rfl
  replace s_l := s.lt
  replace s_0 := s.at 0 _ rfl
  replace s_1 := s.at 1 _ rfl
  replace t_l := t.lt
  replace t_0 := t.at 0 _ rfl
  replace t_1 := t.at 1 _ rfl
  replace p_l := p.lt
  replace p_0 := p.at 0 _ rfl
  replace p_1 := p.at 1 _ rfl
  replace p_2 := p.at 2 _ rfl
  replace p_3 := p.at 3 _ rfl
  replace q_l := q.lt
  replace q_0 := q.at 0 _ rfl
  replace q_1 := q.at 1 _ rfl
  replace q_2 := q.at 2 _ rfl
  replace q_3 := q.at 3 _ rfl
  replace c_l := c.lt
  replace c_0 := c.at 0 _ rfl
  replace c_1 := c.at 1 _ rfl
  replace c_2 := c.at 2 _ rfl
  replace c_3 := c.at 3 _ rfl
  generalize backS wm di ia ib x y bw bh = B at *
  clear m i v
  clear m_l m_0 m_1
  clear i_l i_0 i_1
  clear v_l v_0 v_1 v_2 v_3
  go_wp2_with fail
  refine with_boxes1 ?_
  intro X hX d
  have hsz := hk.size
  replace hk := hk.trans hX
  replace s := s.kept hX
  replace t := t.kept hX
  replace p := p.kept hX
  replace q := q.kept hX
  replace c := c.kept hX
  clear hX
  replace s_l := s.lt
  replace s_0 := s.at 0 _ rfl
  replace s_1 := s.at 1 _ rfl
  replace t_l := t.lt
  replace t_0 := t.at 0 _ rfl
  replace t_1 := t.at 1 _ rfl
  replace p_l := p.lt
  replace p_0 := p.at 0 _ rfl
  replace p_1 := p.at 1 _ rfl
  replace p_2 := p.at 2 _ rfl
  replace p_3 := p.at 3 _ rfl
  replace q_l := q.lt
  replace q_0 := q.at 0 _ rfl
  replace q_1 := q.at 1 _ rfl
  replace q_2 := q.at 2 _ rfl
  replace q_3 := q.at 3 _ rfl
  replace c_l := c.lt
  replace c_0 := c.at 0 _ rfl
  replace c_1 := c.at 1 _ rfl
  replace c_2 := c.at 2 _ rfl
  replace c_3 := c.at 3 _ rfl
  replace d_l := d.lt
  replace d_0 := d.at 0 _ rfl
  replace d_1 := d.at 1 _ rfl
  replace d_2 := d.at 2 _ rfl
  replace d_3 := d.at 3 _ rfl
  refine (num_any _ _).mono ?_
  rintro e w1 ⟨rfl, rfl⟩
  go_wp2_with fail
  refine (num_any _ _).mono ?_
  rintro e w1 ⟨rfl, rfl⟩
  go_wp2_with fail
  refine (num_any _ _).mono ?_
  rintro e w1 ⟨rfl, rfl⟩
  go_wp2_with fail
  refine (awake3_any _ (ht.kept hk)).mono ?_
  rintro e w1 ⟨rfl, hn⟩
  replace hk := hk.trans hn
  replace s := s.kept hn
  replace t := t.kept hn
  replace p := p.kept hn
  replace q := q.kept hn
  replace c := c.kept hn
  replace d := d.kept hn
  clear hn
  replace s_l := s.lt
  replace s_0 := s.at 0 _ rfl
  replace s_1 := s.at 1 _ rfl
  replace t_l := t.lt
  replace t_0 := t.at 0 _ rfl
  replace t_1 := t.at 1 _ rfl
  replace p_l := p.lt
  replace p_0 := p.at 0 _ rfl
  replace p_1 := p.at 1 _ rfl
  replace p_2 := p.at 2 _ rfl
  replace p_3 := p.at 3 _ rfl
  replace q_l := q.lt
  replace q_0 := q.at 0 _ rfl
  replace q_1 := q.at 1 _ rfl
  replace q_2 := q.at 2 _ rfl
  replace q_3 := q.at 3 _ rfl
  replace c_l := c.lt
  replace c_0 := c.at 0 _ rfl
  replace c_1 := c.at 1 _ rfl
  replace c_2 := c.at 2 _ rfl
  replace c_3 := c.at 3 _ rfl
  replace d_l := d.lt
  replace d_0 := d.at 0 _ rfl
  replace d_1 := d.at 1 _ rfl
  replace d_2 := d.at 2 _ rfl
  replace d_3 := d.at 3 _ rfl
  go_wp2
  go_ret
  exact ⟨rfl, (by first | ((repeat (first | with_reducible exact hk | with_reducible refine Kept.alloc ?_ _ | with_reducible refine Kept.drew ?_ | with_reducible refine Kept.drewN ?_ _ | with_reducible refine Kept.set ?_ (by first | (simp; done) | (simp; omega) | omega) _)); done) | exact hk | exact (hk.alloc _) | exact ((hk.alloc _).alloc _) | exact (((hk.alloc _).alloc _).alloc _) | exact ((((hk.alloc _).alloc _).alloc _).alloc _) | exact (((((hk.alloc _).alloc _).alloc _).alloc _).alloc _) | exact ((((((hk.alloc _).alloc _).alloc _).alloc _).alloc _).alloc _) | (repeat (first | exact hk | refine Kept.alloc ?_ _ | refine Kept.drew ?_ | refine Kept.drewN ?_ _ | refine Kept.set ?_ (by first | (simp; done) | (simp; omega) | omega) _)))⟩
end Go.Proofs.YtjehmhgafibgbaaDoor
