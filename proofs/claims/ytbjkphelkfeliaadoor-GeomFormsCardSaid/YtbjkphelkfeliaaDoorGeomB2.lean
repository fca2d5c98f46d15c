/- Layer 3: geometry: Back. -/
import Derived.Test.YtbjkphelkfeliaaDoorHeldBack
namespace Go.Proofs.YtbjkphelkfeliaaDoor
open Go.RowKit
set_option linter.unusedSimpArgs false
set_option linter.unusedVariables false
set_option maxHeartbeats 1000000 in
theorem back_false (wm di ia ib x y bw bh : Int) (w : World) (ht : Tab w) (h1 : modeMayB wm di = true) (h2 : sizedB ia ib = true) (h3 : sizedB bw bh = true) (h4 : farXB2 x y = true) (h9 : vertB wm di = false) :
    Calls Tryd.prog 12 #[modeV wm di, sizeV ia ib, fourV x y bw bh] w fun e w' => e = .returned (resV (backS wm di ia ib x y bw bh)) ∧ Kept w w' := by
  have hs : backS wm di ia ib x y bw bh = ((turnS (farB wm di 0) ia x bw, turnS (farB wm di 2) ib y bh, bw, bh), 0) := by unfold backS; rw [if_pos (by simp [backOkB, h1, h2, h3, h4]), h9]; rfl
  have Hs := Lib.hid hs
  clear hs
  have hk : Kept w w := Kept.refl w
  go_enter Tryd.func12, Tryd.ntmps12
  go_wp2_with fail
  refine with_boxes4 ?_
  intro X hX m i r o
  have hsz := hk.size
  replace hk := hk.trans hX
  clear hX
  replace m_l := m.lt
  replace m_0 := m.at 0 _ rfl
  replace m_1 := m.at 1 _ rfl
  replace i_l := i.lt
  replace i_0 := i.at 0 _ rfl
  replace i_1 := i.at 1 _ rfl
  replace r_l := r.lt
  replace r_0 := r.at 0 _ rfl
  replace r_1 := r.at 1 _ rfl
  replace r_2 := r.at 2 _ rfl
  replace r_3 := r.at 3 _ rfl
  refine (modeMay_any _ _ _).mono ?_
  rintro e w1 ⟨rfl, hn⟩
  replace hk := hk.trans hn
  replace m := m.kept hn
  replace i := i.kept hn
  replace r := r.kept hn
  replace o := o.kept hn
  clear hn
  replace m_l := m.lt
  replace m_0 := m.at 0 _ rfl
  replace m_1 := m.at 1 _ rfl
  replace i_l := i.lt
  replace i_0 := i.at 0 _ rfl
  replace i_1 := i.at 1 _ rfl
  replace r_l := r.lt
  replace r_0 := r.at 0 _ rfl
  replace r_1 := r.at 1 _ rfl
  replace r_2 := r.at 2 _ rfl
  replace r_3 := r.at 3 _ rfl
  go_wp2_with fail
  refine (geomSized_any _ _ _).mono ?_
  rintro e w1 ⟨rfl, hn⟩
  replace hk := hk.trans hn
  replace m := m.kept hn
  replace i := i.kept hn
  replace r := r.kept hn
  replace o := o.kept hn
  clear hn
  replace m_l := m.lt
  replace m_0 := m.at 0 _ rfl
  replace m_1 := m.at 1 _ rfl
  replace i_l := i.lt
  replace i_0 := i.at 0 _ rfl
  replace i_1 := i.at 1 _ rfl
  replace r_l := r.lt
  replace r_0 := r.at 0 _ rfl
  replace r_1 := r.at 1 _ rfl
  replace r_2 := r.at 2 _ rfl
  replace r_3 := r.at 3 _ rfl
  go_wp2_with fail
  refine with_boxes1 ?_
  intro X hX p
  have hsz := hk.size
  replace hk := hk.trans hX
  replace m := m.kept hX
  replace i := i.kept hX
  replace r := r.kept hX
  replace o := o.kept hX
  clear hX
  replace m_l := m.lt
  replace m_0 := m.at 0 _ rfl
  replace m_1 := m.at 1 _ rfl
  replace i_l := i.lt
  replace i_0 := i.at 0 _ rfl
  replace i_1 := i.at 1 _ rfl
  replace r_l := r.lt
  replace r_0 := r.at 0 _ rfl
  replace r_1 := r.at 1 _ rfl
  replace r_2 := r.at 2 _ rfl
  replace r_3 := r.at 3 _ rfl
  replace p_l := p.lt
  replace p_0 := p.at 0 _ rfl
  replace p_1 := p.at 1 _ rfl
  refine (eachSized_any _ _ _ _ p_0 p_1).mono ?_
  rintro e w1 ⟨rfl, rfl⟩
  clear p
  clear p_l p_0 p_1
  go_wp2_with fail
  refine with_boxes1 ?_
  intro X hX q
  have hsz := hk.size
  replace hk := hk.trans hX
  replace m := m.kept hX
  replace i := i.kept hX
  replace r := r.kept hX
  replace o := o.kept hX
  clear hX
  replace m_l := m.lt
  replace m_0 := m.at 0 _ rfl
  replace m_1 := m.at 1 _ rfl
  replace i_l := i.lt
  replace i_0 := i.at 0 _ rfl
  replace i_1 := i.at 1 _ rfl
  replace r_l := r.lt
  replace r_0 := r.at 0 _ rfl
  replace r_1 := r.at 1 _ rfl
  replace r_2 := r.at 2 _ rfl
  replace r_3 := r.at 3 _ rfl
  replace q_l := q.lt
  replace q_0 := q.at 0 _ rfl
  replace q_1 := q.at 1 _ rfl
  refine (eachFar_any _ _ _ _ q_0 q_1).mono ?_
  rintro e w1 ⟨rfl, rfl⟩
  clear q
  clear q_l q_0 q_1
  go_wp2_with fail
  obtain ⟨wq, rfl⟩ : ∃ wq : World, wq = X := ⟨_, rfl⟩
  have hoq := o.lt
  go_region
  clear r
  clear r_l r_0 r_1 r_2 r_3
  · skip
    go_wp2_with fail
    refine with_boxes2d ?_
    intro X hX a z
    have hsz := hk.size
    replace hk := hk.trans hX
    replace m := m.kept hX
    replace i := i.kept hX
    replace o := o.kept hX
    clear hX
    replace m_l := m.lt
    replace m_0 := m.at 0 _ rfl
    replace m_1 := m.at 1 _ rfl
    replace i_l := i.lt
    replace i_0 := i.at 0 _ rfl
    replace i_1 := i.at 1 _ rfl
    refine (modeVertical_any _ _ _).mono ?_
    rintro e w1 ⟨rfl, hn⟩
    replace hk := hk.trans hn
    replace m := m.kept hn
    replace i := i.kept hn
    replace o := o.kept hn
    replace a := a.kept hn
    replace z := z.kept hn
    clear hn
    replace m_l := m.lt
    replace m_0 := m.at 0 _ rfl
    replace m_1 := m.at 1 _ rfl
    replace i_l := i.lt
    replace i_0 := i.at 0 _ rfl
    replace i_1 := i.at 1 _ rfl
    go_wp2_with fail
    have hS := SB.call (SB.of hk m i a z o) ((Kept.refl w1).drew)
    have KC := Lib.hid (fun (W w1 : World) (h : SB w w.heap.size (w.heap.size + 1) wq.heap.size (wq.heap.size + 1) (w.heap.size + 1 + 1 + 1) wm di ia ib x y bw bh W) (k : Kept W w1) => h.call k)
    have KS := Lib.hid (fun (W : World) (j : Nat) (v : Value) (h : SB w w.heap.size (w.heap.size + 1) wq.heap.size (wq.heap.size + 1) (w.heap.size + 1 + 1 + 1) wm di ia ib x y bw bh W) => h.set (by omega) (by omega) (by omega) (by omega) (by omega) j v)
    clear m i a z o hk m_l m_0 m_1 i_l i_0 i_1
    go_region_held3 (fun W => Kept w W ∧ W.cell? ⟨w.heap.size, 0, none⟩ = some (.int .i64 wm) ∧ W.cell? ⟨w.heap.size, 1, none⟩ = some (.int .i64 di) ∧ W.cell? ⟨(w.heap.size + 1), 0, none⟩ = some (.int .i64 ia) ∧ W.cell? ⟨(w.heap.size + 1), 1, none⟩ = some (.int .i64 ib) ∧ W.cell? ⟨wq.heap.size, 0, none⟩ = some (.int .i64 x) ∧ W.cell? ⟨wq.heap.size, 1, none⟩ = some (.int .i64 y) ∧ W.cell? ⟨(wq.heap.size + 1), 0, none⟩ = some (.int .i64 bw) ∧ W.cell? ⟨(wq.heap.size + 1), 1, none⟩ = some (.int .i64 bh) ∧ w.heap.size < W.heap.size ∧ (w.heap.size + 1) < W.heap.size ∧ wq.heap.size < W.heap.size ∧ (wq.heap.size + 1) < W.heap.size ∧ (w.heap.size + 1 + 1 + 1) < W.heap.size ∧ W.cell? ⟨(w.heap.size + 1 + 1 + 1), 0, none⟩ = some (rd W ⟨(w.heap.size + 1 + 1 + 1), 0, none⟩) ∧ W.cell? ⟨(w.heap.size + 1 + 1 + 1), 1, none⟩ = some (rd W ⟨(w.heap.size + 1 + 1 + 1), 1, none⟩) ∧ W.cell? ⟨(w.heap.size + 1 + 1 + 1), 2, none⟩ = some (rd W ⟨(w.heap.size + 1 + 1 + 1), 2, none⟩) ∧ W.cell? ⟨(w.heap.size + 1 + 1 + 1), 3, none⟩ = some (rd W ⟨(w.heap.size + 1 + 1 + 1), 3, none⟩) ∧ W.frozen? ⟨(w.heap.size + 1 + 1 + 1), 0, none⟩ = false ∧ W.frozen? ⟨(w.heap.size + 1 + 1 + 1), 1, none⟩ = false ∧ W.frozen? ⟨(w.heap.size + 1 + 1 + 1), 2, none⟩ = false ∧ W.frozen? ⟨(w.heap.size + 1 + 1 + 1), 3, none⟩ = false)
      (first | exact hS | assumption | exact KC.out _ _ ‹Kept w _ ∧ _› hn | exact KS.out _ _ _ (KS.out _ _ _ (KS.out _ _ _ (KS.out _ _ _ ‹Kept w _ ∧ _›))))
      (first
        | (go_at_call 24; refine (geomTurn_any _ _ _ _ _ _ _ _ _ (ht.kept (‹Kept w _ ∧ _›).1)).mono ?_; rintro e w2 ⟨rfl, hn⟩; have hh2 := KC.out _ _ ‹Kept w _ ∧ _› hn; obtain ⟨k2, -, -, -, -, -, -, -, -, -, -, -, -, lo2, o20, o21, o22, o23, -, -, -, -⟩ := hh2))
    go_wp2
    exact bodyPost_ret (v := resV ((turnS (farB wm di 0) ia x bw, turnS (farB wm di 2) ib y bh, bw, bh), 0)) (by simp [results, Tryd.results12, go_sem, o20, o21, o22, o23, lo2]) rfl ⟨by first | (rw [Hs.out]; done) | rfl, (by repeat (first | with_reducible exact k2 | with_reducible refine Kept.set ?_ (by first | (simp; done) | (simp; omega) | omega) _))⟩
  · skip
    go_wp2_with fail
    refine with_boxes2d ?_
    intro X hX z a
    have hsz := hk.size
    replace hk := hk.trans hX
    replace m := m.kept hX
    replace i := i.kept hX
    replace o := o.kept hX
    clear hX
    replace m_l := m.lt
    replace m_0 := m.at 0 _ rfl
    replace m_1 := m.at 1 _ rfl
    replace i_l := i.lt
    replace i_0 := i.at 0 _ rfl
    replace i_1 := i.at 1 _ rfl
    refine (modeVertical_any _ _ _).mono ?_
    rintro e w1 ⟨rfl, hn⟩
    replace hk := hk.trans hn
    replace m := m.kept hn
    replace i := i.kept hn
    replace o := o.kept hn
    replace z := z.kept hn
    replace a := a.kept hn
    clear hn
    replace m_l := m.lt
    replace m_0 := m.at 0 _ rfl
    replace m_1 := m.at 1 _ rfl
    replace i_l := i.lt
    replace i_0 := i.at 0 _ rfl
    replace i_1 := i.at 1 _ rfl
    go_wp2_with fail
    have hS := SB.call (SB.of hk m i a z o) ((Kept.refl w1).drew)
    have KC := Lib.hid (fun (W w1 : World) (h : SB w w.heap.size (w.heap.size + 1) (wq.heap.size + 1) wq.heap.size (w.heap.size + 1 + 1 + 1) wm di ia ib x y bw bh W) (k : Kept W w1) => h.call k)
    have KS := Lib.hid (fun (W : World) (j : Nat) (v : Value) (h : SB w w.heap.size (w.heap.size + 1) (wq.heap.size + 1) wq.heap.size (w.heap.size + 1 + 1 + 1) wm di ia ib x y bw bh W) => h.set (by omega) (by omega) (by omega) (by omega) (by omega) j v)
    clear m i a z o hk m_l m_0 m_1 i_l i_0 i_1
    go_region_held3 (fun W => Kept w W ∧ W.cell? ⟨w.heap.size, 0, none⟩ = some (.int .i64 wm) ∧ W.cell? ⟨w.heap.size, 1, none⟩ = some (.int .i64 di) ∧ W.cell? ⟨(w.heap.size + 1), 0, none⟩ = some (.int .i64 ia) ∧ W.cell? ⟨(w.heap.size + 1), 1, none⟩ = some (.int .i64 ib) ∧ W.cell? ⟨(wq.heap.size + 1), 0, none⟩ = some (.int .i64 x) ∧ W.cell? ⟨(wq.heap.size + 1), 1, none⟩ = some (.int .i64 y) ∧ W.cell? ⟨wq.heap.size, 0, none⟩ = some (.int .i64 bw) ∧ W.cell? ⟨wq.heap.size, 1, none⟩ = some (.int .i64 bh) ∧ w.heap.size < W.heap.size ∧ (w.heap.size + 1) < W.heap.size ∧ (wq.heap.size + 1) < W.heap.size ∧ wq.heap.size < W.heap.size ∧ (w.heap.size + 1 + 1 + 1) < W.heap.size ∧ W.cell? ⟨(w.heap.size + 1 + 1 + 1), 0, none⟩ = some (rd W ⟨(w.heap.size + 1 + 1 + 1), 0, none⟩) ∧ W.cell? ⟨(w.heap.size + 1 + 1 + 1), 1, none⟩ = some (rd W ⟨(w.heap.size + 1 + 1 + 1), 1, none⟩) ∧ W.cell? ⟨(w.heap.size + 1 + 1 + 1), 2, none⟩ = some (rd W ⟨(w.heap.size + 1 + 1 + 1), 2, none⟩) ∧ W.cell? ⟨(w.heap.size + 1 + 1 + 1), 3, none⟩ = some (rd W ⟨(w.heap.size + 1 + 1 + 1), 3, none⟩) ∧ W.frozen? ⟨(w.heap.size + 1 + 1 + 1), 0, none⟩ = false ∧ W.frozen? ⟨(w.heap.size + 1 + 1 + 1), 1, none⟩ = false ∧ W.frozen? ⟨(w.heap.size + 1 + 1 + 1), 2, none⟩ = false ∧ W.frozen? ⟨(w.heap.size + 1 + 1 + 1), 3, none⟩ = false)
      (first | exact hS | assumption | exact KC.out _ _ ‹Kept w _ ∧ _› hn | exact KS.out _ _ _ (KS.out _ _ _ (KS.out _ _ _ (KS.out _ _ _ ‹Kept w _ ∧ _›))))
      (first
        | (go_at_call 24; refine (geomTurn_any _ _ _ _ _ _ _ _ _ (ht.kept (‹Kept w _ ∧ _›).1)).mono ?_; rintro e w2 ⟨rfl, hn⟩; have hh2 := KC.out _ _ ‹Kept w _ ∧ _› hn; obtain ⟨k2, -, -, -, -, -, -, -, -, -, -, -, -, lo2, o20, o21, o22, o23, -, -, -, -⟩ := hh2))
    go_wp2
    exact bodyPost_ret (v := resV ((turnS (farB wm di 0) ia x bw, turnS (farB wm di 2) ib y bh, bw, bh), 0)) (by simp [results, Tryd.results12, go_sem, o20, o21, o22, o23, lo2]) rfl ⟨by first | (rw [Hs.out]; done) | rfl, (by repeat (first | with_reducible exact k2 | with_reducible refine Kept.set ?_ (by first | (simp; done) | (simp; omega) | omega) _))⟩
end Go.Proofs.YtbjkphelkfeliaaDoor
