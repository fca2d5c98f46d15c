/- Layer 3: geometry: Back. -/
import Derived.Test.YtbjkphelkfeliaaDoorHeldBack
import Derived.BigRegion
import Derived.StillTailTactics
import Derived.Deep.CutRange
namespace Go.Proofs.YtbjkphelkfeliaaDoor
open Go.RowKit
set_option linter.unusedSimpArgs false
set_option linter.unusedVariables false
set_option maxHeartbeats 3000000 in
theorem back_true (wm di ia ib x y bw bh : Int) (w : World) (ht : Tab w) (h1 : modeMayB wm di = true) (h2 : sizedB ia ib = true) (h3 : sizedB bw bh = true) (h4 : farXB2 x y = true) (h9 : vertB wm di = true) :
    Calls Tryd.prog 12 #[modeV wm di, sizeV ia ib, fourV x y bw bh] w fun e w' => e = .returned (resV (backS wm di ia ib x y bw bh)) ∧ Kept w w' := by
  have hs : backS wm di ia ib x y bw bh = ((turnS (farB wm di 0) ia y bh, turnS (farB wm di 2) ib x bw, bh, bw), 0) := by unfold backS; rw [if_pos (by simp [backOkB, h1, h2, h3, h4]), h9]; rfl
  have Hs := Lib.hid hs
  clear hs
  have hk : Kept w w := Kept.refl w
  go_enter Tryd.func12, Tryd.ntmps12
  go_wp2_with fail
  refine with_boxes4 ?_
  intro X hX m i r o
  have hsz := hk.size
  replace hk := hk.trans hX
  clear hX
  replace m_l := m.lt
  replace m_0 := m.at 0 _ rfl
  replace m_1 := m.at 1 _ rfl
  replace i_l := i.lt
  replace i_0 := i.at 0 _ rfl
  replace i_1 := i.at 1 _ rfl
  replace r_l := r.lt
  replace r_0 := r.at 0 _ rfl
  replace r_1 := r.at 1 _ rfl
  replace r_2 := r.at 2 _ rfl
  replace r_3 := r.at 3 _ rfl
  refine (modeMay_any _ _ _).mono ?_
  rintro e w1 ⟨rfl, hn⟩
  replace hk := hk.trans hn
  replace m := m.kept hn
  replace i := i.kept hn
  replace r := r.kept hn
  replace o := o.kept hn
  clear hn
  replace m_l := m.lt
  replace m_0 := m.at 0 _ rfl
  replace m_1 := m.at 1 _ rfl
  replace i_l := i.lt
  replace i_0 := i.at 0 _ rfl
  replace i_1 := i.at 1 _ rfl
  replace r_l := r.lt
  replace r_0 := r.at 0 _ rfl
  replace r_1 := r.at 1 _ rfl
  replace r_2 := r.at 2 _ rfl
  replace r_3 := r.at 3 _ rfl
  go_wp2_with fail
  refine (geomSized_any _ _ _).mono ?_
  rintro e w1 ⟨rfl, hn⟩
  replace hk := hk.trans hn
  replace m := m.kept hn
  replace i := i.kept hn
  replace r := r.kept hn
  replace o := o.kept hn
  clear hn
  replace m_l := m.lt
  replace m_0 := m.at 0 _ rfl
  replace m_1 := m.at 1 _ rfl
  replace i_l := i.lt
  replace i_0 := i.at 0 _ rfl
  replace i_1 := i.at 1 _ rfl
  replace r_l := r.lt
  replace r_0 := r.at 0 _ rfl
  replace r_1 := r.at 1 _ rfl
  replace r_2 := r.at 2 _ rfl
  replace r_3 := r.at 3 _ rfl
  go_wp2_with fail
  refine with_boxes1 ?_
  intro X hX p
  have hsz := hk.size
  replace hk := hk.trans hX
  replace m := m.kept hX
  replace i := i.kept hX
  replace r := r.kept hX
  replace o := o.kept hX
  clear hX
  replace m_l := m.lt
  replace m_0 := m.at 0 _ rfl
  replace m_1 := m.at 1 _ rfl
  replace i_l := i.lt
  replace i_0 := i.at 0 _ rfl
  replace i_1 := i.at 1 _ rfl
  replace r_l := r.lt
  replace r_0 := r.at 0 _ rfl
  replace r_1 := r.at 1 _ rfl
  replace r_2 := r.at 2 _ rfl
  replace r_3 := r.at 3 _ rfl
  replace p_l := p.lt
  replace p_0 := p.at 0 _ rfl
  replace p_1 := p.at 1 _ rfl
  refine (eachSized_any _ _ _ _ p_0 p_1).mono ?_
  rintro e w1 ⟨rfl, rfl⟩
  clear p
  clear p_l p_0 p_1
  go_wp2_with fail
  refine with_boxes1 ?_
  intro X hX q
  have hsz := hk.size
  replace hk := hk.trans hX
  replace m := m.kept hX
  replace i := i.kept hX
  replace r := r.kept hX
  replace o := o.kept hX
  clear hX
  replace m_l := m.lt
  replace m_0 := m.at 0 _ rfl
  replace m_1 := m.at 1 _ rfl
  replace i_l := i.lt
  replace i_0 := i.at 0 _ rfl
  replace i_1 := i.at 1 _ rfl
  replace r_l := r.lt
  replace r_0 := r.at 0 _ rfl
  replace r_1 := r.at 1 _ rfl
  replace r_2 := r.at 2 _ rfl
  replace r_3 := r.at 3 _ rfl
  replace q_l := q.lt
  replace q_0 := q.at 0 _ rfl
  replace q_1 := q.at 1 _ rfl
  refine (eachFar_any _ _ _ _ q_0 q_1).mono ?_
  rintro e w1 ⟨rfl, rfl⟩
  clear q
  clear q_l q_0 q_1
  go_wp2_with fail
  obtain ⟨wq, rfl⟩ : ∃ wq : World, wq = X := ⟨_, rfl⟩
  have hoq := o.lt
  go_cut [8, 9] from 37 to 46 (fun sa sz wx => ∃ A Z : Nat, sa = .pointer (some ⟨A, 0, none⟩) ∧ sz = .pointer (some ⟨Z, 0, none⟩) ∧ A ≠ Z ∧ wq.heap.size ≤ A ∧ wq.heap.size ≤ Z ∧ Kept wq wx ∧ Own wx A 25 #[.int .i64 x, .int .i64 y] ∧ Own wx Z 25 #[.int .i64 bw, .int .i64 bh])
  case first =>
    go_region
    · go_wp2_with fail
      go_meet
      exact ⟨_, _, rfl, rfl, by simp, by simp, by simp, (((Kept.refl _).alloc _).alloc _).drew, ((Own.at_ _ _ _ rfl).alloc _).drew, (Own.at_ _ _ _ (by simp)).drew⟩
    · go_wp2_with fail
      go_meet
      exact ⟨_, _, rfl, rfl, by simp, by simp, by simp, (((Kept.refl _).alloc _).alloc _).drew, (Own.at_ _ _ _ (by simp)).drew, ((Own.at_ _ _ _ rfl).alloc _).drew⟩
  case rest =>
    obtain ⟨A, Z, rfl, rfl, hAZ, hA, hZ, hn, a, z⟩ := hcut
    replace hk := hk.trans hn
    replace m := m.kept hn
    replace i := i.kept hn
    replace r := r.kept hn
    replace o := o.kept hn
    clear hn
    replace m_l := m.lt
    replace m_0 := m.at 0 _ rfl
    replace m_1 := m.at 1 _ rfl
    replace i_l := i.lt
    replace i_0 := i.at 0 _ rfl
    replace i_1 := i.at 1 _ rfl
    replace r_l := r.lt
    replace r_0 := r.at 0 _ rfl
    replace r_1 := r.at 1 _ rfl
    replace r_2 := r.at 2 _ rfl
    replace r_3 := r.at 3 _ rfl
    go_wp2_with fail
    refine (modeVertical_any _ _ _).mono ?_
    rintro e w1 ⟨rfl, hn⟩
    replace hk := hk.trans hn
    replace m := m.kept hn
    replace i := i.kept hn
    replace r := r.kept hn
    replace o := o.kept hn
    replace a := a.kept hn
    replace z := z.kept hn
    clear hn
    replace m_l := m.lt
    replace m_0 := m.at 0 _ rfl
    replace m_1 := m.at 1 _ rfl
    replace i_l := i.lt
    replace i_0 := i.at 0 _ rfl
    replace i_1 := i.at 1 _ rfl
    replace r_l := r.lt
    replace r_0 := r.at 0 _ rfl
    replace r_1 := r.at 1 _ rfl
    replace r_2 := r.at 2 _ rfl
    replace r_3 := r.at 3 _ rfl
    replace a_l := a.lt
    replace a_0 := a.at 0 _ rfl
    replace a_f0 := a.free 0
    replace a_1 := a.at 1 _ rfl
    replace a_f1 := a.free 1
    replace z_l := z.lt
    replace z_0 := z.at 0 _ rfl
    replace z_f0 := z.free 0
    replace z_1 := z.at 1 _ rfl
    replace z_f1 := z.free 1
    go_wp2_with fail
    clear h1 h2 h3 h4 h9
    go_cut [] from 49 to 58 (fun wx => Kept w wx ∧ Own wx w.heap.size 23 #[.int .i64 wm, .int .i64 di] ∧ Own wx (w.heap.size + 1) 25 #[.int .i64 ia, .int .i64 ib] ∧ Own wx (w.heap.size + 1 + 1 + 1) 27 #[.int .i64 0, .int .i64 0, .int .i64 0, .int .i64 0] ∧ Own wx A 25 #[.int .i64 y, .int .i64 x] ∧ Own wx Z 25 #[.int .i64 bh, .int .i64 bw])
    case first =>
      clear m_l m_0 m_1 i_l i_0 i_1
      go_region
      go_wp2_with fail
      go_meet
      exact ⟨(by first | ((repeat (first | with_reducible exact hk | with_reducible refine Kept.alloc ?_ _ | with_reducible refine Kept.drew ?_ | with_reducible refine Kept.drewN ?_ _ | with_reducible refine Kept.set ?_ (by first | (simp; done) | (simp; omega) | omega) _)); done) | exact hk | exact (hk.alloc _) | exact ((hk.alloc _).alloc _) | exact (((hk.alloc _).alloc _).alloc _) | exact ((((hk.alloc _).alloc _).alloc _).alloc _) | exact (((((hk.alloc _).alloc _).alloc _).alloc _).alloc _) | exact ((((((hk.alloc _).alloc _).alloc _).alloc _).alloc _).alloc _) | (repeat (first | exact hk | refine Kept.alloc ?_ _ | refine Kept.drew ?_ | refine Kept.drewN ?_ _ | refine Kept.set ?_ (by first | (simp; done) | (simp; omega) | omega) _))), ((((m.other (by first | omega | (simp; done) | (simp; omega)) _).other (by first | omega | (simp; done) | (simp; omega)) _).other (by first | omega | (simp; done) | (simp; omega)) _).other (by first | omega | (simp; done) | (simp; omega)) _).drew, ((((i.other (by first | omega | (simp; done) | (simp; omega)) _).other (by first | omega | (simp; done) | (simp; omega)) _).other (by first | omega | (simp; done) | (simp; omega)) _).other (by first | omega | (simp; done) | (simp; omega)) _).drew, ((((o.other (by first | omega | (simp; done) | (simp; omega)) _).other (by first | omega | (simp; done) | (simp; omega)) _).other (by first | omega | (simp; done) | (simp; omega)) _).other (by first | omega | (simp; done) | (simp; omega)) _).drew, ((((a.set 0 _).set 1 _).other (by first | omega | (simp; done) | (simp; omega)) _).other (by first | omega | (simp; done) | (simp; omega)) _).drew.is (by rfl), ((((z.other (by first | omega | (simp; done) | (simp; omega)) _).other (by first | omega | (simp; done) | (simp; omega)) _).set 0 _).set 1 _).drew.is (by rfl)⟩
    case rest =>
      clear m i r o a z m_l m_0 m_1 i_l i_0 i_1 r_l r_0 r_1 r_2 r_3 a_l a_0 a_f0 a_1 a_f1 z_l z_0 z_f0 z_1 z_f1 hk
      obtain ⟨hk, m, i, o, a, z⟩ := hcut
      go_wp2_with fail
      have hS := SB.call (SB.of hk m i a z o) ((Kept.refl wc).drew)
      have KC := Lib.hid (fun (W w1 : World) (h : SB w w.heap.size (w.heap.size + 1) A Z (w.heap.size + 1 + 1 + 1) wm di ia ib y x bh bw W) (k : Kept W w1) => h.call k)
      have KS := Lib.hid (fun (W : World) (j : Nat) (v : Value) (h : SB w w.heap.size (w.heap.size + 1) A Z (w.heap.size + 1 + 1 + 1) wm di ia ib y x bh bw W) => h.set (by omega) (by omega) (by omega) (by omega) (by omega) j v)
      clear m i a z o hk
      go_region_held3 (fun W => Kept w W ∧ W.cell? ⟨w.heap.size, 0, none⟩ = some (.int .i64 wm) ∧ W.cell? ⟨w.heap.size, 1, none⟩ = some (.int .i64 di) ∧ W.cell? ⟨(w.heap.size + 1), 0, none⟩ = some (.int .i64 ia) ∧ W.cell? ⟨(w.heap.size + 1), 1, none⟩ = some (.int .i64 ib) ∧ W.cell? ⟨A, 0, none⟩ = some (.int .i64 y) ∧ W.cell? ⟨A, 1, none⟩ = some (.int .i64 x) ∧ W.cell? ⟨Z, 0, none⟩ = some (.int .i64 bh) ∧ W.cell? ⟨Z, 1, none⟩ = some (.int .i64 bw) ∧ w.heap.size < W.heap.size ∧ (w.heap.size + 1) < W.heap.size ∧ A < W.heap.size ∧ Z < W.heap.size ∧ (w.heap.size + 1 + 1 + 1) < W.heap.size ∧ W.cell? ⟨(w.heap.size + 1 + 1 + 1), 0, none⟩ = some (rd W ⟨(w.heap.size + 1 + 1 + 1), 0, none⟩) ∧ W.cell? ⟨(w.heap.size + 1 + 1 + 1), 1, none⟩ = some (rd W ⟨(w.heap.size + 1 + 1 + 1), 1, none⟩) ∧ W.cell? ⟨(w.heap.size + 1 + 1 + 1), 2, none⟩ = some (rd W ⟨(w.heap.size + 1 + 1 + 1), 2, none⟩) ∧ W.cell? ⟨(w.heap.size + 1 + 1 + 1), 3, none⟩ = some (rd W ⟨(w.heap.size + 1 + 1 + 1), 3, none⟩) ∧ W.frozen? ⟨(w.heap.size + 1 + 1 + 1), 0, none⟩ = false ∧ W.frozen? ⟨(w.heap.size + 1 + 1 + 1), 1, none⟩ = false ∧ W.frozen? ⟨(w.heap.size + 1 + 1 + 1), 2, none⟩ = false ∧ W.frozen? ⟨(w.heap.size + 1 + 1 + 1), 3, none⟩ = false)
        (first | exact hS | assumption | exact KC.out _ _ ‹Kept w _ ∧ _› hn | exact KS.out _ _ _ (KS.out _ _ _ (KS.out _ _ _ (KS.out _ _ _ ‹Kept w _ ∧ _›))))
        (first
          | (go_at_call 24; refine (geomTurn_any _ _ _ _ _ _ _ _ _ (ht.kept (‹Kept w _ ∧ _›).1)).mono ?_; rintro e w2 ⟨rfl, hn⟩; have hh2 := KC.out _ _ ‹Kept w _ ∧ _› hn; obtain ⟨k2, -, -, -, -, -, -, -, -, -, -, -, -, lo2, o20, o21, o22, o23, -, -, -, -⟩ := hh2))
      go_wp2
      exact bodyPost_ret (v := resV ((turnS (farB wm di 0) ia y bh, turnS (farB wm di 2) ib x bw, bh, bw), 0)) (by simp [results, Tryd.results12, go_sem, o20, o21, o22, o23, lo2]) rfl ⟨by first | (rw [Hs.out]; done) | rfl, (by repeat (first | with_reducible exact k2 | with_reducible refine Kept.set ?_ (by first | (simp; done) | (simp; omega) | omega) _))⟩
end Go.Proofs.YtbjkphelkfeliaaDoor
