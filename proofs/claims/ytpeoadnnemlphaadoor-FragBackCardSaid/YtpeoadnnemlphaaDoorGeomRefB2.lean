/- Layer 3: the document's Back. -/
import Derived.Test.YtpeoadnnemlphaaDoorGeomRefB1
import Derived.Deep.QuietTactic
import Derived.BigQuiet
import Derived.Test.YtpeoadnnemlphaaDoorHeldBack
namespace Go.Proofs.YtpeoadnnemlphaaDoor
open Go.RowKit
set_option linter.unusedSimpArgs false
set_option linter.unusedVariables false
set_option maxHeartbeats 2000000 in
theorem refBack_false (wm di ia ib x y bw bh : Int) (w : World) (x1 : -9223372036854775808 ≤ x) (x2 : x ≤ 9223372036854775807) (y1 : -9223372036854775808 ≤ y) (y2 : y ≤ 9223372036854775807) (h1 : modeMayB wm di = true) (h2 : inB 0 1073741824 ia = true) (h3 : inB 0 1073741824 ib = true) (h4 : inB 0 1073741824 bw = true) (h5 : inB 0 1073741824 bh = true) (h6 : farXB x = true) (h7 : farXB y = true) (h9 : vertB wm di = false) :
    Calls Tryd.prog 30 #[modeV wm di, sizeV ia ib, fourV x y bw bh] w fun e w' => e = .returned (resV (backS wm di ia ib x y bw bh)) ∧ Kept w w' := by
  have hs : backS wm di ia ib x y bw bh = ((turnS (farB wm di 0) ia x bw, turnS (farB wm di 2) ib y bh, bw, bh), 0) := by unfold backS; rw [if_pos (by simp [backOkB, sizedB, farXB2, h1, h2, h3, h4, h5, h6, h7]), h9]; rfl
  have Hs := Lib.hid hs
  clear hs
  have g6 := farX_up x1 x2
  have g7 := farX_up y1 y2
  clear x1 x2 y1 y2
  have hk : Kept w w := Kept.refl w
  go_enter Tryd.func30, Tryd.ntmps30
  go_wp2_with fail
  refine with_boxes4 ?_
  intro X hX m i r o
  have hsz := hk.size
  replace hk := hk.trans hX
  clear hX
  replace m_l := m.lt
  replace m_0 := m.at 0 _ rfl
  replace m_1 := m.at 1 _ rfl
  replace i_l := i.lt
  replace i_0 := i.at 0 _ rfl
  replace i_1 := i.at 1 _ rfl
  replace r_l := r.lt
  replace r_0 := r.at 0 _ rfl
  replace r_1 := r.at 1 _ rfl
  replace r_2 := r.at 2 _ rfl
  replace r_3 := r.at 3 _ rfl
  refine (refModeMay_any _ _ _).mono ?_
  rintro e w1 ⟨rfl, hn⟩
  replace hk := hk.trans hn
  replace m := m.kept hn
  replace i := i.kept hn
  replace r := r.kept hn
  replace o := o.kept hn
  clear hn
  replace m_l := m.lt
  replace m_0 := m.at 0 _ rfl
  replace m_1 := m.at 1 _ rfl
  replace i_l := i.lt
  replace i_0 := i.at 0 _ rfl
  replace i_1 := i.at 1 _ rfl
  replace r_l := r.lt
  replace r_0 := r.at 0 _ rfl
  replace r_1 := r.at 1 _ rfl
  replace r_2 := r.at 2 _ rfl
  replace r_3 := r.at 3 _ rfl
  go_wp2_with fail
  refine (refUpTo3_any _ _ _).mono ?_
  rintro e w1 ⟨rfl, rfl⟩
  go_wp2_with fail
  refine (refUpTo3_any _ _ _).mono ?_
  rintro e w1 ⟨rfl, rfl⟩
  go_wp2_with fail
  refine (refUpTo3_any _ _ _).mono ?_
  rintro e w1 ⟨rfl, rfl⟩
  go_wp2_with fail
  refine (refUpTo3_any _ _ _).mono ?_
  rintro e w1 ⟨rfl, rfl⟩
  go_wp2_with fail
  refine (refUpTo3_any _ _ _).mono ?_
  rintro e w1 ⟨rfl, rfl⟩
  go_wp2_with fail
  refine (refUpTo3_any _ _ _).mono ?_
  rintro e w1 ⟨rfl, rfl⟩
  go_wp2_with fail
  go_quiet (fail)
  go_wp2_with fail
  refine with_eq ?_
  intro X eX
  have hsz := hk.size
  replace hk := (eX ▸ (by first | ((repeat (first | with_reducible exact hk | with_reducible refine Kept.alloc ?_ _ | with_reducible refine Kept.drew ?_ | with_reducible refine Kept.drewN ?_ _ | with_reducible refine Kept.set ?_ (by first | (simp; done) | (simp; omega) | omega) _)); done) | exact hk | exact (hk.alloc _) | exact ((hk.alloc _).alloc _) | exact (((hk.alloc _).alloc _).alloc _) | exact ((((hk.alloc _).alloc _).alloc _).alloc _) | exact (((((hk.alloc _).alloc _).alloc _).alloc _).alloc _) | exact ((((((hk.alloc _).alloc _).alloc _).alloc _).alloc _).alloc _) | (repeat (first | exact hk | refine Kept.alloc ?_ _ | refine Kept.drew ?_ | refine Kept.drewN ?_ _ | refine Kept.set ?_ (by first | (simp; done) | (simp; omega) | omega) _))) : Kept w X)
  replace m := m.same (X := X) (by rw [eX]; repeat (first | with_reducible rfl | with_reducible refine (Below.heap_setCell _ _ _ _ (by first | omega | (simp; done) | (simp; omega))).trans ?_ | with_reducible refine (heap_drew_ _ _).trans ?_ | with_reducible refine (heap_drewN_ _ _ _).trans ?_))
  replace i := i.same (X := X) (by rw [eX]; repeat (first | with_reducible rfl | with_reducible refine (Below.heap_setCell _ _ _ _ (by first | omega | (simp; done) | (simp; omega))).trans ?_ | with_reducible refine (heap_drew_ _ _).trans ?_ | with_reducible refine (heap_drewN_ _ _ _).trans ?_))
  replace r := r.same (X := X) (by rw [eX]; repeat (first | with_reducible rfl | with_reducible refine (Below.heap_setCell _ _ _ _ (by first | omega | (simp; done) | (simp; omega))).trans ?_ | with_reducible refine (heap_drew_ _ _).trans ?_ | with_reducible refine (heap_drewN_ _ _ _).trans ?_))
  replace o := o.same (X := X) (by rw [eX]; repeat (first | with_reducible rfl | with_reducible refine (Below.heap_setCell _ _ _ _ (by first | omega | (simp; done) | (simp; omega))).trans ?_ | with_reducible refine (heap_drew_ _ _).trans ?_ | with_reducible refine (heap_drewN_ _ _ _).trans ?_))
  clear eX
  replace m_l := m.lt
  replace m_0 := m.at 0 _ rfl
  replace m_1 := m.at 1 _ rfl
  replace i_l := i.lt
  replace i_0 := i.at 0 _ rfl
  replace i_1 := i.at 1 _ rfl
  replace r_l := r.lt
  replace r_0 := r.at 0 _ rfl
  replace r_1 := r.at 1 _ rfl
  replace r_2 := r.at 2 _ rfl
  replace r_3 := r.at 3 _ rfl
  go_wp2_with fail
  refine (refVertical_any _ _ _).mono ?_
  rintro e w1 ⟨rfl, hn⟩
  replace hk := hk.trans hn
  replace m := m.kept hn
  replace i := i.kept hn
  replace r := r.kept hn
  replace o := o.kept hn
  clear hn
  replace m_l := m.lt
  replace m_0 := m.at 0 _ rfl
  replace m_1 := m.at 1 _ rfl
  replace i_l := i.lt
  replace i_0 := i.at 0 _ rfl
  replace i_1 := i.at 1 _ rfl
  replace r_l := r.lt
  replace r_0 := r.at 0 _ rfl
  replace r_1 := r.at 1 _ rfl
  replace r_2 := r.at 2 _ rfl
  replace r_3 := r.at 3 _ rfl
  clear r
  clear r_l r_0 r_1 r_2 r_3
  go_wp2_with fail
  refine (refTurned_any _ _ _ h1).mono ?_
  rintro e w1 ⟨rfl, hn⟩
  replace hk := hk.trans hn
  replace m := m.kept hn
  replace i := i.kept hn
  replace o := o.kept hn
  clear hn
  replace m_l := m.lt
  replace m_0 := m.at 0 _ rfl
  replace m_1 := m.at 1 _ rfl
  replace i_l := i.lt
  replace i_0 := i.at 0 _ rfl
  replace i_1 := i.at 1 _ rfl
  go_wp2_with fail
  have hS := SB.call (SB.of hk m i i i o) ((Kept.refl w1).drew)
  have KS := Lib.hid (fun (W : World) (j : Nat) (v : Value) (h : SB w w.heap.size (w.heap.size + 1) (w.heap.size + 1) (w.heap.size + 1) (w.heap.size + 1 + 1 + 1) wm di ia ib ia ib ia ib W) => h.set (by omega) (by omega) (by omega) (by omega) (by omega) j v)
  clear m i
  clear m_l m_0 m_1
  clear i_l i_0 i_1
  replace o_l := o.lt
  replace o_0 := o.at 0 _ rfl
  replace o_f0 := o.free 0
  replace o_1 := o.at 1 _ rfl
  replace o_f1 := o.free 1
  replace o_2 := o.at 2 _ rfl
  replace o_f2 := o.free 2
  replace o_3 := o.at 3 _ rfl
  replace o_f3 := o.free 3
  go_region_held3 (fun W => Kept w W ∧ W.cell? ⟨w.heap.size, 0, none⟩ = some (.int .i64 wm) ∧ W.cell? ⟨w.heap.size, 1, none⟩ = some (.int .i64 di) ∧ W.cell? ⟨(w.heap.size + 1), 0, none⟩ = some (.int .i64 ia) ∧ W.cell? ⟨(w.heap.size + 1), 1, none⟩ = some (.int .i64 ib) ∧ W.cell? ⟨(w.heap.size + 1), 0, none⟩ = some (.int .i64 ia) ∧ W.cell? ⟨(w.heap.size + 1), 1, none⟩ = some (.int .i64 ib) ∧ W.cell? ⟨(w.heap.size + 1), 0, none⟩ = some (.int .i64 ia) ∧ W.cell? ⟨(w.heap.size + 1), 1, none⟩ = some (.int .i64 ib) ∧ w.heap.size < W.heap.size ∧ (w.heap.size + 1) < W.heap.size ∧ (w.heap.size + 1) < W.heap.size ∧ (w.heap.size + 1) < W.heap.size ∧ (w.heap.size + 1 + 1 + 1) < W.heap.size ∧ W.cell? ⟨(w.heap.size + 1 + 1 + 1), 0, none⟩ = some (rd W ⟨(w.heap.size + 1 + 1 + 1), 0, none⟩) ∧ W.cell? ⟨(w.heap.size + 1 + 1 + 1), 1, none⟩ = some (rd W ⟨(w.heap.size + 1 + 1 + 1), 1, none⟩) ∧ W.cell? ⟨(w.heap.size + 1 + 1 + 1), 2, none⟩ = some (rd W ⟨(w.heap.size + 1 + 1 + 1), 2, none⟩) ∧ W.cell? ⟨(w.heap.size + 1 + 1 + 1), 3, none⟩ = some (rd W ⟨(w.heap.size + 1 + 1 + 1), 3, none⟩) ∧ W.frozen? ⟨(w.heap.size + 1 + 1 + 1), 0, none⟩ = false ∧ W.frozen? ⟨(w.heap.size + 1 + 1 + 1), 1, none⟩ = false ∧ W.frozen? ⟨(w.heap.size + 1 + 1 + 1), 2, none⟩ = false ∧ W.frozen? ⟨(w.heap.size + 1 + 1 + 1), 3, none⟩ = false)
    (first | exact hS | assumption | exact KS.out _ _ _ (KS.out _ _ _ (KS.out _ _ _ (KS.out _ _ _ ‹Kept w _ ∧ _›))))
    (first
      | (go_at_call 49; refine (refFrom_any _ _ _ _ _).mono ?_; rintro e w2 ⟨rfl, rfl⟩))
  go_wp2
  exact bodyPost_ret (v := resV ((turnS (farB wm di 0) ia x bw, turnS (farB wm di 2) ib y bh, bw, bh), 0)) (by simp [results, Tryd.results30, go_sem, o_0, o_1, o_2, o_3, o_l]) rfl ⟨by first | (rw [Hs.out]; done) | rfl, (by first | ((repeat (first | with_reducible exact hk | with_reducible refine Kept.alloc ?_ _ | with_reducible refine Kept.drew ?_ | with_reducible refine Kept.drewN ?_ _ | with_reducible refine Kept.set ?_ (by first | (simp; done) | (simp; omega) | omega) _)); done) | exact hk | exact (hk.alloc _) | exact ((hk.alloc _).alloc _) | exact (((hk.alloc _).alloc _).alloc _) | exact ((((hk.alloc _).alloc _).alloc _).alloc _) | exact (((((hk.alloc _).alloc _).alloc _).alloc _).alloc _) | exact ((((((hk.alloc _).alloc _).alloc _).alloc _).alloc _).alloc _) | (repeat (first | exact hk | refine Kept.alloc ?_ _ | refine Kept.drew ?_ | refine Kept.drewN ?_ _ | refine Kept.set ?_ (by first | (simp; done) | (simp; omega) | omega) _)))⟩
set_option maxHeartbeats 2000000 in
theorem refBack_true (wm di ia ib x y bw bh : Int) (w : World) (x1 : -9223372036854775808 ≤ x) (x2 : x ≤ 9223372036854775807) (y1 : -9223372036854775808 ≤ y) (y2 : y ≤ 9223372036854775807) (h1 : modeMayB wm di = true) (h2 : inB 0 1073741824 ia = true) (h3 : inB 0 1073741824 ib = true) (h4 : inB 0 1073741824 bw = true) (h5 : inB 0 1073741824 bh = true) (h6 : farXB x = true) (h7 : farXB y = true) (h9 : vertB wm di = true) :
    Calls Tryd.prog 30 #[modeV wm di, sizeV ia ib, fourV x y bw bh] w fun e w' => e = .returned (resV (backS wm di ia ib x y bw bh)) ∧ Kept w w' := by
  have hs : backS wm di ia ib x y bw bh = ((turnS (farB wm di 0) ia y bh, turnS (farB wm di 2) ib x bw, bh, bw), 0) := by unfold backS; rw [if_pos (by simp [backOkB, sizedB, farXB2, h1, h2, h3, h4, h5, h6, h7]), h9]; rfl
  have Hs := Lib.hid hs
  clear hs
  have g6 := farX_up x1 x2
  have g7 := farX_up y1 y2
  clear x1 x2 y1 y2
  have hk : Kept w w := Kept.refl w
  go_enter Tryd.func30, Tryd.ntmps30
  go_wp2_with fail
  refine with_boxes4 ?_
  intro X hX m i r o
  have hsz := hk.size
  replace hk := hk.trans hX
  clear hX
  replace m_l := m.lt
  replace m_0 := m.at 0 _ rfl
  replace m_1 := m.at 1 _ rfl
  replace i_l := i.lt
  replace i_0 := i.at 0 _ rfl
  replace i_1 := i.at 1 _ rfl
  replace r_l := r.lt
  replace r_0 := r.at 0 _ rfl
  replace r_1 := r.at 1 _ rfl
  replace r_2 := r.at 2 _ rfl
  replace r_3 := r.at 3 _ rfl
  refine (refModeMay_any _ _ _).mono ?_
  rintro e w1 ⟨rfl, hn⟩
  replace hk := hk.trans hn
  replace m := m.kept hn
  replace i := i.kept hn
  replace r := r.kept hn
  replace o := o.kept hn
  clear hn
  replace m_l := m.lt
  replace m_0 := m.at 0 _ rfl
  replace m_1 := m.at 1 _ rfl
  replace i_l := i.lt
  replace i_0 := i.at 0 _ rfl
  replace i_1 := i.at 1 _ rfl
  replace r_l := r.lt
  replace r_0 := r.at 0 _ rfl
  replace r_1 := r.at 1 _ rfl
  replace r_2 := r.at 2 _ rfl
  replace r_3 := r.at 3 _ rfl
  go_wp2_with fail
  refine (refUpTo3_any _ _ _).mono ?_
  rintro e w1 ⟨rfl, rfl⟩
  go_wp2_with fail
  refine (refUpTo3_any _ _ _).mono ?_
  rintro e w1 ⟨rfl, rfl⟩
  go_wp2_with fail
  refine (refUpTo3_any _ _ _).mono ?_
  rintro e w1 ⟨rfl, rfl⟩
  go_wp2_with fail
  refine (refUpTo3_any _ _ _).mono ?_
  rintro e w1 ⟨rfl, rfl⟩
  go_wp2_with fail
  refine (refUpTo3_any _ _ _).mono ?_
  rintro e w1 ⟨rfl, rfl⟩
  go_wp2_with fail
  refine (refUpTo3_any _ _ _).mono ?_
  rintro e w1 ⟨rfl, rfl⟩
  go_wp2_with fail
  go_quiet (fail)
  go_wp2_with fail
  refine with_eq ?_
  intro X eX
  have hsz := hk.size
  replace hk := (eX ▸ (by first | ((repeat (first | with_reducible exact hk | with_reducible refine Kept.alloc ?_ _ | with_reducible refine Kept.drew ?_ | with_reducible refine Kept.drewN ?_ _ | with_reducible refine Kept.set ?_ (by first | (simp; done) | (simp; omega) | omega) _)); done) | exact hk | exact (hk.alloc _) | exact ((hk.alloc _).alloc _) | exact (((hk.alloc _).alloc _).alloc _) | exact ((((hk.alloc _).alloc _).alloc _).alloc _) | exact (((((hk.alloc _).alloc _).alloc _).alloc _).alloc _) | exact ((((((hk.alloc _).alloc _).alloc _).alloc _).alloc _).alloc _) | (repeat (first | exact hk | refine Kept.alloc ?_ _ | refine Kept.drew ?_ | refine Kept.drewN ?_ _ | refine Kept.set ?_ (by first | (simp; done) | (simp; omega) | omega) _))) : Kept w X)
  replace m := m.same (X := X) (by rw [eX]; repeat (first | with_reducible rfl | with_reducible refine (Below.heap_setCell _ _ _ _ (by first | omega | (simp; done) | (simp; omega))).trans ?_ | with_reducible refine (heap_drew_ _ _).trans ?_ | with_reducible refine (heap_drewN_ _ _ _).trans ?_))
  replace i := i.same (X := X) (by rw [eX]; repeat (first | with_reducible rfl | with_reducible refine (Below.heap_setCell _ _ _ _ (by first | omega | (simp; done) | (simp; omega))).trans ?_ | with_reducible refine (heap_drew_ _ _).trans ?_ | with_reducible refine (heap_drewN_ _ _ _).trans ?_))
  replace r := r.same (X := X) (by rw [eX]; repeat (first | with_reducible rfl | with_reducible refine (Below.heap_setCell _ _ _ _ (by first | omega | (simp; done) | (simp; omega))).trans ?_ | with_reducible refine (heap_drew_ _ _).trans ?_ | with_reducible refine (heap_drewN_ _ _ _).trans ?_))
  replace o := o.same (X := X) (by rw [eX]; repeat (first | with_reducible rfl | with_reducible refine (Below.heap_setCell _ _ _ _ (by first | omega | (simp; done) | (simp; omega))).trans ?_ | with_reducible refine (heap_drew_ _ _).trans ?_ | with_reducible refine (heap_drewN_ _ _ _).trans ?_))
  clear eX
  replace m_l := m.lt
  replace m_0 := m.at 0 _ rfl
  replace m_1 := m.at 1 _ rfl
  replace i_l := i.lt
  replace i_0 := i.at 0 _ rfl
  replace i_1 := i.at 1 _ rfl
  replace r_l := r.lt
  replace r_0 := r.at 0 _ rfl
  replace r_1 := r.at 1 _ rfl
  replace r_2 := r.at 2 _ rfl
  replace r_3 := r.at 3 _ rfl
  go_wp2_with fail
  refine (refVertical_any _ _ _).mono ?_
  rintro e w1 ⟨rfl, hn⟩
  replace hk := hk.trans hn
  replace m := m.kept hn
  replace i := i.kept hn
  replace r := r.kept hn
  replace o := o.kept hn
  clear hn
  replace m_l := m.lt
  replace m_0 := m.at 0 _ rfl
  replace m_1 := m.at 1 _ rfl
  replace i_l := i.lt
  replace i_0 := i.at 0 _ rfl
  replace i_1 := i.at 1 _ rfl
  replace r_l := r.lt
  replace r_0 := r.at 0 _ rfl
  replace r_1 := r.at 1 _ rfl
  replace r_2 := r.at 2 _ rfl
  replace r_3 := r.at 3 _ rfl
  go_wp2_with fail
  go_quiet (fail)
  go_wp2_with fail
  refine with_eq ?_
  intro X eX
  have hsz := hk.size
  replace hk := (eX ▸ (by first | ((repeat (first | with_reducible exact hk | with_reducible refine Kept.alloc ?_ _ | with_reducible refine Kept.drew ?_ | with_reducible refine Kept.drewN ?_ _ | with_reducible refine Kept.set ?_ (by first | (simp; done) | (simp; omega) | omega) _)); done) | exact hk | exact (hk.alloc _) | exact ((hk.alloc _).alloc _) | exact (((hk.alloc _).alloc _).alloc _) | exact ((((hk.alloc _).alloc _).alloc _).alloc _) | exact (((((hk.alloc _).alloc _).alloc _).alloc _).alloc _) | exact ((((((hk.alloc _).alloc _).alloc _).alloc _).alloc _).alloc _) | (repeat (first | exact hk | refine Kept.alloc ?_ _ | refine Kept.drew ?_ | refine Kept.drewN ?_ _ | refine Kept.set ?_ (by first | (simp; done) | (simp; omega) | omega) _))) : Kept w X)
  replace m := m.same (X := X) (by rw [eX]; repeat (first | with_reducible rfl | with_reducible refine (Below.heap_setCell _ _ _ _ (by first | omega | (simp; done) | (simp; omega))).trans ?_ | with_reducible refine (heap_drew_ _ _).trans ?_ | with_reducible refine (heap_drewN_ _ _ _).trans ?_))
  replace i := i.same (X := X) (by rw [eX]; repeat (first | with_reducible rfl | with_reducible refine (Below.heap_setCell _ _ _ _ (by first | omega | (simp; done) | (simp; omega))).trans ?_ | with_reducible refine (heap_drew_ _ _).trans ?_ | with_reducible refine (heap_drewN_ _ _ _).trans ?_))
  replace r := r.same (X := X) (by rw [eX]; repeat (first | with_reducible rfl | with_reducible refine (Below.heap_setCell _ _ _ _ (by first | omega | (simp; done) | (simp; omega))).trans ?_ | with_reducible refine (heap_drew_ _ _).trans ?_ | with_reducible refine (heap_drewN_ _ _ _).trans ?_))
  replace o := o.same (X := X) (by rw [eX]; repeat (first | with_reducible rfl | with_reducible refine (Below.heap_setCell _ _ _ _ (by first | omega | (simp; done) | (simp; omega))).trans ?_ | with_reducible refine (heap_drew_ _ _).trans ?_ | with_reducible refine (heap_drewN_ _ _ _).trans ?_))
  clear eX
  replace m_l := m.lt
  replace m_0 := m.at 0 _ rfl
  replace m_1 := m.at 1 _ rfl
  replace i_l := i.lt
  replace i_0 := i.at 0 _ rfl
  replace i_1 := i.at 1 _ rfl
  replace r_l := r.lt
  replace r_0 := r.at 0 _ rfl
  replace r_1 := r.at 1 _ rfl
  replace r_2 := r.at 2 _ rfl
  replace r_3 := r.at 3 _ rfl
  clear r
  clear r_l r_0 r_1 r_2 r_3
  go_wp2_with fail
  refine (refTurned_any _ _ _ h1).mono ?_
  rintro e w1 ⟨rfl, hn⟩
  replace hk := hk.trans hn
  replace m := m.kept hn
  replace i := i.kept hn
  replace o := o.kept hn
  clear hn
  replace m_l := m.lt
  replace m_0 := m.at 0 _ rfl
  replace m_1 := m.at 1 _ rfl
  replace i_l := i.lt
  replace i_0 := i.at 0 _ rfl
  replace i_1 := i.at 1 _ rfl
  go_wp2_with fail
  have hS := SB.call (SB.of hk m i i i o) ((Kept.refl w1).drew)
  have KS := Lib.hid (fun (W : World) (j : Nat) (v : Value) (h : SB w w.heap.size (w.heap.size + 1) (w.heap.size + 1) (w.heap.size + 1) (w.heap.size + 1 + 1 + 1) wm di ia ib ia ib ia ib W) => h.set (by omega) (by omega) (by omega) (by omega) (by omega) j v)
  clear m i
  clear m_l m_0 m_1
  clear i_l i_0 i_1
  replace o_l := o.lt
  replace o_0 := o.at 0 _ rfl
  replace o_f0 := o.free 0
  replace o_1 := o.at 1 _ rfl
  replace o_f1 := o.free 1
  replace o_2 := o.at 2 _ rfl
  replace o_f2 := o.free 2
  replace o_3 := o.at 3 _ rfl
  replace o_f3 := o.free 3
  go_region_held3 (fun W => Kept w W ∧ W.cell? ⟨w.heap.size, 0, none⟩ = some (.int .i64 wm) ∧ W.cell? ⟨w.heap.size, 1, none⟩ = some (.int .i64 di) ∧ W.cell? ⟨(w.heap.size + 1), 0, none⟩ = some (.int .i64 ia) ∧ W.cell? ⟨(w.heap.size + 1), 1, none⟩ = some (.int .i64 ib) ∧ W.cell? ⟨(w.heap.size + 1), 0, none⟩ = some (.int .i64 ia) ∧ W.cell? ⟨(w.heap.size + 1), 1, none⟩ = some (.int .i64 ib) ∧ W.cell? ⟨(w.heap.size + 1), 0, none⟩ = some (.int .i64 ia) ∧ W.cell? ⟨(w.heap.size + 1), 1, none⟩ = some (.int .i64 ib) ∧ w.heap.size < W.heap.size ∧ (w.heap.size + 1) < W.heap.size ∧ (w.heap.size + 1) < W.heap.size ∧ (w.heap.size + 1) < W.heap.size ∧ (w.heap.size + 1 + 1 + 1) < W.heap.size ∧ W.cell? ⟨(w.heap.size + 1 + 1 + 1), 0, none⟩ = some (rd W ⟨(w.heap.size + 1 + 1 + 1), 0, none⟩) ∧ W.cell? ⟨(w.heap.size + 1 + 1 + 1), 1, none⟩ = some (rd W ⟨(w.heap.size + 1 + 1 + 1), 1, none⟩) ∧ W.cell? ⟨(w.heap.size + 1 + 1 + 1), 2, none⟩ = some (rd W ⟨(w.heap.size + 1 + 1 + 1), 2, none⟩) ∧ W.cell? ⟨(w.heap.size + 1 + 1 + 1), 3, none⟩ = some (rd W ⟨(w.heap.size + 1 + 1 + 1), 3, none⟩) ∧ W.frozen? ⟨(w.heap.size + 1 + 1 + 1), 0, none⟩ = false ∧ W.frozen? ⟨(w.heap.size + 1 + 1 + 1), 1, none⟩ = false ∧ W.frozen? ⟨(w.heap.size + 1 + 1 + 1), 2, none⟩ = false ∧ W.frozen? ⟨(w.heap.size + 1 + 1 + 1), 3, none⟩ = false)
    (first | exact hS | assumption | exact KS.out _ _ _ (KS.out _ _ _ (KS.out _ _ _ (KS.out _ _ _ ‹Kept w _ ∧ _›))))
    (first
      | (go_at_call 49; refine (refFrom_any _ _ _ _ _).mono ?_; rintro e w2 ⟨rfl, rfl⟩))
  go_wp2
  exact bodyPost_ret (v := resV ((turnS (farB wm di 0) ia y bh, turnS (farB wm di 2) ib x bw, bh, bw), 0)) (by simp [results, Tryd.results30, go_sem, o_0, o_1, o_2, o_3, o_l]) rfl ⟨by first | (rw [Hs.out]; done) | rfl, (by first | ((repeat (first | with_reducible exact hk | with_reducible refine Kept.alloc ?_ _ | with_reducible refine Kept.drew ?_ | with_reducible refine Kept.drewN ?_ _ | with_reducible refine Kept.set ?_ (by first | (simp; done) | (simp; omega) | omega) _)); done) | exact hk | exact (hk.alloc _) | exact ((hk.alloc _).alloc _) | exact (((hk.alloc _).alloc _).alloc _) | exact ((((hk.alloc _).alloc _).alloc _).alloc _) | exact (((((hk.alloc _).alloc _).alloc _).alloc _).alloc _) | exact ((((((hk.alloc _).alloc _).alloc _).alloc _).alloc _).alloc _) | (repeat (first | exact hk | refine Kept.alloc ?_ _ | refine Kept.drew ?_ | refine Kept.drewN ?_ _ | refine Kept.set ?_ (by first | (simp; done) | (simp; omega) | omega) _)))⟩
theorem refBack_any (wm di ia ib x y bw bh : Int) (w : World) (x1 : -9223372036854775808 ≤ x) (x2 : x ≤ 9223372036854775807) (y1 : -9223372036854775808 ≤ y) (y2 : y ≤ 9223372036854775807) :
    Calls Tryd.prog 30 #[modeV wm di, sizeV ia ib, fourV x y bw bh] w fun e w' => e = .returned (resV (backS wm di ia ib x y bw bh)) ∧ Kept w w' := by
  cases h1 : modeMayB wm di
  · exact refBack_no1 _ _ _ _ _ _ _ _  w x1 x2 y1 y2 h1
  cases h2 : inB 0 1073741824 ia
  · exact refBack_no2 _ _ _ _ _ _ _ _  w x1 x2 y1 y2 h1 h2
  cases h3 : inB 0 1073741824 ib
  · exact refBack_no3 _ _ _ _ _ _ _ _  w x1 x2 y1 y2 h1 h2 h3
  cases h4 : inB 0 1073741824 bw
  · exact refBack_no4 _ _ _ _ _ _ _ _  w x1 x2 y1 y2 h1 h2 h3 h4
  cases h5 : inB 0 1073741824 bh
  · exact refBack_no5 _ _ _ _ _ _ _ _  w x1 x2 y1 y2 h1 h2 h3 h4 h5
  cases h6 : farXB x
  · exact refBack_no6 _ _ _ _ _ _ _ _  w x1 x2 y1 y2 h1 h2 h3 h4 h5 h6
  cases h7 : farXB y
  · exact refBack_no7 _ _ _ _ _ _ _ _  w x1 x2 y1 y2 h1 h2 h3 h4 h5 h6 h7
  cases h9 : vertB wm di
  · exact refBack_false _ _ _ _ _ _ _ _  w x1 x2 y1 y2 h1 h2 h3 h4 h5 h6 h7 h9
  · exact refBack_true _ _ _ _ _ _ _ _  w x1 x2 y1 y2 h1 h2 h3 h4 h5 h6 h7 h9
end Go.Proofs.YtpeoadnnemlphaaDoor
