/- Layer 10: one declaration more, by the document. -/
import Derived.Test.YtnbagilcbngdcaaDoorRefSet10N
import Derived.Test.YtnbagilcbngdcaaDoorRefNamed10
import Derived.Test.YtnbagilcbngdcaaDoorRefParse3
import Derived.Deep.CutRange
import Derived.Test.YtnbagilcbngdcaaDoorHeld
namespace Go.Proofs.YtnbagilcbngdcaaDoor
open Go.RowKit
set_option linter.unusedSimpArgs false
set_option linter.unusedVariables false
set_option maxHeartbeats 4000000
set_option maxRecDepth 20000
theorem refSet_0 (s : Sty) (wr di : Int) (v : ByteArray) (w : World) (hn : v.size ≤ 140737488355328) :
    Calls Tryd.prog 41 #[modeV wr di, s.V, .int .i64 0, .string v] w fun e w' => ∃ t ok, e = .returned (.tuple #[Sty.V t, .bool ok]) ∧ Sets (setS di s 0 v) t ok ∧ Kept w w' := by
  obtain ⟨⟨⟨k, x⟩, E⟩, h⟩ : ∃ r, parseS v = r := ⟨_, rfl⟩
  have H2 := Lib.hid (fun wx => refParse10_is v k x E wx hn h)
  have hE : E = 0 ∨ E = 800 := by have := parse_err v; rw [h] at this; exact this
  rcases hE with rfl | rfl
  · have HS := Lib.hid (show Sets (setS di s 0 v) (setLen s 0 ⟨k, x⟩) true from by unfold setS; rw [if_neg (by decide), h]; exact ⟨rfl, rfl⟩)
    clear h
    have hk : Kept w w := Kept.refl w
    go_enter Tryd.func41, Tryd.ntmps41
    go_wp2_with fail
    refine with_boxes3 ?_
    intro X hX m st r
    have hsz := hk.size
    replace hk := hk.trans hX
    clear hX
    replace m_l := m.lt
    replace m_0 := m.at 0 _ rfl
    replace m_1 := m.at 1 _ rfl
    refine (H2.out _).mono ?_
    rintro e w1 ⟨rfl, hn⟩
    replace hk := hk.trans hn
    replace m := m.kept hn
    replace st := st.kept hn
    replace r := r.kept hn
    clear hn
    replace m_l := m.lt
    replace m_0 := m.at 0 _ rfl
    replace m_1 := m.at 1 _ rfl
    go_upto_region 8 with fail
    refine code_boxes1 ?_
    intro X hX y
    have hsz := hk.size
    replace hk := hk.trans hX
    replace m := m.kept hX
    replace st := st.kept hX
    replace r := r.kept hX
    clear hX
    replace m_l := m.lt
    replace m_0 := m.at 0 _ rfl
    replace m_1 := m.at 1 _ rfl
    replace y_l := y.lt
    replace y_0 := y.at 0 _ rfl
    replace y_1 := y.at 1 _ rfl
    have c0 := st.at 0 _ rfl
    have c1 := st.at 1 _ rfl
    have f0 := st.free 0
    have f1 := st.free 1
    have st_l := st.lt
    go_upto_region 25 with fail
    clear y
    clear y_l y_0 y_1
    refine code_eq ?_
    intro X eX
    have hsz := hk.size
    replace hk := (eX ▸ (by first | ((repeat (first | with_reducible exact hk | with_reducible refine Kept.alloc ?_ _ | with_reducible refine Kept.drew ?_ | with_reducible refine Kept.drewN ?_ _ | with_reducible refine Kept.set ?_ (by first | (simp; done) | (simp; omega) | omega) _)); done) | exact hk | exact (hk.alloc _) | exact ((hk.alloc _).alloc _) | exact (((hk.alloc _).alloc _).alloc _) | exact ((((hk.alloc _).alloc _).alloc _).alloc _) | exact (((((hk.alloc _).alloc _).alloc _).alloc _).alloc _) | exact ((((((hk.alloc _).alloc _).alloc _).alloc _).alloc _).alloc _) | (repeat (first | exact hk | refine Kept.alloc ?_ _ | refine Kept.drew ?_ | refine Kept.drewN ?_ _ | refine Kept.set ?_ (by first | (simp; done) | (simp; omega) | omega) _))) : Kept w X)
    replace m := m.same (X := X) (by rw [eX]; repeat (first | with_reducible rfl | with_reducible refine (Below.heap_setCell _ _ _ _ (by first | omega | (simp; done) | (simp; omega))).trans ?_ | with_reducible refine (heap_drew_ _ _).trans ?_ | with_reducible refine (heap_drewN_ _ _ _).trans ?_))
    replace st : Own X _ _ (setLen s 0 ⟨k, x⟩).C := eX ▸ ((((st.set 0 _).set 1 _)).is (by rfl))
    replace r := r.same (X := X) (by rw [eX]; repeat (first | with_reducible rfl | with_reducible refine (Below.heap_setCell _ _ _ _ (by first | omega | (simp; done) | (simp; omega))).trans ?_ | with_reducible refine (heap_drew_ _ _).trans ?_ | with_reducible refine (heap_drewN_ _ _ _).trans ?_))
    clear eX
    replace m_l := m.lt
    replace m_0 := m.at 0 _ rfl
    replace m_1 := m.at 1 _ rfl
    clear c0 c1 f0 f1
    go_wp2_with (first | (refine here_load 42 _ rfl ?_; refine wpList_load_own rfl 42 _ rfl _ rfl st _ Tryd.underlying42 rfl (by kernel_rfl) ?_) | (refine here_store 42 _ _ rfl ?_; refine wpList_store_own rfl 42 _ _ rfl _ _ rfl rfl r (by rfl) (by kernel_rfl) (by rfl) ?_; intro X oX hoX hkX; replace hk := hkX _ hk (by first | omega | (simp; omega)); replace r := oX; replace m := m.same (hoX _ (by first | omega | (simp; omega))); replace st := st.same (hoX _ (by first | omega | (simp; omega))); clear oX hoX hkX; replace m_l := m.lt; replace m_0 := m.at 0 _ rfl; replace m_1 := m.at 1 _ rfl))
    exact bodyPost_ret (results_own_tmp 42 _ Tryd.results41 rfl r Tryd.underlying42 rfl (by kernel_rfl)) rfl ⟨_, true, rfl, HS.out, hk⟩
  · have HS := Lib.hid (show Sets (setS di s 0 v) s false from by unfold setS; rw [if_neg (by decide), h, if_neg (by simp)]; rfl)
    clear h
    have hk : Kept w w := Kept.refl w
    go_enter Tryd.func41, Tryd.ntmps41
    go_wp2_with fail
    refine with_boxes3 ?_
    intro X hX m st r
    have hsz := hk.size
    replace hk := hk.trans hX
    clear hX
    replace m_l := m.lt
    replace m_0 := m.at 0 _ rfl
    replace m_1 := m.at 1 _ rfl
    refine (H2.out _).mono ?_
    rintro e w1 ⟨rfl, hn⟩
    replace hk := hk.trans hn
    replace m := m.kept hn
    replace st := st.kept hn
    replace r := r.kept hn
    clear hn
    replace m_l := m.lt
    replace m_0 := m.at 0 _ rfl
    replace m_1 := m.at 1 _ rfl
    go_upto_region 5 with fail
    refine code_boxes1 ?_
    intro X hX y
    have hsz := hk.size
    replace hk := hk.trans hX
    replace m := m.kept hX
    replace st := st.kept hX
    replace r := r.kept hX
    clear hX
    replace m_l := m.lt
    replace m_0 := m.at 0 _ rfl
    replace m_1 := m.at 1 _ rfl
    replace y_l := y.lt
    replace y_0 := y.at 0 _ rfl
    replace y_1 := y.at 1 _ rfl
    clear y
    clear y_l y_0 y_1
    go_wp2_with (first | (refine here_load 42 _ rfl ?_; refine wpList_load_own rfl 42 _ rfl _ rfl st _ Tryd.underlying42 rfl (by kernel_rfl) ?_) | (refine here_store 42 _ _ rfl ?_; refine wpList_store_own rfl 42 _ _ rfl _ _ rfl rfl r (by rfl) (by kernel_rfl) (by rfl) ?_; intro X oX hoX hkX; replace hk := hkX _ hk (by first | omega | (simp; omega)); replace r := oX; replace m := m.same (hoX _ (by first | omega | (simp; omega))); replace st := st.same (hoX _ (by first | omega | (simp; omega))); clear oX hoX hkX; replace m_l := m.lt; replace m_0 := m.at 0 _ rfl; replace m_1 := m.at 1 _ rfl))
    exact bodyPost_ret (results_own_tmp 42 _ Tryd.results41 rfl r Tryd.underlying42 rfl (by kernel_rfl)) rfl ⟨_, false, rfl, HS.out, hk⟩
theorem refSet_1 (s : Sty) (wr di : Int) (v : ByteArray) (w : World) (hn : v.size ≤ 140737488355328) :
    Calls Tryd.prog 41 #[modeV wr di, s.V, .int .i64 1, .string v] w fun e w' => ∃ t ok, e = .returned (.tuple #[Sty.V t, .bool ok]) ∧ Sets (setS di s 1 v) t ok ∧ Kept w w' := by
  obtain ⟨⟨⟨k, x⟩, E⟩, h⟩ : ∃ r, parseS v = r := ⟨_, rfl⟩
  have H2 := Lib.hid (fun wx => refParse10_is v k x E wx hn h)
  have hE : E = 0 ∨ E = 800 := by have := parse_err v; rw [h] at this; exact this
  rcases hE with rfl | rfl
  · have HS := Lib.hid (show Sets (setS di s 1 v) (setLen s 1 ⟨k, x⟩) true from by unfold setS; rw [if_neg (by decide), h]; exact ⟨rfl, rfl⟩)
    clear h
    have hk : Kept w w := Kept.refl w
    go_enter Tryd.func41, Tryd.ntmps41
    go_wp2_with fail
    refine with_boxes3 ?_
    intro X hX m st r
    have hsz := hk.size
    replace hk := hk.trans hX
    clear hX
    replace m_l := m.lt
    replace m_0 := m.at 0 _ rfl
    replace m_1 := m.at 1 _ rfl
    refine (H2.out _).mono ?_
    rintro e w1 ⟨rfl, hn⟩
    replace hk := hk.trans hn
    replace m := m.kept hn
    replace st := st.kept hn
    replace r := r.kept hn
    clear hn
    replace m_l := m.lt
    replace m_0 := m.at 0 _ rfl
    replace m_1 := m.at 1 _ rfl
    go_upto_region 10 with fail
    refine code_boxes1 ?_
    intro X hX y
    have hsz := hk.size
    replace hk := hk.trans hX
    replace m := m.kept hX
    replace st := st.kept hX
    replace r := r.kept hX
    clear hX
    replace m_l := m.lt
    replace m_0 := m.at 0 _ rfl
    replace m_1 := m.at 1 _ rfl
    replace y_l := y.lt
    replace y_0 := y.at 0 _ rfl
    replace y_1 := y.at 1 _ rfl
    have c0 := st.at 2 _ rfl
    have c1 := st.at 3 _ rfl
    have f0 := st.free 2
    have f1 := st.free 3
    have st_l := st.lt
    go_upto_region 25 with fail
    clear y
    clear y_l y_0 y_1
    refine code_eq ?_
    intro X eX
    have hsz := hk.size
    replace hk := (eX ▸ (by first | ((repeat (first | with_reducible exact hk | with_reducible refine Kept.alloc ?_ _ | with_reducible refine Kept.drew ?_ | with_reducible refine Kept.drewN ?_ _ | with_reducible refine Kept.set ?_ (by first | (simp; done) | (simp; omega) | omega) _)); done) | exact hk | exact (hk.alloc _) | exact ((hk.alloc _).alloc _) | exact (((hk.alloc _).alloc _).alloc _) | exact ((((hk.alloc _).alloc _).alloc _).alloc _) | exact (((((hk.alloc _).alloc _).alloc _).alloc _).alloc _) | exact ((((((hk.alloc _).alloc _).alloc _).alloc _).alloc _).alloc _) | (repeat (first | exact hk | refine Kept.alloc ?_ _ | refine Kept.drew ?_ | refine Kept.drewN ?_ _ | refine Kept.set ?_ (by first | (simp; done) | (simp; omega) | omega) _))) : Kept w X)
    replace m := m.same (X := X) (by rw [eX]; repeat (first | with_reducible rfl | with_reducible refine (Below.heap_setCell _ _ _ _ (by first | omega | (simp; done) | (simp; omega))).trans ?_ | with_reducible refine (heap_drew_ _ _).trans ?_ | with_reducible refine (heap_drewN_ _ _ _).trans ?_))
    replace st : Own X _ _ (setLen s 1 ⟨k, x⟩).C := eX ▸ ((((st.set 2 _).set 3 _)).is (by rfl))
    replace r := r.same (X := X) (by rw [eX]; repeat (first | with_reducible rfl | with_reducible refine (Below.heap_setCell _ _ _ _ (by first | omega | (simp; done) | (simp; omega))).trans ?_ | with_reducible refine (heap_drew_ _ _).trans ?_ | with_reducible refine (heap_drewN_ _ _ _).trans ?_))
    clear eX
    replace m_l := m.lt
    replace m_0 := m.at 0 _ rfl
    replace m_1 := m.at 1 _ rfl
    clear c0 c1 f0 f1
    go_wp2_with (first | (refine here_load 42 _ rfl ?_; refine wpList_load_own rfl 42 _ rfl _ rfl st _ Tryd.underlying42 rfl (by kernel_rfl) ?_) | (refine here_store 42 _ _ rfl ?_; refine wpList_store_own rfl 42 _ _ rfl _ _ rfl rfl r (by rfl) (by kernel_rfl) (by rfl) ?_; intro X oX hoX hkX; replace hk := hkX _ hk (by first | omega | (simp; omega)); replace r := oX; replace m := m.same (hoX _ (by first | omega | (simp; omega))); replace st := st.same (hoX _ (by first | omega | (simp; omega))); clear oX hoX hkX; replace m_l := m.lt; replace m_0 := m.at 0 _ rfl; replace m_1 := m.at 1 _ rfl))
    exact bodyPost_ret (results_own_tmp 42 _ Tryd.results41 rfl r Tryd.underlying42 rfl (by kernel_rfl)) rfl ⟨_, true, rfl, HS.out, hk⟩
  · have HS := Lib.hid (show Sets (setS di s 1 v) s false from by unfold setS; rw [if_neg (by decide), h, if_neg (by simp)]; rfl)
    clear h
    have hk : Kept w w := Kept.refl w
    go_enter Tryd.func41, Tryd.ntmps41
    go_wp2_with fail
    refine with_boxes3 ?_
    intro X hX m st r
    have hsz := hk.size
    replace hk := hk.trans hX
    clear hX
    replace m_l := m.lt
    replace m_0 := m.at 0 _ rfl
    replace m_1 := m.at 1 _ rfl
    refine (H2.out _).mono ?_
    rintro e w1 ⟨rfl, hn⟩
    replace hk := hk.trans hn
    replace m := m.kept hn
    replace st := st.kept hn
    replace r := r.kept hn
    clear hn
    replace m_l := m.lt
    replace m_0 := m.at 0 _ rfl
    replace m_1 := m.at 1 _ rfl
    go_upto_region 5 with fail
    refine code_boxes1 ?_
    intro X hX y
    have hsz := hk.size
    replace hk := hk.trans hX
    replace m := m.kept hX
    replace st := st.kept hX
    replace r := r.kept hX
    clear hX
    replace m_l := m.lt
    replace m_0 := m.at 0 _ rfl
    replace m_1 := m.at 1 _ rfl
    replace y_l := y.lt
    replace y_0 := y.at 0 _ rfl
    replace y_1 := y.at 1 _ rfl
    clear y
    clear y_l y_0 y_1
    go_wp2_with (first | (refine here_load 42 _ rfl ?_; refine wpList_load_own rfl 42 _ rfl _ rfl st _ Tryd.underlying42 rfl (by kernel_rfl) ?_) | (refine here_store 42 _ _ rfl ?_; refine wpList_store_own rfl 42 _ _ rfl _ _ rfl rfl r (by rfl) (by kernel_rfl) (by rfl) ?_; intro X oX hoX hkX; replace hk := hkX _ hk (by first | omega | (simp; omega)); replace r := oX; replace m := m.same (hoX _ (by first | omega | (simp; omega))); replace st := st.same (hoX _ (by first | omega | (simp; omega))); clear oX hoX hkX; replace m_l := m.lt; replace m_0 := m.at 0 _ rfl; replace m_1 := m.at 1 _ rfl))
    exact bodyPost_ret (results_own_tmp 42 _ Tryd.results41 rfl r Tryd.underlying42 rfl (by kernel_rfl)) rfl ⟨_, false, rfl, HS.out, hk⟩
theorem refSet_4 (s : Sty) (wr di : Int) (v : ByteArray) (w : World) (hn : v.size ≤ 140737488355328) :
    Calls Tryd.prog 41 #[modeV wr di, s.V, .int .i64 4, .string v] w fun e w' => ∃ t ok, e = .returned (.tuple #[Sty.V t, .bool ok]) ∧ Sets (setS di s 4 v) t ok ∧ Kept w w' := by
  obtain ⟨⟨⟨k, x⟩, E⟩, h⟩ : ∃ r, parseS v = r := ⟨_, rfl⟩
  have H2 := Lib.hid (fun wx => refParse10_is v k x E wx hn h)
  have hE : E = 0 ∨ E = 800 := by have := parse_err v; rw [h] at this; exact this
  rcases hE with rfl | rfl
  · have HS := Lib.hid (show Sets (setS di s 4 v) (setLen s 4 ⟨k, x⟩) true from by unfold setS; rw [if_neg (by decide), h]; exact ⟨rfl, rfl⟩)
    clear h
    have hk : Kept w w := Kept.refl w
    go_enter Tryd.func41, Tryd.ntmps41
    go_wp2_with fail
    refine with_boxes3 ?_
    intro X hX m st r
    have hsz := hk.size
    replace hk := hk.trans hX
    clear hX
    replace m_l := m.lt
    replace m_0 := m.at 0 _ rfl
    replace m_1 := m.at 1 _ rfl
    refine (H2.out _).mono ?_
    rintro e w1 ⟨rfl, hn⟩
    replace hk := hk.trans hn
    replace m := m.kept hn
    replace st := st.kept hn
    replace r := r.kept hn
    clear hn
    replace m_l := m.lt
    replace m_0 := m.at 0 _ rfl
    replace m_1 := m.at 1 _ rfl
    go_upto_region 12 with fail
    refine code_boxes1 ?_
    intro X hX y
    have hsz := hk.size
    replace hk := hk.trans hX
    replace m := m.kept hX
    replace st := st.kept hX
    replace r := r.kept hX
    clear hX
    replace m_l := m.lt
    replace m_0 := m.at 0 _ rfl
    replace m_1 := m.at 1 _ rfl
    replace y_l := y.lt
    replace y_0 := y.at 0 _ rfl
    replace y_1 := y.at 1 _ rfl
    have c0 := st.at 4 _ rfl
    have c1 := st.at 5 _ rfl
    have f0 := st.free 4
    have f1 := st.free 5
    have st_l := st.lt
    go_upto_region 25 with fail
    clear y
    clear y_l y_0 y_1
    refine code_eq ?_
    intro X eX
    have hsz := hk.size
    replace hk := (eX ▸ (by first | ((repeat (first | with_reducible exact hk | with_reducible refine Kept.alloc ?_ _ | with_reducible refine Kept.drew ?_ | with_reducible refine Kept.drewN ?_ _ | with_reducible refine Kept.set ?_ (by first | (simp; done) | (simp; omega) | omega) _)); done) | exact hk | exact (hk.alloc _) | exact ((hk.alloc _).alloc _) | exact (((hk.alloc _).alloc _).alloc _) | exact ((((hk.alloc _).alloc _).alloc _).alloc _) | exact (((((hk.alloc _).alloc _).alloc _).alloc _).alloc _) | exact ((((((hk.alloc _).alloc _).alloc _).alloc _).alloc _).alloc _) | (repeat (first | exact hk | refine Kept.alloc ?_ _ | refine Kept.drew ?_ | refine Kept.drewN ?_ _ | refine Kept.set ?_ (by first | (simp; done) | (simp; omega) | omega) _))) : Kept w X)
    replace m := m.same (X := X) (by rw [eX]; repeat (first | with_reducible rfl | with_reducible refine (Below.heap_setCell _ _ _ _ (by first | omega | (simp; done) | (simp; omega))).trans ?_ | with_reducible refine (heap_drew_ _ _).trans ?_ | with_reducible refine (heap_drewN_ _ _ _).trans ?_))
    replace st : Own X _ _ (setLen s 4 ⟨k, x⟩).C := eX ▸ ((((st.set 4 _).set 5 _)).is (by rfl))
    replace r := r.same (X := X) (by rw [eX]; repeat (first | with_reducible rfl | with_reducible refine (Below.heap_setCell _ _ _ _ (by first | omega | (simp; done) | (simp; omega))).trans ?_ | with_reducible refine (heap_drew_ _ _).trans ?_ | with_reducible refine (heap_drewN_ _ _ _).trans ?_))
    clear eX
    replace m_l := m.lt
    replace m_0 := m.at 0 _ rfl
    replace m_1 := m.at 1 _ rfl
    clear c0 c1 f0 f1
    go_wp2_with (first | (refine here_load 42 _ rfl ?_; refine wpList_load_own rfl 42 _ rfl _ rfl st _ Tryd.underlying42 rfl (by kernel_rfl) ?_) | (refine here_store 42 _ _ rfl ?_; refine wpList_store_own rfl 42 _ _ rfl _ _ rfl rfl r (by rfl) (by kernel_rfl) (by rfl) ?_; intro X oX hoX hkX; replace hk := hkX _ hk (by first | omega | (simp; omega)); replace r := oX; replace m := m.same (hoX _ (by first | omega | (simp; omega))); replace st := st.same (hoX _ (by first | omega | (simp; omega))); clear oX hoX hkX; replace m_l := m.lt; replace m_0 := m.at 0 _ rfl; replace m_1 := m.at 1 _ rfl))
    exact bodyPost_ret (results_own_tmp 42 _ Tryd.results41 rfl r Tryd.underlying42 rfl (by kernel_rfl)) rfl ⟨_, true, rfl, HS.out, hk⟩
  · have HS := Lib.hid (show Sets (setS di s 4 v) s false from by unfold setS; rw [if_neg (by decide), h, if_neg (by simp)]; rfl)
    clear h
    have hk : Kept w w := Kept.refl w
    go_enter Tryd.func41, Tryd.ntmps41
    go_wp2_with fail
    refine with_boxes3 ?_
    intro X hX m st r
    have hsz := hk.size
    replace hk := hk.trans hX
    clear hX
    replace m_l := m.lt
    replace m_0 := m.at 0 _ rfl
    replace m_1 := m.at 1 _ rfl
    refine (H2.out _).mono ?_
    rintro e w1 ⟨rfl, hn⟩
    replace hk := hk.trans hn
    replace m := m.kept hn
    replace st := st.kept hn
    replace r := r.kept hn
    clear hn
    replace m_l := m.lt
    replace m_0 := m.at 0 _ rfl
    replace m_1 := m.at 1 _ rfl
    go_upto_region 5 with fail
    refine code_boxes1 ?_
    intro X hX y
    have hsz := hk.size
    replace hk := hk.trans hX
    replace m := m.kept hX
    replace st := st.kept hX
    replace r := r.kept hX
    clear hX
    replace m_l := m.lt
    replace m_0 := m.at 0 _ rfl
    replace m_1 := m.at 1 _ rfl
    replace y_l := y.lt
    replace y_0 := y.at 0 _ rfl
    replace y_1 := y.at 1 _ rfl
    clear y
    clear y_l y_0 y_1
    go_wp2_with (first | (refine here_load 42 _ rfl ?_; refine wpList_load_own rfl 42 _ rfl _ rfl st _ Tryd.underlying42 rfl (by kernel_rfl) ?_) | (refine here_store 42 _ _ rfl ?_; refine wpList_store_own rfl 42 _ _ rfl _ _ rfl rfl r (by rfl) (by kernel_rfl) (by rfl) ?_; intro X oX hoX hkX; replace hk := hkX _ hk (by first | omega | (simp; omega)); replace r := oX; replace m := m.same (hoX _ (by first | omega | (simp; omega))); replace st := st.same (hoX _ (by first | omega | (simp; omega))); clear oX hoX hkX; replace m_l := m.lt; replace m_0 := m.at 0 _ rfl; replace m_1 := m.at 1 _ rfl))
    exact bodyPost_ret (results_own_tmp 42 _ Tryd.results41 rfl r Tryd.underlying42 rfl (by kernel_rfl)) rfl ⟨_, false, rfl, HS.out, hk⟩
theorem refSet_5 (s : Sty) (wr di : Int) (v : ByteArray) (w : World) (hn : v.size ≤ 140737488355328) :
    Calls Tryd.prog 41 #[modeV wr di, s.V, .int .i64 5, .string v] w fun e w' => ∃ t ok, e = .returned (.tuple #[Sty.V t, .bool ok]) ∧ Sets (setS di s 5 v) t ok ∧ Kept w w' := by
  obtain ⟨⟨⟨k, x⟩, E⟩, h⟩ : ∃ r, parseS v = r := ⟨_, rfl⟩
  have H2 := Lib.hid (fun wx => refParse10_is v k x E wx hn h)
  have hE : E = 0 ∨ E = 800 := by have := parse_err v; rw [h] at this; exact this
  rcases hE with rfl | rfl
  · have HS := Lib.hid (show Sets (setS di s 5 v) (setLen s 5 ⟨k, x⟩) true from by unfold setS; rw [if_neg (by decide), h]; exact ⟨rfl, rfl⟩)
    clear h
    have hk : Kept w w := Kept.refl w
    go_enter Tryd.func41, Tryd.ntmps41
    go_wp2_with fail
    refine with_boxes3 ?_
    intro X hX m st r
    have hsz := hk.size
    replace hk := hk.trans hX
    clear hX
    replace m_l := m.lt
    replace m_0 := m.at 0 _ rfl
    replace m_1 := m.at 1 _ rfl
    refine (H2.out _).mono ?_
    rintro e w1 ⟨rfl, hn⟩
    replace hk := hk.trans hn
    replace m := m.kept hn
    replace st := st.kept hn
    replace r := r.kept hn
    clear hn
    replace m_l := m.lt
    replace m_0 := m.at 0 _ rfl
    replace m_1 := m.at 1 _ rfl
    go_upto_region 14 with fail
    refine code_boxes1 ?_
    intro X hX y
    have hsz := hk.size
    replace hk := hk.trans hX
    replace m := m.kept hX
    replace st := st.kept hX
    replace r := r.kept hX
    clear hX
    replace m_l := m.lt
    replace m_0 := m.at 0 _ rfl
    replace m_1 := m.at 1 _ rfl
    replace y_l := y.lt
    replace y_0 := y.at 0 _ rfl
    replace y_1 := y.at 1 _ rfl
    have c0 := st.at 6 _ rfl
    have c1 := st.at 7 _ rfl
    have f0 := st.free 6
    have f1 := st.free 7
    have st_l := st.lt
    go_upto_region 25 with fail
    clear y
    clear y_l y_0 y_1
    refine code_eq ?_
    intro X eX
    have hsz := hk.size
    replace hk := (eX ▸ (by first | ((repeat (first | with_reducible exact hk | with_reducible refine Kept.alloc ?_ _ | with_reducible refine Kept.drew ?_ | with_reducible refine Kept.drewN ?_ _ | with_reducible refine Kept.set ?_ (by first | (simp; done) | (simp; omega) | omega) _)); done) | exact hk | exact (hk.alloc _) | exact ((hk.alloc _).alloc _) | exact (((hk.alloc _).alloc _).alloc _) | exact ((((hk.alloc _).alloc _).alloc _).alloc _) | exact (((((hk.alloc _).alloc _).alloc _).alloc _).alloc _) | exact ((((((hk.alloc _).alloc _).alloc _).alloc _).alloc _).alloc _) | (repeat (first | exact hk | refine Kept.alloc ?_ _ | refine Kept.drew ?_ | refine Kept.drewN ?_ _ | refine Kept.set ?_ (by first | (simp; done) | (simp; omega) | omega) _))) : Kept w X)
    replace m := m.same (X := X) (by rw [eX]; repeat (first | with_reducible rfl | with_reducible refine (Below.heap_setCell _ _ _ _ (by first | omega | (simp; done) | (simp; omega))).trans ?_ | with_reducible refine (heap_drew_ _ _).trans ?_ | with_reducible refine (heap_drewN_ _ _ _).trans ?_))
    replace st : Own X _ _ (setLen s 5 ⟨k, x⟩).C := eX ▸ ((((st.set 6 _).set 7 _)).is (by rfl))
    replace r := r.same (X := X) (by rw [eX]; repeat (first | with_reducible rfl | with_reducible refine (Below.heap_setCell _ _ _ _ (by first | omega | (simp; done) | (simp; omega))).trans ?_ | with_reducible refine (heap_drew_ _ _).trans ?_ | with_reducible refine (heap_drewN_ _ _ _).trans ?_))
    clear eX
    replace m_l := m.lt
    replace m_0 := m.at 0 _ rfl
    replace m_1 := m.at 1 _ rfl
    clear c0 c1 f0 f1
    go_wp2_with (first | (refine here_load 42 _ rfl ?_; refine wpList_load_own rfl 42 _ rfl _ rfl st _ Tryd.underlying42 rfl (by kernel_rfl) ?_) | (refine here_store 42 _ _ rfl ?_; refine wpList_store_own rfl 42 _ _ rfl _ _ rfl rfl r (by rfl) (by kernel_rfl) (by rfl) ?_; intro X oX hoX hkX; replace hk := hkX _ hk (by first | omega | (simp; omega)); replace r := oX; replace m := m.same (hoX _ (by first | omega | (simp; omega))); replace st := st.same (hoX _ (by first | omega | (simp; omega))); clear oX hoX hkX; replace m_l := m.lt; replace m_0 := m.at 0 _ rfl; replace m_1 := m.at 1 _ rfl))
    exact bodyPost_ret (results_own_tmp 42 _ Tryd.results41 rfl r Tryd.underlying42 rfl (by kernel_rfl)) rfl ⟨_, true, rfl, HS.out, hk⟩
  · have HS := Lib.hid (show Sets (setS di s 5 v) s false from by unfold setS; rw [if_neg (by decide), h, if_neg (by simp)]; rfl)
    clear h
    have hk : Kept w w := Kept.refl w
    go_enter Tryd.func41, Tryd.ntmps41
    go_wp2_with fail
    refine with_boxes3 ?_
    intro X hX m st r
    have hsz := hk.size
    replace hk := hk.trans hX
    clear hX
    replace m_l := m.lt
    replace m_0 := m.at 0 _ rfl
    replace m_1 := m.at 1 _ rfl
    refine (H2.out _).mono ?_
    rintro e w1 ⟨rfl, hn⟩
    replace hk := hk.trans hn
    replace m := m.kept hn
    replace st := st.kept hn
    replace r := r.kept hn
    clear hn
    replace m_l := m.lt
    replace m_0 := m.at 0 _ rfl
    replace m_1 := m.at 1 _ rfl
    go_upto_region 5 with fail
    refine code_boxes1 ?_
    intro X hX y
    have hsz := hk.size
    replace hk := hk.trans hX
    replace m := m.kept hX
    replace st := st.kept hX
    replace r := r.kept hX
    clear hX
    replace m_l := m.lt
    replace m_0 := m.at 0 _ rfl
    replace m_1 := m.at 1 _ rfl
    replace y_l := y.lt
    replace y_0 := y.at 0 _ rfl
    replace y_1 := y.at 1 _ rfl
    clear y
    clear y_l y_0 y_1
    go_wp2_with (first | (refine here_load 42 _ rfl ?_; refine wpList_load_own rfl 42 _ rfl _ rfl st _ Tryd.underlying42 rfl (by kernel_rfl) ?_) | (refine here_store 42 _ _ rfl ?_; refine wpList_store_own rfl 42 _ _ rfl _ _ rfl rfl r (by rfl) (by kernel_rfl) (by rfl) ?_; intro X oX hoX hkX; replace hk := hkX _ hk (by first | omega | (simp; omega)); replace r := oX; replace m := m.same (hoX _ (by first | omega | (simp; omega))); replace st := st.same (hoX _ (by first | omega | (simp; omega))); clear oX hoX hkX; replace m_l := m.lt; replace m_0 := m.at 0 _ rfl; replace m_1 := m.at 1 _ rfl))
    exact bodyPost_ret (results_own_tmp 42 _ Tryd.results41 rfl r Tryd.underlying42 rfl (by kernel_rfl)) rfl ⟨_, false, rfl, HS.out, hk⟩
theorem refSet_6 (s : Sty) (wr di : Int) (v : ByteArray) (w : World) (hn : v.size ≤ 140737488355328) :
    Calls Tryd.prog 41 #[modeV wr di, s.V, .int .i64 6, .string v] w fun e w' => ∃ t ok, e = .returned (.tuple #[Sty.V t, .bool ok]) ∧ Sets (setS di s 6 v) t ok ∧ Kept w w' := by
  obtain ⟨⟨⟨k, x⟩, E⟩, h⟩ : ∃ r, parseS v = r := ⟨_, rfl⟩
  have H2 := Lib.hid (fun wx => refParse10_is v k x E wx hn h)
  have hE : E = 0 ∨ E = 800 := by have := parse_err v; rw [h] at this; exact this
  rcases hE with rfl | rfl
  · have HS := Lib.hid (show Sets (setS di s 6 v) (setLen s 6 ⟨k, x⟩) true from by unfold setS; rw [if_neg (by decide), h]; exact ⟨rfl, rfl⟩)
    clear h
    have hk : Kept w w := Kept.refl w
    go_enter Tryd.func41, Tryd.ntmps41
    go_wp2_with fail
    refine with_boxes3 ?_
    intro X hX m st r
    have hsz := hk.size
    replace hk := hk.trans hX
    clear hX
    replace m_l := m.lt
    replace m_0 := m.at 0 _ rfl
    replace m_1 := m.at 1 _ rfl
    refine (H2.out _).mono ?_
    rintro e w1 ⟨rfl, hn⟩
    replace hk := hk.trans hn
    replace m := m.kept hn
    replace st := st.kept hn
    replace r := r.kept hn
    clear hn
    replace m_l := m.lt
    replace m_0 := m.at 0 _ rfl
    replace m_1 := m.at 1 _ rfl
    go_upto_region 6 with fail
    refine code_boxes1 ?_
    intro X hX y
    have hsz := hk.size
    replace hk := hk.trans hX
    replace m := m.kept hX
    replace st := st.kept hX
    replace r := r.kept hX
    clear hX
    replace m_l := m.lt
    replace m_0 := m.at 0 _ rfl
    replace m_1 := m.at 1 _ rfl
    replace y_l := y.lt
    replace y_0 := y.at 0 _ rfl
    replace y_1 := y.at 1 _ rfl
    have c0 := st.at 8 _ rfl
    have c1 := st.at 9 _ rfl
    have f0 := st.free 8
    have f1 := st.free 9
    have st_l := st.lt
    go_upto_region 25 with fail
    clear y
    clear y_l y_0 y_1
    refine code_eq ?_
    intro X eX
    have hsz := hk.size
    replace hk := (eX ▸ (by first | ((repeat (first | with_reducible exact hk | with_reducible refine Kept.alloc ?_ _ | with_reducible refine Kept.drew ?_ | with_reducible refine Kept.drewN ?_ _ | with_reducible refine Kept.set ?_ (by first | (simp; done) | (simp; omega) | omega) _)); done) | exact hk | exact (hk.alloc _) | exact ((hk.alloc _).alloc _) | exact (((hk.alloc _).alloc _).alloc _) | exact ((((hk.alloc _).alloc _).alloc _).alloc _) | exact (((((hk.alloc _).alloc _).alloc _).alloc _).alloc _) | exact ((((((hk.alloc _).alloc _).alloc _).alloc _).alloc _).alloc _) | (repeat (first | exact hk | refine Kept.alloc ?_ _ | refine Kept.drew ?_ | refine Kept.drewN ?_ _ | refine Kept.set ?_ (by first | (simp; done) | (simp; omega) | omega) _))) : Kept w X)
    replace m := m.same (X := X) (by rw [eX]; repeat (first | with_reducible rfl | with_reducible refine (Below.heap_setCell _ _ _ _ (by first | omega | (simp; done) | (simp; omega))).trans ?_ | with_reducible refine (heap_drew_ _ _).trans ?_ | with_reducible refine (heap_drewN_ _ _ _).trans ?_))
    replace st : Own X _ _ (setLen s 6 ⟨k, x⟩).C := eX ▸ ((((st.set 8 _).set 9 _)).is (by rfl))
    replace r := r.same (X := X) (by rw [eX]; repeat (first | with_reducible rfl | with_reducible refine (Below.heap_setCell _ _ _ _ (by first | omega | (simp; done) | (simp; omega))).trans ?_ | with_reducible refine (heap_drew_ _ _).trans ?_ | with_reducible refine (heap_drewN_ _ _ _).trans ?_))
    clear eX
    replace m_l := m.lt
    replace m_0 := m.at 0 _ rfl
    replace m_1 := m.at 1 _ rfl
    clear c0 c1 f0 f1
    go_wp2_with (first | (refine here_load 42 _ rfl ?_; refine wpList_load_own rfl 42 _ rfl _ rfl st _ Tryd.underlying42 rfl (by kernel_rfl) ?_) | (refine here_store 42 _ _ rfl ?_; refine wpList_store_own rfl 42 _ _ rfl _ _ rfl rfl r (by rfl) (by kernel_rfl) (by rfl) ?_; intro X oX hoX hkX; replace hk := hkX _ hk (by first | omega | (simp; omega)); replace r := oX; replace m := m.same (hoX _ (by first | omega | (simp; omega))); replace st := st.same (hoX _ (by first | omega | (simp; omega))); clear oX hoX hkX; replace m_l := m.lt; replace m_0 := m.at 0 _ rfl; replace m_1 := m.at 1 _ rfl))
    exact bodyPost_ret (results_own_tmp 42 _ Tryd.results41 rfl r Tryd.underlying42 rfl (by kernel_rfl)) rfl ⟨_, true, rfl, HS.out, hk⟩
  · have HS := Lib.hid (show Sets (setS di s 6 v) s false from by unfold setS; rw [if_neg (by decide), h, if_neg (by simp)]; rfl)
    clear h
    have hk : Kept w w := Kept.refl w
    go_enter Tryd.func41, Tryd.ntmps41
    go_wp2_with fail
    refine with_boxes3 ?_
    intro X hX m st r
    have hsz := hk.size
    replace hk := hk.trans hX
    clear hX
    replace m_l := m.lt
    replace m_0 := m.at 0 _ rfl
    replace m_1 := m.at 1 _ rfl
    refine (H2.out _).mono ?_
    rintro e w1 ⟨rfl, hn⟩
    replace hk := hk.trans hn
    replace m := m.kept hn
    replace st := st.kept hn
    replace r := r.kept hn
    clear hn
    replace m_l := m.lt
    replace m_0 := m.at 0 _ rfl
    replace m_1 := m.at 1 _ rfl
    go_upto_region 5 with fail
    refine code_boxes1 ?_
    intro X hX y
    have hsz := hk.size
    replace hk := hk.trans hX
    replace m := m.kept hX
    replace st := st.kept hX
    replace r := r.kept hX
    clear hX
    replace m_l := m.lt
    replace m_0 := m.at 0 _ rfl
    replace m_1 := m.at 1 _ rfl
    replace y_l := y.lt
    replace y_0 := y.at 0 _ rfl
    replace y_1 := y.at 1 _ rfl
    clear y
    clear y_l y_0 y_1
    go_wp2_with (first | (refine here_load 42 _ rfl ?_; refine wpList_load_own rfl 42 _ rfl _ rfl st _ Tryd.underlying42 rfl (by kernel_rfl) ?_) | (refine here_store 42 _ _ rfl ?_; refine wpList_store_own rfl 42 _ _ rfl _ _ rfl rfl r (by rfl) (by kernel_rfl) (by rfl) ?_; intro X oX hoX hkX; replace hk := hkX _ hk (by first | omega | (simp; omega)); replace r := oX; replace m := m.same (hoX _ (by first | omega | (simp; omega))); replace st := st.same (hoX _ (by first | omega | (simp; omega))); clear oX hoX hkX; replace m_l := m.lt; replace m_0 := m.at 0 _ rfl; replace m_1 := m.at 1 _ rfl))
    exact bodyPost_ret (results_own_tmp 42 _ Tryd.results41 rfl r Tryd.underlying42 rfl (by kernel_rfl)) rfl ⟨_, false, rfl, HS.out, hk⟩
theorem refSet_7 (s : Sty) (wr di : Int) (v : ByteArray) (w : World) (hn : v.size ≤ 140737488355328) :
    Calls Tryd.prog 41 #[modeV wr di, s.V, .int .i64 7, .string v] w fun e w' => ∃ t ok, e = .returned (.tuple #[Sty.V t, .bool ok]) ∧ Sets (setS di s 7 v) t ok ∧ Kept w w' := by
  obtain ⟨⟨⟨k, x⟩, E⟩, h⟩ : ∃ r, parseS v = r := ⟨_, rfl⟩
  have H2 := Lib.hid (fun wx => refParse10_is v k x E wx hn h)
  have hE : E = 0 ∨ E = 800 := by have := parse_err v; rw [h] at this; exact this
  rcases hE with rfl | rfl
  · have HS := Lib.hid (show Sets (setS di s 7 v) (setLen s 7 ⟨k, x⟩) true from by unfold setS; rw [if_neg (by decide), h]; exact ⟨rfl, rfl⟩)
    clear h
    have hk : Kept w w := Kept.refl w
    go_enter Tryd.func41, Tryd.ntmps41
    go_wp2_with fail
    refine with_boxes3 ?_
    intro X hX m st r
    have hsz := hk.size
    replace hk := hk.trans hX
    clear hX
    replace m_l := m.lt
    replace m_0 := m.at 0 _ rfl
    replace m_1 := m.at 1 _ rfl
    refine (H2.out _).mono ?_
    rintro e w1 ⟨rfl, hn⟩
    replace hk := hk.trans hn
    replace m := m.kept hn
    replace st := st.kept hn
    replace r := r.kept hn
    clear hn
    replace m_l := m.lt
    replace m_0 := m.at 0 _ rfl
    replace m_1 := m.at 1 _ rfl
    go_upto_region 6 with fail
    refine code_boxes1 ?_
    intro X hX y
    have hsz := hk.size
    replace hk := hk.trans hX
    replace m := m.kept hX
    replace st := st.kept hX
    replace r := r.kept hX
    clear hX
    replace m_l := m.lt
    replace m_0 := m.at 0 _ rfl
    replace m_1 := m.at 1 _ rfl
    replace y_l := y.lt
    replace y_0 := y.at 0 _ rfl
    replace y_1 := y.at 1 _ rfl
    have c0 := st.at 10 _ rfl
    have c1 := st.at 11 _ rfl
    have f0 := st.free 10
    have f1 := st.free 11
    have st_l := st.lt
    go_upto_region 25 with fail
    clear y
    clear y_l y_0 y_1
    refine code_eq ?_
    intro X eX
    have hsz := hk.size
    replace hk := (eX ▸ (by first | ((repeat (first | with_reducible exact hk | with_reducible refine Kept.alloc ?_ _ | with_reducible refine Kept.drew ?_ | with_reducible refine Kept.drewN ?_ _ | with_reducible refine Kept.set ?_ (by first | (simp; done) | (simp; omega) | omega) _)); done) | exact hk | exact (hk.alloc _) | exact ((hk.alloc _).alloc _) | exact (((hk.alloc _).alloc _).alloc _) | exact ((((hk.alloc _).alloc _).alloc _).alloc _) | exact (((((hk.alloc _).alloc _).alloc _).alloc _).alloc _) | exact ((((((hk.alloc _).alloc _).alloc _).alloc _).alloc _).alloc _) | (repeat (first | exact hk | refine Kept.alloc ?_ _ | refine Kept.drew ?_ | refine Kept.drewN ?_ _ | refine Kept.set ?_ (by first | (simp; done) | (simp; omega) | omega) _))) : Kept w X)
    replace m := m.same (X := X) (by rw [eX]; repeat (first | with_reducible rfl | with_reducible refine (Below.heap_setCell _ _ _ _ (by first | omega | (simp; done) | (simp; omega))).trans ?_ | with_reducible refine (heap_drew_ _ _).trans ?_ | with_reducible refine (heap_drewN_ _ _ _).trans ?_))
    replace st : Own X _ _ (setLen s 7 ⟨k, x⟩).C := eX ▸ ((((st.set 10 _).set 11 _)).is (by rfl))
    replace r := r.same (X := X) (by rw [eX]; repeat (first | with_reducible rfl | with_reducible refine (Below.heap_setCell _ _ _ _ (by first | omega | (simp; done) | (simp; omega))).trans ?_ | with_reducible refine (heap_drew_ _ _).trans ?_ | with_reducible refine (heap_drewN_ _ _ _).trans ?_))
    clear eX
    replace m_l := m.lt
    replace m_0 := m.at 0 _ rfl
    replace m_1 := m.at 1 _ rfl
    clear c0 c1 f0 f1
    go_wp2_with (first | (refine here_load 42 _ rfl ?_; refine wpList_load_own rfl 42 _ rfl _ rfl st _ Tryd.underlying42 rfl (by kernel_rfl) ?_) | (refine here_store 42 _ _ rfl ?_; refine wpList_store_own rfl 42 _ _ rfl _ _ rfl rfl r (by rfl) (by kernel_rfl) (by rfl) ?_; intro X oX hoX hkX; replace hk := hkX _ hk (by first | omega | (simp; omega)); replace r := oX; replace m := m.same (hoX _ (by first | omega | (simp; omega))); replace st := st.same (hoX _ (by first | omega | (simp; omega))); clear oX hoX hkX; replace m_l := m.lt; replace m_0 := m.at 0 _ rfl; replace m_1 := m.at 1 _ rfl))
    exact bodyPost_ret (results_own_tmp 42 _ Tryd.results41 rfl r Tryd.underlying42 rfl (by kernel_rfl)) rfl ⟨_, true, rfl, HS.out, hk⟩
  · have HS := Lib.hid (show Sets (setS di s 7 v) s false from by unfold setS; rw [if_neg (by decide), h, if_neg (by simp)]; rfl)
    clear h
    have hk : Kept w w := Kept.refl w
    go_enter Tryd.func41, Tryd.ntmps41
    go_wp2_with fail
    refine with_boxes3 ?_
    intro X hX m st r
    have hsz := hk.size
    replace hk := hk.trans hX
    clear hX
    replace m_l := m.lt
    replace m_0 := m.at 0 _ rfl
    replace m_1 := m.at 1 _ rfl
    refine (H2.out _).mono ?_
    rintro e w1 ⟨rfl, hn⟩
    replace hk := hk.trans hn
    replace m := m.kept hn
    replace st := st.kept hn
    replace r := r.kept hn
    clear hn
    replace m_l := m.lt
    replace m_0 := m.at 0 _ rfl
    replace m_1 := m.at 1 _ rfl
    go_upto_region 5 with fail
    refine code_boxes1 ?_
    intro X hX y
    have hsz := hk.size
    replace hk := hk.trans hX
    replace m := m.kept hX
    replace st := st.kept hX
    replace r := r.kept hX
    clear hX
    replace m_l := m.lt
    replace m_0 := m.at 0 _ rfl
    replace m_1 := m.at 1 _ rfl
    replace y_l := y.lt
    replace y_0 := y.at 0 _ rfl
    replace y_1 := y.at 1 _ rfl
    clear y
    clear y_l y_0 y_1
    go_wp2_with (first | (refine here_load 42 _ rfl ?_; refine wpList_load_own rfl 42 _ rfl _ rfl st _ Tryd.underlying42 rfl (by kernel_rfl) ?_) | (refine here_store 42 _ _ rfl ?_; refine wpList_store_own rfl 42 _ _ rfl _ _ rfl rfl r (by rfl) (by kernel_rfl) (by rfl) ?_; intro X oX hoX hkX; replace hk := hkX _ hk (by first | omega | (simp; omega)); replace r := oX; replace m := m.same (hoX _ (by first | omega | (simp; omega))); replace st := st.same (hoX _ (by first | omega | (simp; omega))); clear oX hoX hkX; replace m_l := m.lt; replace m_0 := m.at 0 _ rfl; replace m_1 := m.at 1 _ rfl))
    exact bodyPost_ret (results_own_tmp 42 _ Tryd.results41 rfl r Tryd.underlying42 rfl (by kernel_rfl)) rfl ⟨_, false, rfl, HS.out, hk⟩
theorem refSet_8 (s : Sty) (wr di : Int) (v : ByteArray) (w : World) (hn : v.size ≤ 140737488355328) :
    Calls Tryd.prog 41 #[modeV wr di, s.V, .int .i64 8, .string v] w fun e w' => ∃ t ok, e = .returned (.tuple #[Sty.V t, .bool ok]) ∧ Sets (setS di s 8 v) t ok ∧ Kept w w' := by
  obtain ⟨⟨⟨k, x⟩, E⟩, h⟩ : ∃ r, parseS v = r := ⟨_, rfl⟩
  have H2 := Lib.hid (fun wx => refParse10_is v k x E wx hn h)
  have hE : E = 0 ∨ E = 800 := by have := parse_err v; rw [h] at this; exact this
  rcases hE with rfl | rfl
  · have HS := Lib.hid (show Sets (setS di s 8 v) (setLen s 8 ⟨k, x⟩) true from by unfold setS; rw [if_neg (by decide), h]; exact ⟨rfl, rfl⟩)
    clear h
    have hk : Kept w w := Kept.refl w
    go_enter Tryd.func41, Tryd.ntmps41
    go_wp2_with fail
    refine with_boxes3 ?_
    intro X hX m st r
    have hsz := hk.size
    replace hk := hk.trans hX
    clear hX
    replace m_l := m.lt
    replace m_0 := m.at 0 _ rfl
    replace m_1 := m.at 1 _ rfl
    refine (H2.out _).mono ?_
    rintro e w1 ⟨rfl, hn⟩
    replace hk := hk.trans hn
    replace m := m.kept hn
    replace st := st.kept hn
    replace r := r.kept hn
    clear hn
    replace m_l := m.lt
    replace m_0 := m.at 0 _ rfl
    replace m_1 := m.at 1 _ rfl
    go_upto_region 6 with fail
    refine code_boxes1 ?_
    intro X hX y
    have hsz := hk.size
    replace hk := hk.trans hX
    replace m := m.kept hX
    replace st := st.kept hX
    replace r := r.kept hX
    clear hX
    replace m_l := m.lt
    replace m_0 := m.at 0 _ rfl
    replace m_1 := m.at 1 _ rfl
    replace y_l := y.lt
    replace y_0 := y.at 0 _ rfl
    replace y_1 := y.at 1 _ rfl
    have c0 := st.at 12 _ rfl
    have c1 := st.at 13 _ rfl
    have f0 := st.free 12
    have f1 := st.free 13
    have st_l := st.lt
    go_upto_region 25 with fail
    clear y
    clear y_l y_0 y_1
    refine code_eq ?_
    intro X eX
    have hsz := hk.size
    replace hk := (eX ▸ (by first | ((repeat (first | with_reducible exact hk | with_reducible refine Kept.alloc ?_ _ | with_reducible refine Kept.drew ?_ | with_reducible refine Kept.drewN ?_ _ | with_reducible refine Kept.set ?_ (by first | (simp; done) | (simp; omega) | omega) _)); done) | exact hk | exact (hk.alloc _) | exact ((hk.alloc _).alloc _) | exact (((hk.alloc _).alloc _).alloc _) | exact ((((hk.alloc _).alloc _).alloc _).alloc _) | exact (((((hk.alloc _).alloc _).alloc _).alloc _).alloc _) | exact ((((((hk.alloc _).alloc _).alloc _).alloc _).alloc _).alloc _) | (repeat (first | exact hk | refine Kept.alloc ?_ _ | refine Kept.drew ?_ | refine Kept.drewN ?_ _ | refine Kept.set ?_ (by first | (simp; done) | (simp; omega) | omega) _))) : Kept w X)
    replace m := m.same (X := X) (by rw [eX]; repeat (first | with_reducible rfl | with_reducible refine (Below.heap_setCell _ _ _ _ (by first | omega | (simp; done) | (simp; omega))).trans ?_ | with_reducible refine (heap_drew_ _ _).trans ?_ | with_reducible refine (heap_drewN_ _ _ _).trans ?_))
    replace st : Own X _ _ (setLen s 8 ⟨k, x⟩).C := eX ▸ ((((st.set 12 _).set 13 _)).is (by rfl))
    replace r := r.same (X := X) (by rw [eX]; repeat (first | with_reducible rfl | with_reducible refine (Below.heap_setCell _ _ _ _ (by first | omega | (simp; done) | (simp; omega))).trans ?_ | with_reducible refine (heap_drew_ _ _).trans ?_ | with_reducible refine (heap_drewN_ _ _ _).trans ?_))
    clear eX
    replace m_l := m.lt
    replace m_0 := m.at 0 _ rfl
    replace m_1 := m.at 1 _ rfl
    clear c0 c1 f0 f1
    go_wp2_with (first | (refine here_load 42 _ rfl ?_; refine wpList_load_own rfl 42 _ rfl _ rfl st _ Tryd.underlying42 rfl (by kernel_rfl) ?_) | (refine here_store 42 _ _ rfl ?_; refine wpList_store_own rfl 42 _ _ rfl _ _ rfl rfl r (by rfl) (by kernel_rfl) (by rfl) ?_; intro X oX hoX hkX; replace hk := hkX _ hk (by first | omega | (simp; omega)); replace r := oX; replace m := m.same (hoX _ (by first | omega | (simp; omega))); replace st := st.same (hoX _ (by first | omega | (simp; omega))); clear oX hoX hkX; replace m_l := m.lt; replace m_0 := m.at 0 _ rfl; replace m_1 := m.at 1 _ rfl))
    exact bodyPost_ret (results_own_tmp 42 _ Tryd.results41 rfl r Tryd.underlying42 rfl (by kernel_rfl)) rfl ⟨_, true, rfl, HS.out, hk⟩
  · have HS := Lib.hid (show Sets (setS di s 8 v) s false from by unfold setS; rw [if_neg (by decide), h, if_neg (by simp)]; rfl)
    clear h
    have hk : Kept w w := Kept.refl w
    go_enter Tryd.func41, Tryd.ntmps41
    go_wp2_with fail
    refine with_boxes3 ?_
    intro X hX m st r
    have hsz := hk.size
    replace hk := hk.trans hX
    clear hX
    replace m_l := m.lt
    replace m_0 := m.at 0 _ rfl
    replace m_1 := m.at 1 _ rfl
    refine (H2.out _).mono ?_
    rintro e w1 ⟨rfl, hn⟩
    replace hk := hk.trans hn
    replace m := m.kept hn
    replace st := st.kept hn
    replace r := r.kept hn
    clear hn
    replace m_l := m.lt
    replace m_0 := m.at 0 _ rfl
    replace m_1 := m.at 1 _ rfl
    go_upto_region 5 with fail
    refine code_boxes1 ?_
    intro X hX y
    have hsz := hk.size
    replace hk := hk.trans hX
    replace m := m.kept hX
    replace st := st.kept hX
    replace r := r.kept hX
    clear hX
    replace m_l := m.lt
    replace m_0 := m.at 0 _ rfl
    replace m_1 := m.at 1 _ rfl
    replace y_l := y.lt
    replace y_0 := y.at 0 _ rfl
    replace y_1 := y.at 1 _ rfl
    clear y
    clear y_l y_0 y_1
    go_wp2_with (first | (refine here_load 42 _ rfl ?_; refine wpList_load_own rfl 42 _ rfl _ rfl st _ Tryd.underlying42 rfl (by kernel_rfl) ?_) | (refine here_store 42 _ _ rfl ?_; refine wpList_store_own rfl 42 _ _ rfl _ _ rfl rfl r (by rfl) (by kernel_rfl) (by rfl) ?_; intro X oX hoX hkX; replace hk := hkX _ hk (by first | omega | (simp; omega)); replace r := oX; replace m := m.same (hoX _ (by first | omega | (simp; omega))); replace st := st.same (hoX _ (by first | omega | (simp; omega))); clear oX hoX hkX; replace m_l := m.lt; replace m_0 := m.at 0 _ rfl; replace m_1 := m.at 1 _ rfl))
    exact bodyPost_ret (results_own_tmp 42 _ Tryd.results41 rfl r Tryd.underlying42 rfl (by kernel_rfl)) rfl ⟨_, false, rfl, HS.out, hk⟩
theorem refSet_9 (s : Sty) (wr di : Int) (v : ByteArray) (w : World) (hn : v.size ≤ 140737488355328) :
    Calls Tryd.prog 41 #[modeV wr di, s.V, .int .i64 9, .string v] w fun e w' => ∃ t ok, e = .returned (.tuple #[Sty.V t, .bool ok]) ∧ Sets (setS di s 9 v) t ok ∧ Kept w w' := by
  obtain ⟨⟨⟨k, x⟩, E⟩, h⟩ : ∃ r, parseS v = r := ⟨_, rfl⟩
  have H2 := Lib.hid (fun wx => refParse10_is v k x E wx hn h)
  have hE : E = 0 ∨ E = 800 := by have := parse_err v; rw [h] at this; exact this
  rcases hE with rfl | rfl
  · have HS := Lib.hid (show Sets (setS di s 9 v) (setLen s 9 ⟨k, x⟩) true from by unfold setS; rw [if_neg (by decide), h]; exact ⟨rfl, rfl⟩)
    clear h
    have hk : Kept w w := Kept.refl w
    go_enter Tryd.func41, Tryd.ntmps41
    go_wp2_with fail
    refine with_boxes3 ?_
    intro X hX m st r
    have hsz := hk.size
    replace hk := hk.trans hX
    clear hX
    replace m_l := m.lt
    replace m_0 := m.at 0 _ rfl
    replace m_1 := m.at 1 _ rfl
    refine (H2.out _).mono ?_
    rintro e w1 ⟨rfl, hn⟩
    replace hk := hk.trans hn
    replace m := m.kept hn
    replace st := st.kept hn
    replace r := r.kept hn
    clear hn
    replace m_l := m.lt
    replace m_0 := m.at 0 _ rfl
    replace m_1 := m.at 1 _ rfl
    go_upto_region 6 with fail
    refine code_boxes1 ?_
    intro X hX y
    have hsz := hk.size
    replace hk := hk.trans hX
    replace m := m.kept hX
    replace st := st.kept hX
    replace r := r.kept hX
    clear hX
    replace m_l := m.lt
    replace m_0 := m.at 0 _ rfl
    replace m_1 := m.at 1 _ rfl
    replace y_l := y.lt
    replace y_0 := y.at 0 _ rfl
    replace y_1 := y.at 1 _ rfl
    have c0 := st.at 14 _ rfl
    have c1 := st.at 15 _ rfl
    have f0 := st.free 14
    have f1 := st.free 15
    have st_l := st.lt
    go_upto_region 25 with fail
    clear y
    clear y_l y_0 y_1
    refine code_eq ?_
    intro X eX
    have hsz := hk.size
    replace hk := (eX ▸ (by first | ((repeat (first | with_reducible exact hk | with_reducible refine Kept.alloc ?_ _ | with_reducible refine Kept.drew ?_ | with_reducible refine Kept.drewN ?_ _ | with_reducible refine Kept.set ?_ (by first | (simp; done) | (simp; omega) | omega) _)); done) | exact hk | exact (hk.alloc _) | exact ((hk.alloc _).alloc _) | exact (((hk.alloc _).alloc _).alloc _) | exact ((((hk.alloc _).alloc _).alloc _).alloc _) | exact (((((hk.alloc _).alloc _).alloc _).alloc _).alloc _) | exact ((((((hk.alloc _).alloc _).alloc _).alloc _).alloc _).alloc _) | (repeat (first | exact hk | refine Kept.alloc ?_ _ | refine Kept.drew ?_ | refine Kept.drewN ?_ _ | refine Kept.set ?_ (by first | (simp; done) | (simp; omega) | omega) _))) : Kept w X)
    replace m := m.same (X := X) (by rw [eX]; repeat (first | with_reducible rfl | with_reducible refine (Below.heap_setCell _ _ _ _ (by first | omega | (simp; done) | (simp; omega))).trans ?_ | with_reducible refine (heap_drew_ _ _).trans ?_ | with_reducible refine (heap_drewN_ _ _ _).trans ?_))
    replace st : Own X _ _ (setLen s 9 ⟨k, x⟩).C := eX ▸ ((((st.set 14 _).set 15 _)).is (by rfl))
    replace r := r.same (X := X) (by rw [eX]; repeat (first | with_reducible rfl | with_reducible refine (Below.heap_setCell _ _ _ _ (by first | omega | (simp; done) | (simp; omega))).trans ?_ | with_reducible refine (heap_drew_ _ _).trans ?_ | with_reducible refine (heap_drewN_ _ _ _).trans ?_))
    clear eX
    replace m_l := m.lt
    replace m_0 := m.at 0 _ rfl
    replace m_1 := m.at 1 _ rfl
    clear c0 c1 f0 f1
    go_wp2_with (first | (refine here_load 42 _ rfl ?_; refine wpList_load_own rfl 42 _ rfl _ rfl st _ Tryd.underlying42 rfl (by kernel_rfl) ?_) | (refine here_store 42 _ _ rfl ?_; refine wpList_store_own rfl 42 _ _ rfl _ _ rfl rfl r (by rfl) (by kernel_rfl) (by rfl) ?_; intro X oX hoX hkX; replace hk := hkX _ hk (by first | omega | (simp; omega)); replace r := oX; replace m := m.same (hoX _ (by first | omega | (simp; omega))); replace st := st.same (hoX _ (by first | omega | (simp; omega))); clear oX hoX hkX; replace m_l := m.lt; replace m_0 := m.at 0 _ rfl; replace m_1 := m.at 1 _ rfl))
    exact bodyPost_ret (results_own_tmp 42 _ Tryd.results41 rfl r Tryd.underlying42 rfl (by kernel_rfl)) rfl ⟨_, true, rfl, HS.out, hk⟩
  · have HS := Lib.hid (show Sets (setS di s 9 v) s false from by unfold setS; rw [if_neg (by decide), h, if_neg (by simp)]; rfl)
    clear h
    have hk : Kept w w := Kept.refl w
    go_enter Tryd.func41, Tryd.ntmps41
    go_wp2_with fail
    refine with_boxes3 ?_
    intro X hX m st r
    have hsz := hk.size
    replace hk := hk.trans hX
    clear hX
    replace m_l := m.lt
    replace m_0 := m.at 0 _ rfl
    replace m_1 := m.at 1 _ rfl
    refine (H2.out _).mono ?_
    rintro e w1 ⟨rfl, hn⟩
    replace hk := hk.trans hn
    replace m := m.kept hn
    replace st := st.kept hn
    replace r := r.kept hn
    clear hn
    replace m_l := m.lt
    replace m_0 := m.at 0 _ rfl
    replace m_1 := m.at 1 _ rfl
    go_upto_region 5 with fail
    refine code_boxes1 ?_
    intro X hX y
    have hsz := hk.size
    replace hk := hk.trans hX
    replace m := m.kept hX
    replace st := st.kept hX
    replace r := r.kept hX
    clear hX
    replace m_l := m.lt
    replace m_0 := m.at 0 _ rfl
    replace m_1 := m.at 1 _ rfl
    replace y_l := y.lt
    replace y_0 := y.at 0 _ rfl
    replace y_1 := y.at 1 _ rfl
    clear y
    clear y_l y_0 y_1
    go_wp2_with (first | (refine here_load 42 _ rfl ?_; refine wpList_load_own rfl 42 _ rfl _ rfl st _ Tryd.underlying42 rfl (by kernel_rfl) ?_) | (refine here_store 42 _ _ rfl ?_; refine wpList_store_own rfl 42 _ _ rfl _ _ rfl rfl r (by rfl) (by kernel_rfl) (by rfl) ?_; intro X oX hoX hkX; replace hk := hkX _ hk (by first | omega | (simp; omega)); replace r := oX; replace m := m.same (hoX _ (by first | omega | (simp; omega))); replace st := st.same (hoX _ (by first | omega | (simp; omega))); clear oX hoX hkX; replace m_l := m.lt; replace m_0 := m.at 0 _ rfl; replace m_1 := m.at 1 _ rfl))
    exact bodyPost_ret (results_own_tmp 42 _ Tryd.results41 rfl r Tryd.underlying42 rfl (by kernel_rfl)) rfl ⟨_, false, rfl, HS.out, hk⟩
theorem refSet_14 (s : Sty) (wr di : Int) (v : ByteArray) (w : World) (hn : v.size ≤ 140737488355328) :
    Calls Tryd.prog 41 #[modeV wr di, s.V, .int .i64 14, .string v] w fun e w' => ∃ t ok, e = .returned (.tuple #[Sty.V t, .bool ok]) ∧ Sets (setS di s 14 v) t ok ∧ Kept w w' := by
  obtain ⟨⟨⟨k, x⟩, E⟩, h⟩ : ∃ r, parseS v = r := ⟨_, rfl⟩
  have H2 := Lib.hid (fun wx => refParse10_is v k x E wx hn h)
  have hE : E = 0 ∨ E = 800 := by have := parse_err v; rw [h] at this; exact this
  rcases hE with rfl | rfl
  · have HS := Lib.hid (show Sets (setS di s 14 v) (setLen s 14 ⟨k, x⟩) true from by unfold setS; rw [if_neg (by decide), h]; exact ⟨rfl, rfl⟩)
    clear h
    have hk : Kept w w := Kept.refl w
    go_enter Tryd.func41, Tryd.ntmps41
    go_wp2_with fail
    refine with_boxes3 ?_
    intro X hX m st r
    have hsz := hk.size
    replace hk := hk.trans hX
    clear hX
    replace m_l := m.lt
    replace m_0 := m.at 0 _ rfl
    replace m_1 := m.at 1 _ rfl
    refine (H2.out _).mono ?_
    rintro e w1 ⟨rfl, hn⟩
    replace hk := hk.trans hn
    replace m := m.kept hn
    replace st := st.kept hn
    replace r := r.kept hn
    clear hn
    replace m_l := m.lt
    replace m_0 := m.at 0 _ rfl
    replace m_1 := m.at 1 _ rfl
    go_upto_region 24 with fail
    refine code_boxes1 ?_
    intro X hX y
    have hsz := hk.size
    replace hk := hk.trans hX
    replace m := m.kept hX
    replace st := st.kept hX
    replace r := r.kept hX
    clear hX
    replace m_l := m.lt
    replace m_0 := m.at 0 _ rfl
    replace m_1 := m.at 1 _ rfl
    replace y_l := y.lt
    replace y_0 := y.at 0 _ rfl
    replace y_1 := y.at 1 _ rfl
    have c0 := st.at 16 _ rfl
    have c1 := st.at 17 _ rfl
    have f0 := st.free 16
    have f1 := st.free 17
    have st_l := st.lt
    go_upto_region 25 with fail
    clear y
    clear y_l y_0 y_1
    refine code_eq ?_
    intro X eX
    have hsz := hk.size
    replace hk := (eX ▸ (by first | ((repeat (first | with_reducible exact hk | with_reducible refine Kept.alloc ?_ _ | with_reducible refine Kept.drew ?_ | with_reducible refine Kept.drewN ?_ _ | with_reducible refine Kept.set ?_ (by first | (simp; done) | (simp; omega) | omega) _)); done) | exact hk | exact (hk.alloc _) | exact ((hk.alloc _).alloc _) | exact (((hk.alloc _).alloc _).alloc _) | exact ((((hk.alloc _).alloc _).alloc _).alloc _) | exact (((((hk.alloc _).alloc _).alloc _).alloc _).alloc _) | exact ((((((hk.alloc _).alloc _).alloc _).alloc _).alloc _).alloc _) | (repeat (first | exact hk | refine Kept.alloc ?_ _ | refine Kept.drew ?_ | refine Kept.drewN ?_ _ | refine Kept.set ?_ (by first | (simp; done) | (simp; omega) | omega) _))) : Kept w X)
    replace m := m.same (X := X) (by rw [eX]; repeat (first | with_reducible rfl | with_reducible refine (Below.heap_setCell _ _ _ _ (by first | omega | (simp; done) | (simp; omega))).trans ?_ | with_reducible refine (heap_drew_ _ _).trans ?_ | with_reducible refine (heap_drewN_ _ _ _).trans ?_))
    replace st : Own X _ _ (setLen s 14 ⟨k, x⟩).C := eX ▸ ((((st.set 16 _).set 17 _)).is (by rfl))
    replace r := r.same (X := X) (by rw [eX]; repeat (first | with_reducible rfl | with_reducible refine (Below.heap_setCell _ _ _ _ (by first | omega | (simp; done) | (simp; omega))).trans ?_ | with_reducible refine (heap_drew_ _ _).trans ?_ | with_reducible refine (heap_drewN_ _ _ _).trans ?_))
    clear eX
    replace m_l := m.lt
    replace m_0 := m.at 0 _ rfl
    replace m_1 := m.at 1 _ rfl
    clear c0 c1 f0 f1
    go_wp2_with (first | (refine here_load 42 _ rfl ?_; refine wpList_load_own rfl 42 _ rfl _ rfl st _ Tryd.underlying42 rfl (by kernel_rfl) ?_) | (refine here_store 42 _ _ rfl ?_; refine wpList_store_own rfl 42 _ _ rfl _ _ rfl rfl r (by rfl) (by kernel_rfl) (by rfl) ?_; intro X oX hoX hkX; replace hk := hkX _ hk (by first | omega | (simp; omega)); replace r := oX; replace m := m.same (hoX _ (by first | omega | (simp; omega))); replace st := st.same (hoX _ (by first | omega | (simp; omega))); clear oX hoX hkX; replace m_l := m.lt; replace m_0 := m.at 0 _ rfl; replace m_1 := m.at 1 _ rfl))
    exact bodyPost_ret (results_own_tmp 42 _ Tryd.results41 rfl r Tryd.underlying42 rfl (by kernel_rfl)) rfl ⟨_, true, rfl, HS.out, hk⟩
  · have HS := Lib.hid (show Sets (setS di s 14 v) s false from by unfold setS; rw [if_neg (by decide), h, if_neg (by simp)]; rfl)
    clear h
    have hk : Kept w w := Kept.refl w
    go_enter Tryd.func41, Tryd.ntmps41
    go_wp2_with fail
    refine with_boxes3 ?_
    intro X hX m st r
    have hsz := hk.size
    replace hk := hk.trans hX
    clear hX
    replace m_l := m.lt
    replace m_0 := m.at 0 _ rfl
    replace m_1 := m.at 1 _ rfl
    refine (H2.out _).mono ?_
    rintro e w1 ⟨rfl, hn⟩
    replace hk := hk.trans hn
    replace m := m.kept hn
    replace st := st.kept hn
    replace r := r.kept hn
    clear hn
    replace m_l := m.lt
    replace m_0 := m.at 0 _ rfl
    replace m_1 := m.at 1 _ rfl
    go_upto_region 5 with fail
    refine code_boxes1 ?_
    intro X hX y
    have hsz := hk.size
    replace hk := hk.trans hX
    replace m := m.kept hX
    replace st := st.kept hX
    replace r := r.kept hX
    clear hX
    replace m_l := m.lt
    replace m_0 := m.at 0 _ rfl
    replace m_1 := m.at 1 _ rfl
    replace y_l := y.lt
    replace y_0 := y.at 0 _ rfl
    replace y_1 := y.at 1 _ rfl
    clear y
    clear y_l y_0 y_1
    go_wp2_with (first | (refine here_load 42 _ rfl ?_; refine wpList_load_own rfl 42 _ rfl _ rfl st _ Tryd.underlying42 rfl (by kernel_rfl) ?_) | (refine here_store 42 _ _ rfl ?_; refine wpList_store_own rfl 42 _ _ rfl _ _ rfl rfl r (by rfl) (by kernel_rfl) (by rfl) ?_; intro X oX hoX hkX; replace hk := hkX _ hk (by first | omega | (simp; omega)); replace r := oX; replace m := m.same (hoX _ (by first | omega | (simp; omega))); replace st := st.same (hoX _ (by first | omega | (simp; omega))); clear oX hoX hkX; replace m_l := m.lt; replace m_0 := m.at 0 _ rfl; replace m_1 := m.at 1 _ rfl))
    exact bodyPost_ret (results_own_tmp 42 _ Tryd.results41 rfl r Tryd.underlying42 rfl (by kernel_rfl)) rfl ⟨_, false, rfl, HS.out, hk⟩
theorem refSet_15 (s : Sty) (wr di : Int) (v : ByteArray) (w : World) (hn : v.size ≤ 140737488355328) :
    Calls Tryd.prog 41 #[modeV wr di, s.V, .int .i64 15, .string v] w fun e w' => ∃ t ok, e = .returned (.tuple #[Sty.V t, .bool ok]) ∧ Sets (setS di s 15 v) t ok ∧ Kept w w' := by
  obtain ⟨⟨⟨k, x⟩, E⟩, h⟩ : ∃ r, parseS v = r := ⟨_, rfl⟩
  have H2 := Lib.hid (fun wx => refParse10_is v k x E wx hn h)
  have hE : E = 0 ∨ E = 800 := by have := parse_err v; rw [h] at this; exact this
  rcases hE with rfl | rfl
  · have HS := Lib.hid (show Sets (setS di s 15 v) (setLen s 15 ⟨k, x⟩) true from by unfold setS; rw [if_neg (by decide), h]; exact ⟨rfl, rfl⟩)
    clear h
    have hk : Kept w w := Kept.refl w
    go_enter Tryd.func41, Tryd.ntmps41
    go_wp2_with fail
    refine with_boxes3 ?_
    intro X hX m st r
    have hsz := hk.size
    replace hk := hk.trans hX
    clear hX
    replace m_l := m.lt
    replace m_0 := m.at 0 _ rfl
    replace m_1 := m.at 1 _ rfl
    refine (H2.out _).mono ?_
    rintro e w1 ⟨rfl, hn⟩
    replace hk := hk.trans hn
    replace m := m.kept hn
    replace st := st.kept hn
    replace r := r.kept hn
    clear hn
    replace m_l := m.lt
    replace m_0 := m.at 0 _ rfl
    replace m_1 := m.at 1 _ rfl
    go_upto_region 24 with fail
    refine code_boxes1 ?_
    intro X hX y
    have hsz := hk.size
    replace hk := hk.trans hX
    replace m := m.kept hX
    replace st := st.kept hX
    replace r := r.kept hX
    clear hX
    replace m_l := m.lt
    replace m_0 := m.at 0 _ rfl
    replace m_1 := m.at 1 _ rfl
    replace y_l := y.lt
    replace y_0 := y.at 0 _ rfl
    replace y_1 := y.at 1 _ rfl
    have c0 := st.at 18 _ rfl
    have c1 := st.at 19 _ rfl
    have f0 := st.free 18
    have f1 := st.free 19
    have st_l := st.lt
    go_upto_region 25 with fail
    clear y
    clear y_l y_0 y_1
    refine code_eq ?_
    intro X eX
    have hsz := hk.size
    replace hk := (eX ▸ (by first | ((repeat (first | with_reducible exact hk | with_reducible refine Kept.alloc ?_ _ | with_reducible refine Kept.drew ?_ | with_reducible refine Kept.drewN ?_ _ | with_reducible refine Kept.set ?_ (by first | (simp; done) | (simp; omega) | omega) _)); done) | exact hk | exact (hk.alloc _) | exact ((hk.alloc _).alloc _) | exact (((hk.alloc _).alloc _).alloc _) | exact ((((hk.alloc _).alloc _).alloc _).alloc _) | exact (((((hk.alloc _).alloc _).alloc _).alloc _).alloc _) | exact ((((((hk.alloc _).alloc _).alloc _).alloc _).alloc _).alloc _) | (repeat (first | exact hk | refine Kept.alloc ?_ _ | refine Kept.drew ?_ | refine Kept.drewN ?_ _ | refine Kept.set ?_ (by first | (simp; done) | (simp; omega) | omega) _))) : Kept w X)
    replace m := m.same (X := X) (by rw [eX]; repeat (first | with_reducible rfl | with_reducible refine (Below.heap_setCell _ _ _ _ (by first | omega | (simp; done) | (simp; omega))).trans ?_ | with_reducible refine (heap_drew_ _ _).trans ?_ | with_reducible refine (heap_drewN_ _ _ _).trans ?_))
    replace st : Own X _ _ (setLen s 15 ⟨k, x⟩).C := eX ▸ ((((st.set 18 _).set 19 _)).is (by rfl))
    replace r := r.same (X := X) (by rw [eX]; repeat (first | with_reducible rfl | with_reducible refine (Below.heap_setCell _ _ _ _ (by first | omega | (simp; done) | (simp; omega))).trans ?_ | with_reducible refine (heap_drew_ _ _).trans ?_ | with_reducible refine (heap_drewN_ _ _ _).trans ?_))
    clear eX
    replace m_l := m.lt
    replace m_0 := m.at 0 _ rfl
    replace m_1 := m.at 1 _ rfl
    clear c0 c1 f0 f1
    go_wp2_with (first | (refine here_load 42 _ rfl ?_; refine wpList_load_own rfl 42 _ rfl _ rfl st _ Tryd.underlying42 rfl (by kernel_rfl) ?_) | (refine here_store 42 _ _ rfl ?_; refine wpList_store_own rfl 42 _ _ rfl _ _ rfl rfl r (by rfl) (by kernel_rfl) (by rfl) ?_; intro X oX hoX hkX; replace hk := hkX _ hk (by first | omega | (simp; omega)); replace r := oX; replace m := m.same (hoX _ (by first | omega | (simp; omega))); replace st := st.same (hoX _ (by first | omega | (simp; omega))); clear oX hoX hkX; replace m_l := m.lt; replace m_0 := m.at 0 _ rfl; replace m_1 := m.at 1 _ rfl))
    exact bodyPost_ret (results_own_tmp 42 _ Tryd.results41 rfl r Tryd.underlying42 rfl (by kernel_rfl)) rfl ⟨_, true, rfl, HS.out, hk⟩
  · have HS := Lib.hid (show Sets (setS di s 15 v) s false from by unfold setS; rw [if_neg (by decide), h, if_neg (by simp)]; rfl)
    clear h
    have hk : Kept w w := Kept.refl w
    go_enter Tryd.func41, Tryd.ntmps41
    go_wp2_with fail
    refine with_boxes3 ?_
    intro X hX m st r
    have hsz := hk.size
    replace hk := hk.trans hX
    clear hX
    replace m_l := m.lt
    replace m_0 := m.at 0 _ rfl
    replace m_1 := m.at 1 _ rfl
    refine (H2.out _).mono ?_
    rintro e w1 ⟨rfl, hn⟩
    replace hk := hk.trans hn
    replace m := m.kept hn
    replace st := st.kept hn
    replace r := r.kept hn
    clear hn
    replace m_l := m.lt
    replace m_0 := m.at 0 _ rfl
    replace m_1 := m.at 1 _ rfl
    go_upto_region 5 with fail
    refine code_boxes1 ?_
    intro X hX y
    have hsz := hk.size
    replace hk := hk.trans hX
    replace m := m.kept hX
    replace st := st.kept hX
    replace r := r.kept hX
    clear hX
    replace m_l := m.lt
    replace m_0 := m.at 0 _ rfl
    replace m_1 := m.at 1 _ rfl
    replace y_l := y.lt
    replace y_0 := y.at 0 _ rfl
    replace y_1 := y.at 1 _ rfl
    clear y
    clear y_l y_0 y_1
    go_wp2_with (first | (refine here_load 42 _ rfl ?_; refine wpList_load_own rfl 42 _ rfl _ rfl st _ Tryd.underlying42 rfl (by kernel_rfl) ?_) | (refine here_store 42 _ _ rfl ?_; refine wpList_store_own rfl 42 _ _ rfl _ _ rfl rfl r (by rfl) (by kernel_rfl) (by rfl) ?_; intro X oX hoX hkX; replace hk := hkX _ hk (by first | omega | (simp; omega)); replace r := oX; replace m := m.same (hoX _ (by first | omega | (simp; omega))); replace st := st.same (hoX _ (by first | omega | (simp; omega))); clear oX hoX hkX; replace m_l := m.lt; replace m_0 := m.at 0 _ rfl; replace m_1 := m.at 1 _ rfl))
    exact bodyPost_ret (results_own_tmp 42 _ Tryd.results41 rfl r Tryd.underlying42 rfl (by kernel_rfl)) rfl ⟨_, false, rfl, HS.out, hk⟩
theorem refSet_16 (s : Sty) (wr di : Int) (v : ByteArray) (w : World) (hn : v.size ≤ 140737488355328) :
    Calls Tryd.prog 41 #[modeV wr di, s.V, .int .i64 16, .string v] w fun e w' => ∃ t ok, e = .returned (.tuple #[Sty.V t, .bool ok]) ∧ Sets (setS di s 16 v) t ok ∧ Kept w w' := by
  obtain ⟨⟨⟨k, x⟩, E⟩, h⟩ : ∃ r, parseS v = r := ⟨_, rfl⟩
  have H2 := Lib.hid (fun wx => refParse10_is v k x E wx hn h)
  have hE : E = 0 ∨ E = 800 := by have := parse_err v; rw [h] at this; exact this
  rcases hE with rfl | rfl
  · have HS := Lib.hid (show Sets (setS di s 16 v) (setLen s 16 ⟨k, x⟩) true from by unfold setS; rw [if_neg (by decide), h]; exact ⟨rfl, rfl⟩)
    clear h
    have hk : Kept w w := Kept.refl w
    go_enter Tryd.func41, Tryd.ntmps41
    go_wp2_with fail
    refine with_boxes3 ?_
    intro X hX m st r
    have hsz := hk.size
    replace hk := hk.trans hX
    clear hX
    replace m_l := m.lt
    replace m_0 := m.at 0 _ rfl
    replace m_1 := m.at 1 _ rfl
    refine (H2.out _).mono ?_
    rintro e w1 ⟨rfl, hn⟩
    replace hk := hk.trans hn
    replace m := m.kept hn
    replace st := st.kept hn
    replace r := r.kept hn
    clear hn
    replace m_l := m.lt
    replace m_0 := m.at 0 _ rfl
    replace m_1 := m.at 1 _ rfl
    go_upto_region 24 with fail
    refine code_boxes1 ?_
    intro X hX y
    have hsz := hk.size
    replace hk := hk.trans hX
    replace m := m.kept hX
    replace st := st.kept hX
    replace r := r.kept hX
    clear hX
    replace m_l := m.lt
    replace m_0 := m.at 0 _ rfl
    replace m_1 := m.at 1 _ rfl
    replace y_l := y.lt
    replace y_0 := y.at 0 _ rfl
    replace y_1 := y.at 1 _ rfl
    have c0 := st.at 20 _ rfl
    have c1 := st.at 21 _ rfl
    have f0 := st.free 20
    have f1 := st.free 21
    have st_l := st.lt
    go_upto_region 25 with fail
    clear y
    clear y_l y_0 y_1
    refine code_eq ?_
    intro X eX
    have hsz := hk.size
    replace hk := (eX ▸ (by first | ((repeat (first | with_reducible exact hk | with_reducible refine Kept.alloc ?_ _ | with_reducible refine Kept.drew ?_ | with_reducible refine Kept.drewN ?_ _ | with_reducible refine Kept.set ?_ (by first | (simp; done) | (simp; omega) | omega) _)); done) | exact hk | exact (hk.alloc _) | exact ((hk.alloc _).alloc _) | exact (((hk.alloc _).alloc _).alloc _) | exact ((((hk.alloc _).alloc _).alloc _).alloc _) | exact (((((hk.alloc _).alloc _).alloc _).alloc _).alloc _) | exact ((((((hk.alloc _).alloc _).alloc _).alloc _).alloc _).alloc _) | (repeat (first | exact hk | refine Kept.alloc ?_ _ | refine Kept.drew ?_ | refine Kept.drewN ?_ _ | refine Kept.set ?_ (by first | (simp; done) | (simp; omega) | omega) _))) : Kept w X)
    replace m := m.same (X := X) (by rw [eX]; repeat (first | with_reducible rfl | with_reducible refine (Below.heap_setCell _ _ _ _ (by first | omega | (simp; done) | (simp; omega))).trans ?_ | with_reducible refine (heap_drew_ _ _).trans ?_ | with_reducible refine (heap_drewN_ _ _ _).trans ?_))
    replace st : Own X _ _ (setLen s 16 ⟨k, x⟩).C := eX ▸ ((((st.set 20 _).set 21 _)).is (by rfl))
    replace r := r.same (X := X) (by rw [eX]; repeat (first | with_reducible rfl | with_reducible refine (Below.heap_setCell _ _ _ _ (by first | omega | (simp; done) | (simp; omega))).trans ?_ | with_reducible refine (heap_drew_ _ _).trans ?_ | with_reducible refine (heap_drewN_ _ _ _).trans ?_))
    clear eX
    replace m_l := m.lt
    replace m_0 := m.at 0 _ rfl
    replace m_1 := m.at 1 _ rfl
    clear c0 c1 f0 f1
    go_wp2_with (first | (refine here_load 42 _ rfl ?_; refine wpList_load_own rfl 42 _ rfl _ rfl st _ Tryd.underlying42 rfl (by kernel_rfl) ?_) | (refine here_store 42 _ _ rfl ?_; refine wpList_store_own rfl 42 _ _ rfl _ _ rfl rfl r (by rfl) (by kernel_rfl) (by rfl) ?_; intro X oX hoX hkX; replace hk := hkX _ hk (by first | omega | (simp; omega)); replace r := oX; replace m := m.same (hoX _ (by first | omega | (simp; omega))); replace st := st.same (hoX _ (by first | omega | (simp; omega))); clear oX hoX hkX; replace m_l := m.lt; replace m_0 := m.at 0 _ rfl; replace m_1 := m.at 1 _ rfl))
    exact bodyPost_ret (results_own_tmp 42 _ Tryd.results41 rfl r Tryd.underlying42 rfl (by kernel_rfl)) rfl ⟨_, true, rfl, HS.out, hk⟩
  · have HS := Lib.hid (show Sets (setS di s 16 v) s false from by unfold setS; rw [if_neg (by decide), h, if_neg (by simp)]; rfl)
    clear h
    have hk : Kept w w := Kept.refl w
    go_enter Tryd.func41, Tryd.ntmps41
    go_wp2_with fail
    refine with_boxes3 ?_
    intro X hX m st r
    have hsz := hk.size
    replace hk := hk.trans hX
    clear hX
    replace m_l := m.lt
    replace m_0 := m.at 0 _ rfl
    replace m_1 := m.at 1 _ rfl
    refine (H2.out _).mono ?_
    rintro e w1 ⟨rfl, hn⟩
    replace hk := hk.trans hn
    replace m := m.kept hn
    replace st := st.kept hn
    replace r := r.kept hn
    clear hn
    replace m_l := m.lt
    replace m_0 := m.at 0 _ rfl
    replace m_1 := m.at 1 _ rfl
    go_upto_region 5 with fail
    refine code_boxes1 ?_
    intro X hX y
    have hsz := hk.size
    replace hk := hk.trans hX
    replace m := m.kept hX
    replace st := st.kept hX
    replace r := r.kept hX
    clear hX
    replace m_l := m.lt
    replace m_0 := m.at 0 _ rfl
    replace m_1 := m.at 1 _ rfl
    replace y_l := y.lt
    replace y_0 := y.at 0 _ rfl
    replace y_1 := y.at 1 _ rfl
    clear y
    clear y_l y_0 y_1
    go_wp2_with (first | (refine here_load 42 _ rfl ?_; refine wpList_load_own rfl 42 _ rfl _ rfl st _ Tryd.underlying42 rfl (by kernel_rfl) ?_) | (refine here_store 42 _ _ rfl ?_; refine wpList_store_own rfl 42 _ _ rfl _ _ rfl rfl r (by rfl) (by kernel_rfl) (by rfl) ?_; intro X oX hoX hkX; replace hk := hkX _ hk (by first | omega | (simp; omega)); replace r := oX; replace m := m.same (hoX _ (by first | omega | (simp; omega))); replace st := st.same (hoX _ (by first | omega | (simp; omega))); clear oX hoX hkX; replace m_l := m.lt; replace m_0 := m.at 0 _ rfl; replace m_1 := m.at 1 _ rfl))
    exact bodyPost_ret (results_own_tmp 42 _ Tryd.results41 rfl r Tryd.underlying42 rfl (by kernel_rfl)) rfl ⟨_, false, rfl, HS.out, hk⟩
theorem refSet_17 (s : Sty) (wr di : Int) (v : ByteArray) (w : World) (hn : v.size ≤ 140737488355328) :
    Calls Tryd.prog 41 #[modeV wr di, s.V, .int .i64 17, .string v] w fun e w' => ∃ t ok, e = .returned (.tuple #[Sty.V t, .bool ok]) ∧ Sets (setS di s 17 v) t ok ∧ Kept w w' := by
  obtain ⟨⟨⟨k, x⟩, E⟩, h⟩ : ∃ r, parseS v = r := ⟨_, rfl⟩
  have H2 := Lib.hid (fun wx => refParse10_is v k x E wx hn h)
  have hE : E = 0 ∨ E = 800 := by have := parse_err v; rw [h] at this; exact this
  rcases hE with rfl | rfl
  · have HS := Lib.hid (show Sets (setS di s 17 v) (setLen s 17 ⟨k, x⟩) true from by unfold setS; rw [if_neg (by decide), h]; exact ⟨rfl, rfl⟩)
    clear h
    have hk : Kept w w := Kept.refl w
    go_enter Tryd.func41, Tryd.ntmps41
    go_wp2_with fail
    refine with_boxes3 ?_
    intro X hX m st r
    have hsz := hk.size
    replace hk := hk.trans hX
    clear hX
    replace m_l := m.lt
    replace m_0 := m.at 0 _ rfl
    replace m_1 := m.at 1 _ rfl
    refine (H2.out _).mono ?_
    rintro e w1 ⟨rfl, hn⟩
    replace hk := hk.trans hn
    replace m := m.kept hn
    replace st := st.kept hn
    replace r := r.kept hn
    clear hn
    replace m_l := m.lt
    replace m_0 := m.at 0 _ rfl
    replace m_1 := m.at 1 _ rfl
    go_upto_region 24 with fail
    refine code_boxes1 ?_
    intro X hX y
    have hsz := hk.size
    replace hk := hk.trans hX
    replace m := m.kept hX
    replace st := st.kept hX
    replace r := r.kept hX
    clear hX
    replace m_l := m.lt
    replace m_0 := m.at 0 _ rfl
    replace m_1 := m.at 1 _ rfl
    replace y_l := y.lt
    replace y_0 := y.at 0 _ rfl
    replace y_1 := y.at 1 _ rfl
    have c0 := st.at 22 _ rfl
    have c1 := st.at 23 _ rfl
    have f0 := st.free 22
    have f1 := st.free 23
    have st_l := st.lt
    go_upto_region 25 with fail
    clear y
    clear y_l y_0 y_1
    refine code_eq ?_
    intro X eX
    have hsz := hk.size
    replace hk := (eX ▸ (by first | ((repeat (first | with_reducible exact hk | with_reducible refine Kept.alloc ?_ _ | with_reducible refine Kept.drew ?_ | with_reducible refine Kept.drewN ?_ _ | with_reducible refine Kept.set ?_ (by first | (simp; done) | (simp; omega) | omega) _)); done) | exact hk | exact (hk.alloc _) | exact ((hk.alloc _).alloc _) | exact (((hk.alloc _).alloc _).alloc _) | exact ((((hk.alloc _).alloc _).alloc _).alloc _) | exact (((((hk.alloc _).alloc _).alloc _).alloc _).alloc _) | exact ((((((hk.alloc _).alloc _).alloc _).alloc _).alloc _).alloc _) | (repeat (first | exact hk | refine Kept.alloc ?_ _ | refine Kept.drew ?_ | refine Kept.drewN ?_ _ | refine Kept.set ?_ (by first | (simp; done) | (simp; omega) | omega) _))) : Kept w X)
    replace m := m.same (X := X) (by rw [eX]; repeat (first | with_reducible rfl | with_reducible refine (Below.heap_setCell _ _ _ _ (by first | omega | (simp; done) | (simp; omega))).trans ?_ | with_reducible refine (heap_drew_ _ _).trans ?_ | with_reducible refine (heap_drewN_ _ _ _).trans ?_))
    replace st : Own X _ _ (setLen s 17 ⟨k, x⟩).C := eX ▸ ((((st.set 22 _).set 23 _)).is (by rfl))
    replace r := r.same (X := X) (by rw [eX]; repeat (first | with_reducible rfl | with_reducible refine (Below.heap_setCell _ _ _ _ (by first | omega | (simp; done) | (simp; omega))).trans ?_ | with_reducible refine (heap_drew_ _ _).trans ?_ | with_reducible refine (heap_drewN_ _ _ _).trans ?_))
    clear eX
    replace m_l := m.lt
    replace m_0 := m.at 0 _ rfl
    replace m_1 := m.at 1 _ rfl
    clear c0 c1 f0 f1
    go_wp2_with (first | (refine here_load 42 _ rfl ?_; refine wpList_load_own rfl 42 _ rfl _ rfl st _ Tryd.underlying42 rfl (by kernel_rfl) ?_) | (refine here_store 42 _ _ rfl ?_; refine wpList_store_own rfl 42 _ _ rfl _ _ rfl rfl r (by rfl) (by kernel_rfl) (by rfl) ?_; intro X oX hoX hkX; replace hk := hkX _ hk (by first | omega | (simp; omega)); replace r := oX; replace m := m.same (hoX _ (by first | omega | (simp; omega))); replace st := st.same (hoX _ (by first | omega | (simp; omega))); clear oX hoX hkX; replace m_l := m.lt; replace m_0 := m.at 0 _ rfl; replace m_1 := m.at 1 _ rfl))
    exact bodyPost_ret (results_own_tmp 42 _ Tryd.results41 rfl r Tryd.underlying42 rfl (by kernel_rfl)) rfl ⟨_, true, rfl, HS.out, hk⟩
  · have HS := Lib.hid (show Sets (setS di s 17 v) s false from by unfold setS; rw [if_neg (by decide), h, if_neg (by simp)]; rfl)
    clear h
    have hk : Kept w w := Kept.refl w
    go_enter Tryd.func41, Tryd.ntmps41
    go_wp2_with fail
    refine with_boxes3 ?_
    intro X hX m st r
    have hsz := hk.size
    replace hk := hk.trans hX
    clear hX
    replace m_l := m.lt
    replace m_0 := m.at 0 _ rfl
    replace m_1 := m.at 1 _ rfl
    refine (H2.out _).mono ?_
    rintro e w1 ⟨rfl, hn⟩
    replace hk := hk.trans hn
    replace m := m.kept hn
    replace st := st.kept hn
    replace r := r.kept hn
    clear hn
    replace m_l := m.lt
    replace m_0 := m.at 0 _ rfl
    replace m_1 := m.at 1 _ rfl
    go_upto_region 5 with fail
    refine code_boxes1 ?_
    intro X hX y
    have hsz := hk.size
    replace hk := hk.trans hX
    replace m := m.kept hX
    replace st := st.kept hX
    replace r := r.kept hX
    clear hX
    replace m_l := m.lt
    replace m_0 := m.at 0 _ rfl
    replace m_1 := m.at 1 _ rfl
    replace y_l := y.lt
    replace y_0 := y.at 0 _ rfl
    replace y_1 := y.at 1 _ rfl
    clear y
    clear y_l y_0 y_1
    go_wp2_with (first | (refine here_load 42 _ rfl ?_; refine wpList_load_own rfl 42 _ rfl _ rfl st _ Tryd.underlying42 rfl (by kernel_rfl) ?_) | (refine here_store 42 _ _ rfl ?_; refine wpList_store_own rfl 42 _ _ rfl _ _ rfl rfl r (by rfl) (by kernel_rfl) (by rfl) ?_; intro X oX hoX hkX; replace hk := hkX _ hk (by first | omega | (simp; omega)); replace r := oX; replace m := m.same (hoX _ (by first | omega | (simp; omega))); replace st := st.same (hoX _ (by first | omega | (simp; omega))); clear oX hoX hkX; replace m_l := m.lt; replace m_0 := m.at 0 _ rfl; replace m_1 := m.at 1 _ rfl))
    exact bodyPost_ret (results_own_tmp 42 _ Tryd.results41 rfl r Tryd.underlying42 rfl (by kernel_rfl)) rfl ⟨_, false, rfl, HS.out, hk⟩
theorem refSet_22 (s : Sty) (wr di : Int) (v : ByteArray) (w : World) (hn : v.size ≤ 140737488355328) :
    Calls Tryd.prog 41 #[modeV wr di, s.V, .int .i64 22, .string v] w fun e w' => ∃ t ok, e = .returned (.tuple #[Sty.V t, .bool ok]) ∧ Sets (setS di s 22 v) t ok ∧ Kept w w' := by
  obtain ⟨⟨⟨k, x⟩, E⟩, h⟩ : ∃ r, parseS v = r := ⟨_, rfl⟩
  have H2 := Lib.hid (fun wx => refParse10_is v k x E wx hn h)
  have hE : E = 0 ∨ E = 800 := by have := parse_err v; rw [h] at this; exact this
  rcases hE with rfl | rfl
  · have HS := Lib.hid (show Sets (setS di s 22 v) (setLen s 22 ⟨k, x⟩) true from by unfold setS; rw [if_neg (by decide), h]; exact ⟨rfl, rfl⟩)
    clear h
    have hk : Kept w w := Kept.refl w
    go_enter Tryd.func41, Tryd.ntmps41
    go_wp2_with fail
    refine with_boxes3 ?_
    intro X hX m st r
    have hsz := hk.size
    replace hk := hk.trans hX
    clear hX
    replace m_l := m.lt
    replace m_0 := m.at 0 _ rfl
    replace m_1 := m.at 1 _ rfl
    refine (H2.out _).mono ?_
    rintro e w1 ⟨rfl, hn⟩
    replace hk := hk.trans hn
    replace m := m.kept hn
    replace st := st.kept hn
    replace r := r.kept hn
    clear hn
    replace m_l := m.lt
    replace m_0 := m.at 0 _ rfl
    replace m_1 := m.at 1 _ rfl
    go_upto_region 16 with fail
    refine code_boxes1 ?_
    intro X hX y
    have hsz := hk.size
    replace hk := hk.trans hX
    replace m := m.kept hX
    replace st := st.kept hX
    replace r := r.kept hX
    clear hX
    replace m_l := m.lt
    replace m_0 := m.at 0 _ rfl
    replace m_1 := m.at 1 _ rfl
    replace y_l := y.lt
    replace y_0 := y.at 0 _ rfl
    replace y_1 := y.at 1 _ rfl
    have c0 := st.at 24 _ rfl
    have c1 := st.at 25 _ rfl
    have f0 := st.free 24
    have f1 := st.free 25
    have st_l := st.lt
    go_upto_region 25 with fail
    clear y
    clear y_l y_0 y_1
    refine code_eq ?_
    intro X eX
    have hsz := hk.size
    replace hk := (eX ▸ (by first | ((repeat (first | with_reducible exact hk | with_reducible refine Kept.alloc ?_ _ | with_reducible refine Kept.drew ?_ | with_reducible refine Kept.drewN ?_ _ | with_reducible refine Kept.set ?_ (by first | (simp; done) | (simp; omega) | omega) _)); done) | exact hk | exact (hk.alloc _) | exact ((hk.alloc _).alloc _) | exact (((hk.alloc _).alloc _).alloc _) | exact ((((hk.alloc _).alloc _).alloc _).alloc _) | exact (((((hk.alloc _).alloc _).alloc _).alloc _).alloc _) | exact ((((((hk.alloc _).alloc _).alloc _).alloc _).alloc _).alloc _) | (repeat (first | exact hk | refine Kept.alloc ?_ _ | refine Kept.drew ?_ | refine Kept.drewN ?_ _ | refine Kept.set ?_ (by first | (simp; done) | (simp; omega) | omega) _))) : Kept w X)
    replace m := m.same (X := X) (by rw [eX]; repeat (first | with_reducible rfl | with_reducible refine (Below.heap_setCell _ _ _ _ (by first | omega | (simp; done) | (simp; omega))).trans ?_ | with_reducible refine (heap_drew_ _ _).trans ?_ | with_reducible refine (heap_drewN_ _ _ _).trans ?_))
    replace st : Own X _ _ (setLen s 22 ⟨k, x⟩).C := eX ▸ ((((st.set 24 _).set 25 _)).is (by rfl))
    replace r := r.same (X := X) (by rw [eX]; repeat (first | with_reducible rfl | with_reducible refine (Below.heap_setCell _ _ _ _ (by first | omega | (simp; done) | (simp; omega))).trans ?_ | with_reducible refine (heap_drew_ _ _).trans ?_ | with_reducible refine (heap_drewN_ _ _ _).trans ?_))
    clear eX
    replace m_l := m.lt
    replace m_0 := m.at 0 _ rfl
    replace m_1 := m.at 1 _ rfl
    clear c0 c1 f0 f1
    go_wp2_with (first | (refine here_load 42 _ rfl ?_; refine wpList_load_own rfl 42 _ rfl _ rfl st _ Tryd.underlying42 rfl (by kernel_rfl) ?_) | (refine here_store 42 _ _ rfl ?_; refine wpList_store_own rfl 42 _ _ rfl _ _ rfl rfl r (by rfl) (by kernel_rfl) (by rfl) ?_; intro X oX hoX hkX; replace hk := hkX _ hk (by first | omega | (simp; omega)); replace r := oX; replace m := m.same (hoX _ (by first | omega | (simp; omega))); replace st := st.same (hoX _ (by first | omega | (simp; omega))); clear oX hoX hkX; replace m_l := m.lt; replace m_0 := m.at 0 _ rfl; replace m_1 := m.at 1 _ rfl))
    exact bodyPost_ret (results_own_tmp 42 _ Tryd.results41 rfl r Tryd.underlying42 rfl (by kernel_rfl)) rfl ⟨_, true, rfl, HS.out, hk⟩
  · have HS := Lib.hid (show Sets (setS di s 22 v) s false from by unfold setS; rw [if_neg (by decide), h, if_neg (by simp)]; rfl)
    clear h
    have hk : Kept w w := Kept.refl w
    go_enter Tryd.func41, Tryd.ntmps41
    go_wp2_with fail
    refine with_boxes3 ?_
    intro X hX m st r
    have hsz := hk.size
    replace hk := hk.trans hX
    clear hX
    replace m_l := m.lt
    replace m_0 := m.at 0 _ rfl
    replace m_1 := m.at 1 _ rfl
    refine (H2.out _).mono ?_
    rintro e w1 ⟨rfl, hn⟩
    replace hk := hk.trans hn
    replace m := m.kept hn
    replace st := st.kept hn
    replace r := r.kept hn
    clear hn
    replace m_l := m.lt
    replace m_0 := m.at 0 _ rfl
    replace m_1 := m.at 1 _ rfl
    go_upto_region 5 with fail
    refine code_boxes1 ?_
    intro X hX y
    have hsz := hk.size
    replace hk := hk.trans hX
    replace m := m.kept hX
    replace st := st.kept hX
    replace r := r.kept hX
    clear hX
    replace m_l := m.lt
    replace m_0 := m.at 0 _ rfl
    replace m_1 := m.at 1 _ rfl
    replace y_l := y.lt
    replace y_0 := y.at 0 _ rfl
    replace y_1 := y.at 1 _ rfl
    clear y
    clear y_l y_0 y_1
    go_wp2_with (first | (refine here_load 42 _ rfl ?_; refine wpList_load_own rfl 42 _ rfl _ rfl st _ Tryd.underlying42 rfl (by kernel_rfl) ?_) | (refine here_store 42 _ _ rfl ?_; refine wpList_store_own rfl 42 _ _ rfl _ _ rfl rfl r (by rfl) (by kernel_rfl) (by rfl) ?_; intro X oX hoX hkX; replace hk := hkX _ hk (by first | omega | (simp; omega)); replace r := oX; replace m := m.same (hoX _ (by first | omega | (simp; omega))); replace st := st.same (hoX _ (by first | omega | (simp; omega))); clear oX hoX hkX; replace m_l := m.lt; replace m_0 := m.at 0 _ rfl; replace m_1 := m.at 1 _ rfl))
    exact bodyPost_ret (results_own_tmp 42 _ Tryd.results41 rfl r Tryd.underlying42 rfl (by kernel_rfl)) rfl ⟨_, false, rfl, HS.out, hk⟩
end Go.Proofs.YtnbagilcbngdcaaDoor
