/- Layer 10: one declaration more, by the program. -/
import Derived.Test.YtnbagilcbngdcaaDoorSet10A
import Derived.Test.YtnbagilcbngdcaaDoorLengthOf
import Derived.Deep.CutRange
namespace Go.Proofs.YtnbagilcbngdcaaDoor
open Go.RowKit
set_option linter.unusedSimpArgs false
set_option linter.unusedVariables false
set_option maxHeartbeats 4000000
set_option maxRecDepth 20000
theorem set_0 (s : Sty) (wr di q : Int) (v : ByteArray) (w : World) (hn : v.size ≤ 140737488355328) (hp : Pow w) (ht : Tab w) (hm : mapS wr di q = (0, 0)) :
    Calls Tryd.prog 38 #[s.V, modeV wr di, .agg #[.int .i64 q, .string v]] w fun e w' => ∃ t ok, e = .returned (.tuple #[Sty.V t, .bool ok]) ∧ Sets (setS di s 0 v) t ok ∧ Kept w w' := by
  have H1 := Lib.hid (fun wx (hx : Tab wx) => (show Calls Tryd.prog 55 #[modeV wr di, .int .i64 q] wx (fun e w' => e = .returned (.tuple #[.int .i64 0, .int .i64 0]) ∧ Kept wx w') from by have := propMap_any wr di q wx hx; rw [hm] at this; exact this))
  clear hm
  obtain ⟨⟨⟨k, x⟩, E⟩, h⟩ : ∃ r, parseS v = r := ⟨_, rfl⟩
  have H2 := Lib.hid (fun wx (hx : Pow wx) => parse10_is v k x E wx hn hx h)
  have hE : E = 0 ∨ E = 800 := by have := parse_err v; rw [h] at this; exact this
  have HS : Sets (setS di s 0 v) (setLen s 0 ⟨k, x⟩) (E == 0) := by
    unfold setS
    rw [if_neg (by decide), h]
    rcases hE with rfl | rfl
    · exact ⟨rfl, rfl⟩
    · exact rfl
  replace HS := Lib.hid HS
  clear h hE
  obtain ⟨ok, hok⟩ : ∃ b, (E == 0) = b := ⟨_, rfl⟩
  rw [hok] at HS
  have hk : Kept w w := Kept.refl w
  go_enter Tryd.func38, Tryd.ntmps38
  go_wp2_with fail
  refine with_boxes4 ?_
  intro X hX st m d r
  have hsz := hk.size
  replace hk := hk.trans hX
  clear hX
  replace m_l := m.lt
  replace m_0 := m.at 0 _ rfl
  replace m_1 := m.at 1 _ rfl
  replace d_l := d.lt
  replace d_0 := d.at 0 _ rfl
  replace d_1 := d.at 1 _ rfl
  refine (H1.out _ (ht.kept hk)).mono ?_
  rintro e w1 ⟨rfl, hn⟩
  replace hk := hk.trans hn
  replace st := st.kept hn
  replace m := m.kept hn
  replace d := d.kept hn
  replace r := r.kept hn
  clear hn
  replace m_l := m.lt
  replace m_0 := m.at 0 _ rfl
  replace m_1 := m.at 1 _ rfl
  replace d_l := d.lt
  replace d_0 := d.at 0 _ rfl
  replace d_1 := d.at 1 _ rfl
  go_wp2_with fail
  refine (lengthOf_0 _ _).mono ?_
  rintro e w1 ⟨rfl, rfl⟩
  go_wp2_with fail
  refine (H2.out _ (hp.kept hk)).mono ?_
  rintro e w1 ⟨rfl, hn⟩
  replace hk := hk.trans hn
  replace st := st.kept hn
  replace m := m.kept hn
  replace d := d.kept hn
  replace r := r.kept hn
  clear hn
  replace m_l := m.lt
  replace m_0 := m.at 0 _ rfl
  replace m_1 := m.at 1 _ rfl
  replace d_l := d.lt
  replace d_0 := d.at 0 _ rfl
  replace d_1 := d.at 1 _ rfl
  go_upto_region 5 with fail
  refine code_boxes1 ?_
  intro X hX y
  have hsz := hk.size
  replace hk := hk.trans hX
  replace st := st.kept hX
  replace m := m.kept hX
  replace d := d.kept hX
  replace r := r.kept hX
  clear hX
  replace m_l := m.lt
  replace m_0 := m.at 0 _ rfl
  replace m_1 := m.at 1 _ rfl
  replace d_l := d.lt
  replace d_0 := d.at 0 _ rfl
  replace d_1 := d.at 1 _ rfl
  replace y_l := y.lt
  replace y_0 := y.at 0 _ rfl
  replace y_1 := y.at 1 _ rfl
  have c0 := st.at 0 _ rfl
  have c1 := st.at 1 _ rfl
  have f0 := st.free 0
  have f1 := st.free 1
  have st_l := st.lt
  go_upto_region 6 with fail
  clear y
  clear y_l y_0 y_1
  refine code_eq ?_
  intro X eX
  have hsz := hk.size
  replace hk := (eX ▸ (by first | ((repeat (first | with_reducible exact hk | with_reducible refine Kept.alloc ?_ _ | with_reducible refine Kept.drew ?_ | with_reducible refine Kept.drewN ?_ _ | with_reducible refine Kept.set ?_ (by first | (simp; done) | (simp; omega) | omega) _)); done) | exact hk | exact (hk.alloc _) | exact ((hk.alloc _).alloc _) | exact (((hk.alloc _).alloc _).alloc _) | exact ((((hk.alloc _).alloc _).alloc _).alloc _) | exact (((((hk.alloc _).alloc _).alloc _).alloc _).alloc _) | exact ((((((hk.alloc _).alloc _).alloc _).alloc _).alloc _).alloc _) | (repeat (first | exact hk | refine Kept.alloc ?_ _ | refine Kept.drew ?_ | refine Kept.drewN ?_ _ | refine Kept.set ?_ (by first | (simp; done) | (simp; omega) | omega) _))) : Kept w X)
  replace st : Own X _ _ (setLen s 0 ⟨k, x⟩).C := eX ▸ ((((st.set 0 _).set 1 _)).is (by rfl))
  replace m := m.same (X := X) (by rw [eX]; repeat (first | with_reducible rfl | with_reducible refine (Below.heap_setCell _ _ _ _ (by first | omega | (simp; done) | (simp; omega))).trans ?_ | with_reducible refine (heap_drew_ _ _).trans ?_ | with_reducible refine (heap_drewN_ _ _ _).trans ?_))
  replace d := d.same (X := X) (by rw [eX]; repeat (first | with_reducible rfl | with_reducible refine (Below.heap_setCell _ _ _ _ (by first | omega | (simp; done) | (simp; omega))).trans ?_ | with_reducible refine (heap_drew_ _ _).trans ?_ | with_reducible refine (heap_drewN_ _ _ _).trans ?_))
  replace r := r.same (X := X) (by rw [eX]; repeat (first | with_reducible rfl | with_reducible refine (Below.heap_setCell _ _ _ _ (by first | omega | (simp; done) | (simp; omega))).trans ?_ | with_reducible refine (heap_drew_ _ _).trans ?_ | with_reducible refine (heap_drewN_ _ _ _).trans ?_))
  clear eX
  replace m_l := m.lt
  replace m_0 := m.at 0 _ rfl
  replace m_1 := m.at 1 _ rfl
  replace d_l := d.lt
  replace d_0 := d.at 0 _ rfl
  replace d_1 := d.at 1 _ rfl
  clear c0 c1 f0 f1
  go_wp2_with (first | (refine here_load 42 _ rfl ?_; refine wpList_load_own rfl 42 _ rfl _ rfl st _ Tryd.underlying42 rfl (by kernel_rfl) ?_) | (refine here_store 42 _ _ rfl ?_; refine wpList_store_own rfl 42 _ _ rfl _ _ rfl rfl r (by rfl) (by kernel_rfl) (by rfl) ?_; intro X oX hoX hkX; replace hk := hkX _ hk (by first | omega | (simp; omega)); replace r := oX; replace st := st.same (hoX _ (by first | omega | (simp; omega))); replace m := m.same (hoX _ (by first | omega | (simp; omega))); replace d := d.same (hoX _ (by first | omega | (simp; omega))); clear oX hoX hkX; replace m_l := m.lt; replace m_0 := m.at 0 _ rfl; replace m_1 := m.at 1 _ rfl; replace d_l := d.lt; replace d_0 := d.at 0 _ rfl; replace d_1 := d.at 1 _ rfl))
  exact bodyPost_ret (results_own_tmp 42 _ Tryd.results38 rfl r Tryd.underlying42 rfl (by kernel_rfl)) rfl ⟨_, ok, rfl, HS.out, hk⟩
theorem set_1 (s : Sty) (wr di q : Int) (v : ByteArray) (w : World) (hn : v.size ≤ 140737488355328) (hp : Pow w) (ht : Tab w) (hm : mapS wr di q = (1, 0)) :
    Calls Tryd.prog 38 #[s.V, modeV wr di, .agg #[.int .i64 q, .string v]] w fun e w' => ∃ t ok, e = .returned (.tuple #[Sty.V t, .bool ok]) ∧ Sets (setS di s 1 v) t ok ∧ Kept w w' := by
  have H1 := Lib.hid (fun wx (hx : Tab wx) => (show Calls Tryd.prog 55 #[modeV wr di, .int .i64 q] wx (fun e w' => e = .returned (.tuple #[.int .i64 1, .int .i64 0]) ∧ Kept wx w') from by have := propMap_any wr di q wx hx; rw [hm] at this; exact this))
  clear hm
  obtain ⟨⟨⟨k, x⟩, E⟩, h⟩ : ∃ r, parseS v = r := ⟨_, rfl⟩
  have H2 := Lib.hid (fun wx (hx : Pow wx) => parse10_is v k x E wx hn hx h)
  have hE : E = 0 ∨ E = 800 := by have := parse_err v; rw [h] at this; exact this
  have HS : Sets (setS di s 1 v) (setLen s 1 ⟨k, x⟩) (E == 0) := by
    unfold setS
    rw [if_neg (by decide), h]
    rcases hE with rfl | rfl
    · exact ⟨rfl, rfl⟩
    · exact rfl
  replace HS := Lib.hid HS
  clear h hE
  obtain ⟨ok, hok⟩ : ∃ b, (E == 0) = b := ⟨_, rfl⟩
  rw [hok] at HS
  have hk : Kept w w := Kept.refl w
  go_enter Tryd.func38, Tryd.ntmps38
  go_wp2_with fail
  refine with_boxes4 ?_
  intro X hX st m d r
  have hsz := hk.size
  replace hk := hk.trans hX
  clear hX
  replace m_l := m.lt
  replace m_0 := m.at 0 _ rfl
  replace m_1 := m.at 1 _ rfl
  replace d_l := d.lt
  replace d_0 := d.at 0 _ rfl
  replace d_1 := d.at 1 _ rfl
  refine (H1.out _ (ht.kept hk)).mono ?_
  rintro e w1 ⟨rfl, hn⟩
  replace hk := hk.trans hn
  replace st := st.kept hn
  replace m := m.kept hn
  replace d := d.kept hn
  replace r := r.kept hn
  clear hn
  replace m_l := m.lt
  replace m_0 := m.at 0 _ rfl
  replace m_1 := m.at 1 _ rfl
  replace d_l := d.lt
  replace d_0 := d.at 0 _ rfl
  replace d_1 := d.at 1 _ rfl
  go_wp2_with fail
  refine (lengthOf_1 _ _).mono ?_
  rintro e w1 ⟨rfl, rfl⟩
  go_wp2_with fail
  refine (H2.out _ (hp.kept hk)).mono ?_
  rintro e w1 ⟨rfl, hn⟩
  replace hk := hk.trans hn
  replace st := st.kept hn
  replace m := m.kept hn
  replace d := d.kept hn
  replace r := r.kept hn
  clear hn
  replace m_l := m.lt
  replace m_0 := m.at 0 _ rfl
  replace m_1 := m.at 1 _ rfl
  replace d_l := d.lt
  replace d_0 := d.at 0 _ rfl
  replace d_1 := d.at 1 _ rfl
  go_upto_region 5 with fail
  refine code_boxes1 ?_
  intro X hX y
  have hsz := hk.size
  replace hk := hk.trans hX
  replace st := st.kept hX
  replace m := m.kept hX
  replace d := d.kept hX
  replace r := r.kept hX
  clear hX
  replace m_l := m.lt
  replace m_0 := m.at 0 _ rfl
  replace m_1 := m.at 1 _ rfl
  replace d_l := d.lt
  replace d_0 := d.at 0 _ rfl
  replace d_1 := d.at 1 _ rfl
  replace y_l := y.lt
  replace y_0 := y.at 0 _ rfl
  replace y_1 := y.at 1 _ rfl
  have c0 := st.at 2 _ rfl
  have c1 := st.at 3 _ rfl
  have f0 := st.free 2
  have f1 := st.free 3
  have st_l := st.lt
  go_upto_region 6 with fail
  clear y
  clear y_l y_0 y_1
  refine code_eq ?_
  intro X eX
  have hsz := hk.size
  replace hk := (eX ▸ (by first | ((repeat (first | with_reducible exact hk | with_reducible refine Kept.alloc ?_ _ | with_reducible refine Kept.drew ?_ | with_reducible refine Kept.drewN ?_ _ | with_reducible refine Kept.set ?_ (by first | (simp; done) | (simp; omega) | omega) _)); done) | exact hk | exact (hk.alloc _) | exact ((hk.alloc _).alloc _) | exact (((hk.alloc _).alloc _).alloc _) | exact ((((hk.alloc _).alloc _).alloc _).alloc _) | exact (((((hk.alloc _).alloc _).alloc _).alloc _).alloc _) | exact ((((((hk.alloc _).alloc _).alloc _).alloc _).alloc _).alloc _) | (repeat (first | exact hk | refine Kept.alloc ?_ _ | refine Kept.drew ?_ | refine Kept.drewN ?_ _ | refine Kept.set ?_ (by first | (simp; done) | (simp; omega) | omega) _))) : Kept w X)
  replace st : Own X _ _ (setLen s 1 ⟨k, x⟩).C := eX ▸ ((((st.set 2 _).set 3 _)).is (by rfl))
  replace m := m.same (X := X) (by rw [eX]; repeat (first | with_reducible rfl | with_reducible refine (Below.heap_setCell _ _ _ _ (by first | omega | (simp; done) | (simp; omega))).trans ?_ | with_reducible refine (heap_drew_ _ _).trans ?_ | with_reducible refine (heap_drewN_ _ _ _).trans ?_))
  replace d := d.same (X := X) (by rw [eX]; repeat (first | with_reducible rfl | with_reducible refine (Below.heap_setCell _ _ _ _ (by first | omega | (simp; done) | (simp; omega))).trans ?_ | with_reducible refine (heap_drew_ _ _).trans ?_ | with_reducible refine (heap_drewN_ _ _ _).trans ?_))
  replace r := r.same (X := X) (by rw [eX]; repeat (first | with_reducible rfl | with_reducible refine (Below.heap_setCell _ _ _ _ (by first | omega | (simp; done) | (simp; omega))).trans ?_ | with_reducible refine (heap_drew_ _ _).trans ?_ | with_reducible refine (heap_drewN_ _ _ _).trans ?_))
  clear eX
  replace m_l := m.lt
  replace m_0 := m.at 0 _ rfl
  replace m_1 := m.at 1 _ rfl
  replace d_l := d.lt
  replace d_0 := d.at 0 _ rfl
  replace d_1 := d.at 1 _ rfl
  clear c0 c1 f0 f1
  go_wp2_with (first | (refine here_load 42 _ rfl ?_; refine wpList_load_own rfl 42 _ rfl _ rfl st _ Tryd.underlying42 rfl (by kernel_rfl) ?_) | (refine here_store 42 _ _ rfl ?_; refine wpList_store_own rfl 42 _ _ rfl _ _ rfl rfl r (by rfl) (by kernel_rfl) (by rfl) ?_; intro X oX hoX hkX; replace hk := hkX _ hk (by first | omega | (simp; omega)); replace r := oX; replace st := st.same (hoX _ (by first | omega | (simp; omega))); replace m := m.same (hoX _ (by first | omega | (simp; omega))); replace d := d.same (hoX _ (by first | omega | (simp; omega))); clear oX hoX hkX; replace m_l := m.lt; replace m_0 := m.at 0 _ rfl; replace m_1 := m.at 1 _ rfl; replace d_l := d.lt; replace d_0 := d.at 0 _ rfl; replace d_1 := d.at 1 _ rfl))
  exact bodyPost_ret (results_own_tmp 42 _ Tryd.results38 rfl r Tryd.underlying42 rfl (by kernel_rfl)) rfl ⟨_, ok, rfl, HS.out, hk⟩
theorem set_4 (s : Sty) (wr di q : Int) (v : ByteArray) (w : World) (hn : v.size ≤ 140737488355328) (hp : Pow w) (ht : Tab w) (hm : mapS wr di q = (4, 0)) :
    Calls Tryd.prog 38 #[s.V, modeV wr di, .agg #[.int .i64 q, .string v]] w fun e w' => ∃ t ok, e = .returned (.tuple #[Sty.V t, .bool ok]) ∧ Sets (setS di s 4 v) t ok ∧ Kept w w' := by
  have H1 := Lib.hid (fun wx (hx : Tab wx) => (show Calls Tryd.prog 55 #[modeV wr di, .int .i64 q] wx (fun e w' => e = .returned (.tuple #[.int .i64 4, .int .i64 0]) ∧ Kept wx w') from by have := propMap_any wr di q wx hx; rw [hm] at this; exact this))
  clear hm
  obtain ⟨⟨⟨k, x⟩, E⟩, h⟩ : ∃ r, parseS v = r := ⟨_, rfl⟩
  have H2 := Lib.hid (fun wx (hx : Pow wx) => parse10_is v k x E wx hn hx h)
  have hE : E = 0 ∨ E = 800 := by have := parse_err v; rw [h] at this; exact this
  have HS : Sets (setS di s 4 v) (setLen s 4 ⟨k, x⟩) (E == 0) := by
    unfold setS
    rw [if_neg (by decide), h]
    rcases hE with rfl | rfl
    · exact ⟨rfl, rfl⟩
    · exact rfl
  replace HS := Lib.hid HS
  clear h hE
  obtain ⟨ok, hok⟩ : ∃ b, (E == 0) = b := ⟨_, rfl⟩
  rw [hok] at HS
  have hk : Kept w w := Kept.refl w
  go_enter Tryd.func38, Tryd.ntmps38
  go_wp2_with fail
  refine with_boxes4 ?_
  intro X hX st m d r
  have hsz := hk.size
  replace hk := hk.trans hX
  clear hX
  replace m_l := m.lt
  replace m_0 := m.at 0 _ rfl
  replace m_1 := m.at 1 _ rfl
  replace d_l := d.lt
  replace d_0 := d.at 0 _ rfl
  replace d_1 := d.at 1 _ rfl
  refine (H1.out _ (ht.kept hk)).mono ?_
  rintro e w1 ⟨rfl, hn⟩
  replace hk := hk.trans hn
  replace st := st.kept hn
  replace m := m.kept hn
  replace d := d.kept hn
  replace r := r.kept hn
  clear hn
  replace m_l := m.lt
  replace m_0 := m.at 0 _ rfl
  replace m_1 := m.at 1 _ rfl
  replace d_l := d.lt
  replace d_0 := d.at 0 _ rfl
  replace d_1 := d.at 1 _ rfl
  go_wp2_with fail
  refine (lengthOf_4 _ _).mono ?_
  rintro e w1 ⟨rfl, rfl⟩
  go_wp2_with fail
  refine (H2.out _ (hp.kept hk)).mono ?_
  rintro e w1 ⟨rfl, hn⟩
  replace hk := hk.trans hn
  replace st := st.kept hn
  replace m := m.kept hn
  replace d := d.kept hn
  replace r := r.kept hn
  clear hn
  replace m_l := m.lt
  replace m_0 := m.at 0 _ rfl
  replace m_1 := m.at 1 _ rfl
  replace d_l := d.lt
  replace d_0 := d.at 0 _ rfl
  replace d_1 := d.at 1 _ rfl
  go_upto_region 5 with fail
  refine code_boxes1 ?_
  intro X hX y
  have hsz := hk.size
  replace hk := hk.trans hX
  replace st := st.kept hX
  replace m := m.kept hX
  replace d := d.kept hX
  replace r := r.kept hX
  clear hX
  replace m_l := m.lt
  replace m_0 := m.at 0 _ rfl
  replace m_1 := m.at 1 _ rfl
  replace d_l := d.lt
  replace d_0 := d.at 0 _ rfl
  replace d_1 := d.at 1 _ rfl
  replace y_l := y.lt
  replace y_0 := y.at 0 _ rfl
  replace y_1 := y.at 1 _ rfl
  have c0 := st.at 4 _ rfl
  have c1 := st.at 5 _ rfl
  have f0 := st.free 4
  have f1 := st.free 5
  have st_l := st.lt
  go_upto_region 6 with fail
  clear y
  clear y_l y_0 y_1
  refine code_eq ?_
  intro X eX
  have hsz := hk.size
  replace hk := (eX ▸ (by first | ((repeat (first | with_reducible exact hk | with_reducible refine Kept.alloc ?_ _ | with_reducible refine Kept.drew ?_ | with_reducible refine Kept.drewN ?_ _ | with_reducible refine Kept.set ?_ (by first | (simp; done) | (simp; omega) | omega) _)); done) | exact hk | exact (hk.alloc _) | exact ((hk.alloc _).alloc _) | exact (((hk.alloc _).alloc _).alloc _) | exact ((((hk.alloc _).alloc _).alloc _).alloc _) | exact (((((hk.alloc _).alloc _).alloc _).alloc _).alloc _) | exact ((((((hk.alloc _).alloc _).alloc _).alloc _).alloc _).alloc _) | (repeat (first | exact hk | refine Kept.alloc ?_ _ | refine Kept.drew ?_ | refine Kept.drewN ?_ _ | refine Kept.set ?_ (by first | (simp; done) | (simp; omega) | omega) _))) : Kept w X)
  replace st : Own X _ _ (setLen s 4 ⟨k, x⟩).C := eX ▸ ((((st.set 4 _).set 5 _)).is (by rfl))
  replace m := m.same (X := X) (by rw [eX]; repeat (first | with_reducible rfl | with_reducible refine (Below.heap_setCell _ _ _ _ (by first | omega | (simp; done) | (simp; omega))).trans ?_ | with_reducible refine (heap_drew_ _ _).trans ?_ | with_reducible refine (heap_drewN_ _ _ _).trans ?_))
  replace d := d.same (X := X) (by rw [eX]; repeat (first | with_reducible rfl | with_reducible refine (Below.heap_setCell _ _ _ _ (by first | omega | (simp; done) | (simp; omega))).trans ?_ | with_reducible refine (heap_drew_ _ _).trans ?_ | with_reducible refine (heap_drewN_ _ _ _).trans ?_))
  replace r := r.same (X := X) (by rw [eX]; repeat (first | with_reducible rfl | with_reducible refine (Below.heap_setCell _ _ _ _ (by first | omega | (simp; done) | (simp; omega))).trans ?_ | with_reducible refine (heap_drew_ _ _).trans ?_ | with_reducible refine (heap_drewN_ _ _ _).trans ?_))
  clear eX
  replace m_l := m.lt
  replace m_0 := m.at 0 _ rfl
  replace m_1 := m.at 1 _ rfl
  replace d_l := d.lt
  replace d_0 := d.at 0 _ rfl
  replace d_1 := d.at 1 _ rfl
  clear c0 c1 f0 f1
  go_wp2_with (first | (refine here_load 42 _ rfl ?_; refine wpList_load_own rfl 42 _ rfl _ rfl st _ Tryd.underlying42 rfl (by kernel_rfl) ?_) | (refine here_store 42 _ _ rfl ?_; refine wpList_store_own rfl 42 _ _ rfl _ _ rfl rfl r (by rfl) (by kernel_rfl) (by rfl) ?_; intro X oX hoX hkX; replace hk := hkX _ hk (by first | omega | (simp; omega)); replace r := oX; replace st := st.same (hoX _ (by first | omega | (simp; omega))); replace m := m.same (hoX _ (by first | omega | (simp; omega))); replace d := d.same (hoX _ (by first | omega | (simp; omega))); clear oX hoX hkX; replace m_l := m.lt; replace m_0 := m.at 0 _ rfl; replace m_1 := m.at 1 _ rfl; replace d_l := d.lt; replace d_0 := d.at 0 _ rfl; replace d_1 := d.at 1 _ rfl))
  exact bodyPost_ret (results_own_tmp 42 _ Tryd.results38 rfl r Tryd.underlying42 rfl (by kernel_rfl)) rfl ⟨_, ok, rfl, HS.out, hk⟩
theorem set_5 (s : Sty) (wr di q : Int) (v : ByteArray) (w : World) (hn : v.size ≤ 140737488355328) (hp : Pow w) (ht : Tab w) (hm : mapS wr di q = (5, 0)) :
    Calls Tryd.prog 38 #[s.V, modeV wr di, .agg #[.int .i64 q, .string v]] w fun e w' => ∃ t ok, e = .returned (.tuple #[Sty.V t, .bool ok]) ∧ Sets (setS di s 5 v) t ok ∧ Kept w w' := by
  have H1 := Lib.hid (fun wx (hx : Tab wx) => (show Calls Tryd.prog 55 #[modeV wr di, .int .i64 q] wx (fun e w' => e = .returned (.tuple #[.int .i64 5, .int .i64 0]) ∧ Kept wx w') from by have := propMap_any wr di q wx hx; rw [hm] at this; exact this))
  clear hm
  obtain ⟨⟨⟨k, x⟩, E⟩, h⟩ : ∃ r, parseS v = r := ⟨_, rfl⟩
  have H2 := Lib.hid (fun wx (hx : Pow wx) => parse10_is v k x E wx hn hx h)
  have hE : E = 0 ∨ E = 800 := by have := parse_err v; rw [h] at this; exact this
  have HS : Sets (setS di s 5 v) (setLen s 5 ⟨k, x⟩) (E == 0) := by
    unfold setS
    rw [if_neg (by decide), h]
    rcases hE with rfl | rfl
    · exact ⟨rfl, rfl⟩
    · exact rfl
  replace HS := Lib.hid HS
  clear h hE
  obtain ⟨ok, hok⟩ : ∃ b, (E == 0) = b := ⟨_, rfl⟩
  rw [hok] at HS
  have hk : Kept w w := Kept.refl w
  go_enter Tryd.func38, Tryd.ntmps38
  go_wp2_with fail
  refine with_boxes4 ?_
  intro X hX st m d r
  have hsz := hk.size
  replace hk := hk.trans hX
  clear hX
  replace m_l := m.lt
  replace m_0 := m.at 0 _ rfl
  replace m_1 := m.at 1 _ rfl
  replace d_l := d.lt
  replace d_0 := d.at 0 _ rfl
  replace d_1 := d.at 1 _ rfl
  refine (H1.out _ (ht.kept hk)).mono ?_
  rintro e w1 ⟨rfl, hn⟩
  replace hk := hk.trans hn
  replace st := st.kept hn
  replace m := m.kept hn
  replace d := d.kept hn
  replace r := r.kept hn
  clear hn
  replace m_l := m.lt
  replace m_0 := m.at 0 _ rfl
  replace m_1 := m.at 1 _ rfl
  replace d_l := d.lt
  replace d_0 := d.at 0 _ rfl
  replace d_1 := d.at 1 _ rfl
  go_wp2_with fail
  refine (lengthOf_5 _ _).mono ?_
  rintro e w1 ⟨rfl, rfl⟩
  go_wp2_with fail
  refine (H2.out _ (hp.kept hk)).mono ?_
  rintro e w1 ⟨rfl, hn⟩
  replace hk := hk.trans hn
  replace st := st.kept hn
  replace m := m.kept hn
  replace d := d.kept hn
  replace r := r.kept hn
  clear hn
  replace m_l := m.lt
  replace m_0 := m.at 0 _ rfl
  replace m_1 := m.at 1 _ rfl
  replace d_l := d.lt
  replace d_0 := d.at 0 _ rfl
  replace d_1 := d.at 1 _ rfl
  go_upto_region 5 with fail
  refine code_boxes1 ?_
  intro X hX y
  have hsz := hk.size
  replace hk := hk.trans hX
  replace st := st.kept hX
  replace m := m.kept hX
  replace d := d.kept hX
  replace r := r.kept hX
  clear hX
  replace m_l := m.lt
  replace m_0 := m.at 0 _ rfl
  replace m_1 := m.at 1 _ rfl
  replace d_l := d.lt
  replace d_0 := d.at 0 _ rfl
  replace d_1 := d.at 1 _ rfl
  replace y_l := y.lt
  replace y_0 := y.at 0 _ rfl
  replace y_1 := y.at 1 _ rfl
  have c0 := st.at 6 _ rfl
  have c1 := st.at 7 _ rfl
  have f0 := st.free 6
  have f1 := st.free 7
  have st_l := st.lt
  go_upto_region 6 with fail
  clear y
  clear y_l y_0 y_1
  refine code_eq ?_
  intro X eX
  have hsz := hk.size
  replace hk := (eX ▸ (by first | ((repeat (first | with_reducible exact hk | with_reducible refine Kept.alloc ?_ _ | with_reducible refine Kept.drew ?_ | with_reducible refine Kept.drewN ?_ _ | with_reducible refine Kept.set ?_ (by first | (simp; done) | (simp; omega) | omega) _)); done) | exact hk | exact (hk.alloc _) | exact ((hk.alloc _).alloc _) | exact (((hk.alloc _).alloc _).alloc _) | exact ((((hk.alloc _).alloc _).alloc _).alloc _) | exact (((((hk.alloc _).alloc _).alloc _).alloc _).alloc _) | exact ((((((hk.alloc _).alloc _).alloc _).alloc _).alloc _).alloc _) | (repeat (first | exact hk | refine Kept.alloc ?_ _ | refine Kept.drew ?_ | refine Kept.drewN ?_ _ | refine Kept.set ?_ (by first | (simp; done) | (simp; omega) | omega) _))) : Kept w X)
  replace st : Own X _ _ (setLen s 5 ⟨k, x⟩).C := eX ▸ ((((st.set 6 _).set 7 _)).is (by rfl))
  replace m := m.same (X := X) (by rw [eX]; repeat (first | with_reducible rfl | with_reducible refine (Below.heap_setCell _ _ _ _ (by first | omega | (simp; done) | (simp; omega))).trans ?_ | with_reducible refine (heap_drew_ _ _).trans ?_ | with_reducible refine (heap_drewN_ _ _ _).trans ?_))
  replace d := d.same (X := X) (by rw [eX]; repeat (first | with_reducible rfl | with_reducible refine (Below.heap_setCell _ _ _ _ (by first | omega | (simp; done) | (simp; omega))).trans ?_ | with_reducible refine (heap_drew_ _ _).trans ?_ | with_reducible refine (heap_drewN_ _ _ _).trans ?_))
  replace r := r.same (X := X) (by rw [eX]; repeat (first | with_reducible rfl | with_reducible refine (Below.heap_setCell _ _ _ _ (by first | omega | (simp; done) | (simp; omega))).trans ?_ | with_reducible refine (heap_drew_ _ _).trans ?_ | with_reducible refine (heap_drewN_ _ _ _).trans ?_))
  clear eX
  replace m_l := m.lt
  replace m_0 := m.at 0 _ rfl
  replace m_1 := m.at 1 _ rfl
  replace d_l := d.lt
  replace d_0 := d.at 0 _ rfl
  replace d_1 := d.at 1 _ rfl
  clear c0 c1 f0 f1
  go_wp2_with (first | (refine here_load 42 _ rfl ?_; refine wpList_load_own rfl 42 _ rfl _ rfl st _ Tryd.underlying42 rfl (by kernel_rfl) ?_) | (refine here_store 42 _ _ rfl ?_; refine wpList_store_own rfl 42 _ _ rfl _ _ rfl rfl r (by rfl) (by kernel_rfl) (by rfl) ?_; intro X oX hoX hkX; replace hk := hkX _ hk (by first | omega | (simp; omega)); replace r := oX; replace st := st.same (hoX _ (by first | omega | (simp; omega))); replace m := m.same (hoX _ (by first | omega | (simp; omega))); replace d := d.same (hoX _ (by first | omega | (simp; omega))); clear oX hoX hkX; replace m_l := m.lt; replace m_0 := m.at 0 _ rfl; replace m_1 := m.at 1 _ rfl; replace d_l := d.lt; replace d_0 := d.at 0 _ rfl; replace d_1 := d.at 1 _ rfl))
  exact bodyPost_ret (results_own_tmp 42 _ Tryd.results38 rfl r Tryd.underlying42 rfl (by kernel_rfl)) rfl ⟨_, ok, rfl, HS.out, hk⟩
theorem set_6 (s : Sty) (wr di q : Int) (v : ByteArray) (w : World) (hn : v.size ≤ 140737488355328) (hp : Pow w) (ht : Tab w) (hm : mapS wr di q = (6, 0)) :
    Calls Tryd.prog 38 #[s.V, modeV wr di, .agg #[.int .i64 q, .string v]] w fun e w' => ∃ t ok, e = .returned (.tuple #[Sty.V t, .bool ok]) ∧ Sets (setS di s 6 v) t ok ∧ Kept w w' := by
  have H1 := Lib.hid (fun wx (hx : Tab wx) => (show Calls Tryd.prog 55 #[modeV wr di, .int .i64 q] wx (fun e w' => e = .returned (.tuple #[.int .i64 6, .int .i64 0]) ∧ Kept wx w') from by have := propMap_any wr di q wx hx; rw [hm] at this; exact this))
  clear hm
  obtain ⟨⟨⟨k, x⟩, E⟩, h⟩ : ∃ r, parseS v = r := ⟨_, rfl⟩
  have H2 := Lib.hid (fun wx (hx : Pow wx) => parse10_is v k x E wx hn hx h)
  have hE : E = 0 ∨ E = 800 := by have := parse_err v; rw [h] at this; exact this
  have HS : Sets (setS di s 6 v) (setLen s 6 ⟨k, x⟩) (E == 0) := by
    unfold setS
    rw [if_neg (by decide), h]
    rcases hE with rfl | rfl
    · exact ⟨rfl, rfl⟩
    · exact rfl
  replace HS := Lib.hid HS
  clear h hE
  obtain ⟨ok, hok⟩ : ∃ b, (E == 0) = b := ⟨_, rfl⟩
  rw [hok] at HS
  have hk : Kept w w := Kept.refl w
  go_enter Tryd.func38, Tryd.ntmps38
  go_wp2_with fail
  refine with_boxes4 ?_
  intro X hX st m d r
  have hsz := hk.size
  replace hk := hk.trans hX
  clear hX
  replace m_l := m.lt
  replace m_0 := m.at 0 _ rfl
  replace m_1 := m.at 1 _ rfl
  replace d_l := d.lt
  replace d_0 := d.at 0 _ rfl
  replace d_1 := d.at 1 _ rfl
  refine (H1.out _ (ht.kept hk)).mono ?_
  rintro e w1 ⟨rfl, hn⟩
  replace hk := hk.trans hn
  replace st := st.kept hn
  replace m := m.kept hn
  replace d := d.kept hn
  replace r := r.kept hn
  clear hn
  replace m_l := m.lt
  replace m_0 := m.at 0 _ rfl
  replace m_1 := m.at 1 _ rfl
  replace d_l := d.lt
  replace d_0 := d.at 0 _ rfl
  replace d_1 := d.at 1 _ rfl
  go_wp2_with fail
  refine (lengthOf_6 _ _).mono ?_
  rintro e w1 ⟨rfl, rfl⟩
  go_wp2_with fail
  refine (H2.out _ (hp.kept hk)).mono ?_
  rintro e w1 ⟨rfl, hn⟩
  replace hk := hk.trans hn
  replace st := st.kept hn
  replace m := m.kept hn
  replace d := d.kept hn
  replace r := r.kept hn
  clear hn
  replace m_l := m.lt
  replace m_0 := m.at 0 _ rfl
  replace m_1 := m.at 1 _ rfl
  replace d_l := d.lt
  replace d_0 := d.at 0 _ rfl
  replace d_1 := d.at 1 _ rfl
  go_upto_region 5 with fail
  refine code_boxes1 ?_
  intro X hX y
  have hsz := hk.size
  replace hk := hk.trans hX
  replace st := st.kept hX
  replace m := m.kept hX
  replace d := d.kept hX
  replace r := r.kept hX
  clear hX
  replace m_l := m.lt
  replace m_0 := m.at 0 _ rfl
  replace m_1 := m.at 1 _ rfl
  replace d_l := d.lt
  replace d_0 := d.at 0 _ rfl
  replace d_1 := d.at 1 _ rfl
  replace y_l := y.lt
  replace y_0 := y.at 0 _ rfl
  replace y_1 := y.at 1 _ rfl
  have c0 := st.at 8 _ rfl
  have c1 := st.at 9 _ rfl
  have f0 := st.free 8
  have f1 := st.free 9
  have st_l := st.lt
  go_upto_region 6 with fail
  clear y
  clear y_l y_0 y_1
  refine code_eq ?_
  intro X eX
  have hsz := hk.size
  replace hk := (eX ▸ (by first | ((repeat (first | with_reducible exact hk | with_reducible refine Kept.alloc ?_ _ | with_reducible refine Kept.drew ?_ | with_reducible refine Kept.drewN ?_ _ | with_reducible refine Kept.set ?_ (by first | (simp; done) | (simp; omega) | omega) _)); done) | exact hk | exact (hk.alloc _) | exact ((hk.alloc _).alloc _) | exact (((hk.alloc _).alloc _).alloc _) | exact ((((hk.alloc _).alloc _).alloc _).alloc _) | exact (((((hk.alloc _).alloc _).alloc _).alloc _).alloc _) | exact ((((((hk.alloc _).alloc _).alloc _).alloc _).alloc _).alloc _) | (repeat (first | exact hk | refine Kept.alloc ?_ _ | refine Kept.drew ?_ | refine Kept.drewN ?_ _ | refine Kept.set ?_ (by first | (simp; done) | (simp; omega) | omega) _))) : Kept w X)
  replace st : Own X _ _ (setLen s 6 ⟨k, x⟩).C := eX ▸ ((((st.set 8 _).set 9 _)).is (by rfl))
  replace m := m.same (X := X) (by rw [eX]; repeat (first | with_reducible rfl | with_reducible refine (Below.heap_setCell _ _ _ _ (by first | omega | (simp; done) | (simp; omega))).trans ?_ | with_reducible refine (heap_drew_ _ _).trans ?_ | with_reducible refine (heap_drewN_ _ _ _).trans ?_))
  replace d := d.same (X := X) (by rw [eX]; repeat (first | with_reducible rfl | with_reducible refine (Below.heap_setCell _ _ _ _ (by first | omega | (simp; done) | (simp; omega))).trans ?_ | with_reducible refine (heap_drew_ _ _).trans ?_ | with_reducible refine (heap_drewN_ _ _ _).trans ?_))
  replace r := r.same (X := X) (by rw [eX]; repeat (first | with_reducible rfl | with_reducible refine (Below.heap_setCell _ _ _ _ (by first | omega | (simp; done) | (simp; omega))).trans ?_ | with_reducible refine (heap_drew_ _ _).trans ?_ | with_reducible refine (heap_drewN_ _ _ _).trans ?_))
  clear eX
  replace m_l := m.lt
  replace m_0 := m.at 0 _ rfl
  replace m_1 := m.at 1 _ rfl
  replace d_l := d.lt
  replace d_0 := d.at 0 _ rfl
  replace d_1 := d.at 1 _ rfl
  clear c0 c1 f0 f1
  go_wp2_with (first | (refine here_load 42 _ rfl ?_; refine wpList_load_own rfl 42 _ rfl _ rfl st _ Tryd.underlying42 rfl (by kernel_rfl) ?_) | (refine here_store 42 _ _ rfl ?_; refine wpList_store_own rfl 42 _ _ rfl _ _ rfl rfl r (by rfl) (by kernel_rfl) (by rfl) ?_; intro X oX hoX hkX; replace hk := hkX _ hk (by first | omega | (simp; omega)); replace r := oX; replace st := st.same (hoX _ (by first | omega | (simp; omega))); replace m := m.same (hoX _ (by first | omega | (simp; omega))); replace d := d.same (hoX _ (by first | omega | (simp; omega))); clear oX hoX hkX; replace m_l := m.lt; replace m_0 := m.at 0 _ rfl; replace m_1 := m.at 1 _ rfl; replace d_l := d.lt; replace d_0 := d.at 0 _ rfl; replace d_1 := d.at 1 _ rfl))
  exact bodyPost_ret (results_own_tmp 42 _ Tryd.results38 rfl r Tryd.underlying42 rfl (by kernel_rfl)) rfl ⟨_, ok, rfl, HS.out, hk⟩
theorem set_7 (s : Sty) (wr di q : Int) (v : ByteArray) (w : World) (hn : v.size ≤ 140737488355328) (hp : Pow w) (ht : Tab w) (hm : mapS wr di q = (7, 0)) :
    Calls Tryd.prog 38 #[s.V, modeV wr di, .agg #[.int .i64 q, .string v]] w fun e w' => ∃ t ok, e = .returned (.tuple #[Sty.V t, .bool ok]) ∧ Sets (setS di s 7 v) t ok ∧ Kept w w' := by
  have H1 := Lib.hid (fun wx (hx : Tab wx) => (show Calls Tryd.prog 55 #[modeV wr di, .int .i64 q] wx (fun e w' => e = .returned (.tuple #[.int .i64 7, .int .i64 0]) ∧ Kept wx w') from by have := propMap_any wr di q wx hx; rw [hm] at this; exact this))
  clear hm
  obtain ⟨⟨⟨k, x⟩, E⟩, h⟩ : ∃ r, parseS v = r := ⟨_, rfl⟩
  have H2 := Lib.hid (fun wx (hx : Pow wx) => parse10_is v k x E wx hn hx h)
  have hE : E = 0 ∨ E = 800 := by have := parse_err v; rw [h] at this; exact this
  have HS : Sets (setS di s 7 v) (setLen s 7 ⟨k, x⟩) (E == 0) := by
    unfold setS
    rw [if_neg (by decide), h]
    rcases hE with rfl | rfl
    · exact ⟨rfl, rfl⟩
    · exact rfl
  replace HS := Lib.hid HS
  clear h hE
  obtain ⟨ok, hok⟩ : ∃ b, (E == 0) = b := ⟨_, rfl⟩
  rw [hok] at HS
  have hk : Kept w w := Kept.refl w
  go_enter Tryd.func38, Tryd.ntmps38
  go_wp2_with fail
  refine with_boxes4 ?_
  intro X hX st m d r
  have hsz := hk.size
  replace hk := hk.trans hX
  clear hX
  replace m_l := m.lt
  replace m_0 := m.at 0 _ rfl
  replace m_1 := m.at 1 _ rfl
  replace d_l := d.lt
  replace d_0 := d.at 0 _ rfl
  replace d_1 := d.at 1 _ rfl
  refine (H1.out _ (ht.kept hk)).mono ?_
  rintro e w1 ⟨rfl, hn⟩
  replace hk := hk.trans hn
  replace st := st.kept hn
  replace m := m.kept hn
  replace d := d.kept hn
  replace r := r.kept hn
  clear hn
  replace m_l := m.lt
  replace m_0 := m.at 0 _ rfl
  replace m_1 := m.at 1 _ rfl
  replace d_l := d.lt
  replace d_0 := d.at 0 _ rfl
  replace d_1 := d.at 1 _ rfl
  go_wp2_with fail
  refine (lengthOf_7 _ _).mono ?_
  rintro e w1 ⟨rfl, rfl⟩
  go_wp2_with fail
  refine (H2.out _ (hp.kept hk)).mono ?_
  rintro e w1 ⟨rfl, hn⟩
  replace hk := hk.trans hn
  replace st := st.kept hn
  replace m := m.kept hn
  replace d := d.kept hn
  replace r := r.kept hn
  clear hn
  replace m_l := m.lt
  replace m_0 := m.at 0 _ rfl
  replace m_1 := m.at 1 _ rfl
  replace d_l := d.lt
  replace d_0 := d.at 0 _ rfl
  replace d_1 := d.at 1 _ rfl
  go_upto_region 5 with fail
  refine code_boxes1 ?_
  intro X hX y
  have hsz := hk.size
  replace hk := hk.trans hX
  replace st := st.kept hX
  replace m := m.kept hX
  replace d := d.kept hX
  replace r := r.kept hX
  clear hX
  replace m_l := m.lt
  replace m_0 := m.at 0 _ rfl
  replace m_1 := m.at 1 _ rfl
  replace d_l := d.lt
  replace d_0 := d.at 0 _ rfl
  replace d_1 := d.at 1 _ rfl
  replace y_l := y.lt
  replace y_0 := y.at 0 _ rfl
  replace y_1 := y.at 1 _ rfl
  have c0 := st.at 10 _ rfl
  have c1 := st.at 11 _ rfl
  have f0 := st.free 10
  have f1 := st.free 11
  have st_l := st.lt
  go_upto_region 6 with fail
  clear y
  clear y_l y_0 y_1
  refine code_eq ?_
  intro X eX
  have hsz := hk.size
  replace hk := (eX ▸ (by first | ((repeat (first | with_reducible exact hk | with_reducible refine Kept.alloc ?_ _ | with_reducible refine Kept.drew ?_ | with_reducible refine Kept.drewN ?_ _ | with_reducible refine Kept.set ?_ (by first | (simp; done) | (simp; omega) | omega) _)); done) | exact hk | exact (hk.alloc _) | exact ((hk.alloc _).alloc _) | exact (((hk.alloc _).alloc _).alloc _) | exact ((((hk.alloc _).alloc _).alloc _).alloc _) | exact (((((hk.alloc _).alloc _).alloc _).alloc _).alloc _) | exact ((((((hk.alloc _).alloc _).alloc _).alloc _).alloc _).alloc _) | (repeat (first | exact hk | refine Kept.alloc ?_ _ | refine Kept.drew ?_ | refine Kept.drewN ?_ _ | refine Kept.set ?_ (by first | (simp; done) | (simp; omega) | omega) _))) : Kept w X)
  replace st : Own X _ _ (setLen s 7 ⟨k, x⟩).C := eX ▸ ((((st.set 10 _).set 11 _)).is (by rfl))
  replace m := m.same (X := X) (by rw [eX]; repeat (first | with_reducible rfl | with_reducible refine (Below.heap_setCell _ _ _ _ (by first | omega | (simp; done) | (simp; omega))).trans ?_ | with_reducible refine (heap_drew_ _ _).trans ?_ | with_reducible refine (heap_drewN_ _ _ _).trans ?_))
  replace d := d.same (X := X) (by rw [eX]; repeat (first | with_reducible rfl | with_reducible refine (Below.heap_setCell _ _ _ _ (by first | omega | (simp; done) | (simp; omega))).trans ?_ | with_reducible refine (heap_drew_ _ _).trans ?_ | with_reducible refine (heap_drewN_ _ _ _).trans ?_))
  replace r := r.same (X := X) (by rw [eX]; repeat (first | with_reducible rfl | with_reducible refine (Below.heap_setCell _ _ _ _ (by first | omega | (simp; done) | (simp; omega))).trans ?_ | with_reducible refine (heap_drew_ _ _).trans ?_ | with_reducible refine (heap_drewN_ _ _ _).trans ?_))
  clear eX
  replace m_l := m.lt
  replace m_0 := m.at 0 _ rfl
  replace m_1 := m.at 1 _ rfl
  replace d_l := d.lt
  replace d_0 := d.at 0 _ rfl
  replace d_1 := d.at 1 _ rfl
  clear c0 c1 f0 f1
  go_wp2_with (first | (refine here_load 42 _ rfl ?_; refine wpList_load_own rfl 42 _ rfl _ rfl st _ Tryd.underlying42 rfl (by kernel_rfl) ?_) | (refine here_store 42 _ _ rfl ?_; refine wpList_store_own rfl 42 _ _ rfl _ _ rfl rfl r (by rfl) (by kernel_rfl) (by rfl) ?_; intro X oX hoX hkX; replace hk := hkX _ hk (by first | omega | (simp; omega)); replace r := oX; replace st := st.same (hoX _ (by first | omega | (simp; omega))); replace m := m.same (hoX _ (by first | omega | (simp; omega))); replace d := d.same (hoX _ (by first | omega | (simp; omega))); clear oX hoX hkX; replace m_l := m.lt; replace m_0 := m.at 0 _ rfl; replace m_1 := m.at 1 _ rfl; replace d_l := d.lt; replace d_0 := d.at 0 _ rfl; replace d_1 := d.at 1 _ rfl))
  exact bodyPost_ret (results_own_tmp 42 _ Tryd.results38 rfl r Tryd.underlying42 rfl (by kernel_rfl)) rfl ⟨_, ok, rfl, HS.out, hk⟩
theorem set_8 (s : Sty) (wr di q : Int) (v : ByteArray) (w : World) (hn : v.size ≤ 140737488355328) (hp : Pow w) (ht : Tab w) (hm : mapS wr di q = (8, 0)) :
    Calls Tryd.prog 38 #[s.V, modeV wr di, .agg #[.int .i64 q, .string v]] w fun e w' => ∃ t ok, e = .returned (.tuple #[Sty.V t, .bool ok]) ∧ Sets (setS di s 8 v) t ok ∧ Kept w w' := by
  have H1 := Lib.hid (fun wx (hx : Tab wx) => (show Calls Tryd.prog 55 #[modeV wr di, .int .i64 q] wx (fun e w' => e = .returned (.tuple #[.int .i64 8, .int .i64 0]) ∧ Kept wx w') from by have := propMap_any wr di q wx hx; rw [hm] at this; exact this))
  clear hm
  obtain ⟨⟨⟨k, x⟩, E⟩, h⟩ : ∃ r, parseS v = r := ⟨_, rfl⟩
  have H2 := Lib.hid (fun wx (hx : Pow wx) => parse10_is v k x E wx hn hx h)
  have hE : E = 0 ∨ E = 800 := by have := parse_err v; rw [h] at this; exact this
  have HS : Sets (setS di s 8 v) (setLen s 8 ⟨k, x⟩) (E == 0) := by
    unfold setS
    rw [if_neg (by decide), h]
    rcases hE with rfl | rfl
    · exact ⟨rfl, rfl⟩
    · exact rfl
  replace HS := Lib.hid HS
  clear h hE
  obtain ⟨ok, hok⟩ : ∃ b, (E == 0) = b := ⟨_, rfl⟩
  rw [hok] at HS
  have hk : Kept w w := Kept.refl w
  go_enter Tryd.func38, Tryd.ntmps38
  go_wp2_with fail
  refine with_boxes4 ?_
  intro X hX st m d r
  have hsz := hk.size
  replace hk := hk.trans hX
  clear hX
  replace m_l := m.lt
  replace m_0 := m.at 0 _ rfl
  replace m_1 := m.at 1 _ rfl
  replace d_l := d.lt
  replace d_0 := d.at 0 _ rfl
  replace d_1 := d.at 1 _ rfl
  refine (H1.out _ (ht.kept hk)).mono ?_
  rintro e w1 ⟨rfl, hn⟩
  replace hk := hk.trans hn
  replace st := st.kept hn
  replace m := m.kept hn
  replace d := d.kept hn
  replace r := r.kept hn
  clear hn
  replace m_l := m.lt
  replace m_0 := m.at 0 _ rfl
  replace m_1 := m.at 1 _ rfl
  replace d_l := d.lt
  replace d_0 := d.at 0 _ rfl
  replace d_1 := d.at 1 _ rfl
  go_wp2_with fail
  refine (lengthOf_8 _ _).mono ?_
  rintro e w1 ⟨rfl, rfl⟩
  go_wp2_with fail
  refine (H2.out _ (hp.kept hk)).mono ?_
  rintro e w1 ⟨rfl, hn⟩
  replace hk := hk.trans hn
  replace st := st.kept hn
  replace m := m.kept hn
  replace d := d.kept hn
  replace r := r.kept hn
  clear hn
  replace m_l := m.lt
  replace m_0 := m.at 0 _ rfl
  replace m_1 := m.at 1 _ rfl
  replace d_l := d.lt
  replace d_0 := d.at 0 _ rfl
  replace d_1 := d.at 1 _ rfl
  go_upto_region 5 with fail
  refine code_boxes1 ?_
  intro X hX y
  have hsz := hk.size
  replace hk := hk.trans hX
  replace st := st.kept hX
  replace m := m.kept hX
  replace d := d.kept hX
  replace r := r.kept hX
  clear hX
  replace m_l := m.lt
  replace m_0 := m.at 0 _ rfl
  replace m_1 := m.at 1 _ rfl
  replace d_l := d.lt
  replace d_0 := d.at 0 _ rfl
  replace d_1 := d.at 1 _ rfl
  replace y_l := y.lt
  replace y_0 := y.at 0 _ rfl
  replace y_1 := y.at 1 _ rfl
  have c0 := st.at 12 _ rfl
  have c1 := st.at 13 _ rfl
  have f0 := st.free 12
  have f1 := st.free 13
  have st_l := st.lt
  go_upto_region 6 with fail
  clear y
  clear y_l y_0 y_1
  refine code_eq ?_
  intro X eX
  have hsz := hk.size
  replace hk := (eX ▸ (by first | ((repeat (first | with_reducible exact hk | with_reducible refine Kept.alloc ?_ _ | with_reducible refine Kept.drew ?_ | with_reducible refine Kept.drewN ?_ _ | with_reducible refine Kept.set ?_ (by first | (simp; done) | (simp; omega) | omega) _)); done) | exact hk | exact (hk.alloc _) | exact ((hk.alloc _).alloc _) | exact (((hk.alloc _).alloc _).alloc _) | exact ((((hk.alloc _).alloc _).alloc _).alloc _) | exact (((((hk.alloc _).alloc _).alloc _).alloc _).alloc _) | exact ((((((hk.alloc _).alloc _).alloc _).alloc _).alloc _).alloc _) | (repeat (first | exact hk | refine Kept.alloc ?_ _ | refine Kept.drew ?_ | refine Kept.drewN ?_ _ | refine Kept.set ?_ (by first | (simp; done) | (simp; omega) | omega) _))) : Kept w X)
  replace st : Own X _ _ (setLen s 8 ⟨k, x⟩).C := eX ▸ ((((st.set 12 _).set 13 _)).is (by rfl))
  replace m := m.same (X := X) (by rw [eX]; repeat (first | with_reducible rfl | with_reducible refine (Below.heap_setCell _ _ _ _ (by first | omega | (simp; done) | (simp; omega))).trans ?_ | with_reducible refine (heap_drew_ _ _).trans ?_ | with_reducible refine (heap_drewN_ _ _ _).trans ?_))
  replace d := d.same (X := X) (by rw [eX]; repeat (first | with_reducible rfl | with_reducible refine (Below.heap_setCell _ _ _ _ (by first | omega | (simp; done) | (simp; omega))).trans ?_ | with_reducible refine (heap_drew_ _ _).trans ?_ | with_reducible refine (heap_drewN_ _ _ _).trans ?_))
  replace r := r.same (X := X) (by rw [eX]; repeat (first | with_reducible rfl | with_reducible refine (Below.heap_setCell _ _ _ _ (by first | omega | (simp; done) | (simp; omega))).trans ?_ | with_reducible refine (heap_drew_ _ _).trans ?_ | with_reducible refine (heap_drewN_ _ _ _).trans ?_))
  clear eX
  replace m_l := m.lt
  replace m_0 := m.at 0 _ rfl
  replace m_1 := m.at 1 _ rfl
  replace d_l := d.lt
  replace d_0 := d.at 0 _ rfl
  replace d_1 := d.at 1 _ rfl
  clear c0 c1 f0 f1
  go_wp2_with (first | (refine here_load 42 _ rfl ?_; refine wpList_load_own rfl 42 _ rfl _ rfl st _ Tryd.underlying42 rfl (by kernel_rfl) ?_) | (refine here_store 42 _ _ rfl ?_; refine wpList_store_own rfl 42 _ _ rfl _ _ rfl rfl r (by rfl) (by kernel_rfl) (by rfl) ?_; intro X oX hoX hkX; replace hk := hkX _ hk (by first | omega | (simp; omega)); replace r := oX; replace st := st.same (hoX _ (by first | omega | (simp; omega))); replace m := m.same (hoX _ (by first | omega | (simp; omega))); replace d := d.same (hoX _ (by first | omega | (simp; omega))); clear oX hoX hkX; replace m_l := m.lt; replace m_0 := m.at 0 _ rfl; replace m_1 := m.at 1 _ rfl; replace d_l := d.lt; replace d_0 := d.at 0 _ rfl; replace d_1 := d.at 1 _ rfl))
  exact bodyPost_ret (results_own_tmp 42 _ Tryd.results38 rfl r Tryd.underlying42 rfl (by kernel_rfl)) rfl ⟨_, ok, rfl, HS.out, hk⟩
theorem set_9 (s : Sty) (wr di q : Int) (v : ByteArray) (w : World) (hn : v.size ≤ 140737488355328) (hp : Pow w) (ht : Tab w) (hm : mapS wr di q = (9, 0)) :
    Calls Tryd.prog 38 #[s.V, modeV wr di, .agg #[.int .i64 q, .string v]] w fun e w' => ∃ t ok, e = .returned (.tuple #[Sty.V t, .bool ok]) ∧ Sets (setS di s 9 v) t ok ∧ Kept w w' := by
  have H1 := Lib.hid (fun wx (hx : Tab wx) => (show Calls Tryd.prog 55 #[modeV wr di, .int .i64 q] wx (fun e w' => e = .returned (.tuple #[.int .i64 9, .int .i64 0]) ∧ Kept wx w') from by have := propMap_any wr di q wx hx; rw [hm] at this; exact this))
  clear hm
  obtain ⟨⟨⟨k, x⟩, E⟩, h⟩ : ∃ r, parseS v = r := ⟨_, rfl⟩
  have H2 := Lib.hid (fun wx (hx : Pow wx) => parse10_is v k x E wx hn hx h)
  have hE : E = 0 ∨ E = 800 := by have := parse_err v; rw [h] at this; exact this
  have HS : Sets (setS di s 9 v) (setLen s 9 ⟨k, x⟩) (E == 0) := by
    unfold setS
    rw [if_neg (by decide), h]
    rcases hE with rfl | rfl
    · exact ⟨rfl, rfl⟩
    · exact rfl
  replace HS := Lib.hid HS
  clear h hE
  obtain ⟨ok, hok⟩ : ∃ b, (E == 0) = b := ⟨_, rfl⟩
  rw [hok] at HS
  have hk : Kept w w := Kept.refl w
  go_enter Tryd.func38, Tryd.ntmps38
  go_wp2_with fail
  refine with_boxes4 ?_
  intro X hX st m d r
  have hsz := hk.size
  replace hk := hk.trans hX
  clear hX
  replace m_l := m.lt
  replace m_0 := m.at 0 _ rfl
  replace m_1 := m.at 1 _ rfl
  replace d_l := d.lt
  replace d_0 := d.at 0 _ rfl
  replace d_1 := d.at 1 _ rfl
  refine (H1.out _ (ht.kept hk)).mono ?_
  rintro e w1 ⟨rfl, hn⟩
  replace hk := hk.trans hn
  replace st := st.kept hn
  replace m := m.kept hn
  replace d := d.kept hn
  replace r := r.kept hn
  clear hn
  replace m_l := m.lt
  replace m_0 := m.at 0 _ rfl
  replace m_1 := m.at 1 _ rfl
  replace d_l := d.lt
  replace d_0 := d.at 0 _ rfl
  replace d_1 := d.at 1 _ rfl
  go_wp2_with fail
  refine (lengthOf_9 _ _).mono ?_
  rintro e w1 ⟨rfl, rfl⟩
  go_wp2_with fail
  refine (H2.out _ (hp.kept hk)).mono ?_
  rintro e w1 ⟨rfl, hn⟩
  replace hk := hk.trans hn
  replace st := st.kept hn
  replace m := m.kept hn
  replace d := d.kept hn
  replace r := r.kept hn
  clear hn
  replace m_l := m.lt
  replace m_0 := m.at 0 _ rfl
  replace m_1 := m.at 1 _ rfl
  replace d_l := d.lt
  replace d_0 := d.at 0 _ rfl
  replace d_1 := d.at 1 _ rfl
  go_upto_region 5 with fail
  refine code_boxes1 ?_
  intro X hX y
  have hsz := hk.size
  replace hk := hk.trans hX
  replace st := st.kept hX
  replace m := m.kept hX
  replace d := d.kept hX
  replace r := r.kept hX
  clear hX
  replace m_l := m.lt
  replace m_0 := m.at 0 _ rfl
  replace m_1 := m.at 1 _ rfl
  replace d_l := d.lt
  replace d_0 := d.at 0 _ rfl
  replace d_1 := d.at 1 _ rfl
  replace y_l := y.lt
  replace y_0 := y.at 0 _ rfl
  replace y_1 := y.at 1 _ rfl
  have c0 := st.at 14 _ rfl
  have c1 := st.at 15 _ rfl
  have f0 := st.free 14
  have f1 := st.free 15
  have st_l := st.lt
  go_upto_region 6 with fail
  clear y
  clear y_l y_0 y_1
  refine code_eq ?_
  intro X eX
  have hsz := hk.size
  replace hk := (eX ▸ (by first | ((repeat (first | with_reducible exact hk | with_reducible refine Kept.alloc ?_ _ | with_reducible refine Kept.drew ?_ | with_reducible refine Kept.drewN ?_ _ | with_reducible refine Kept.set ?_ (by first | (simp; done) | (simp; omega) | omega) _)); done) | exact hk | exact (hk.alloc _) | exact ((hk.alloc _).alloc _) | exact (((hk.alloc _).alloc _).alloc _) | exact ((((hk.alloc _).alloc _).alloc _).alloc _) | exact (((((hk.alloc _).alloc _).alloc _).alloc _).alloc _) | exact ((((((hk.alloc _).alloc _).alloc _).alloc _).alloc _).alloc _) | (repeat (first | exact hk | refine Kept.alloc ?_ _ | refine Kept.drew ?_ | refine Kept.drewN ?_ _ | refine Kept.set ?_ (by first | (simp; done) | (simp; omega) | omega) _))) : Kept w X)
  replace st : Own X _ _ (setLen s 9 ⟨k, x⟩).C := eX ▸ ((((st.set 14 _).set 15 _)).is (by rfl))
  replace m := m.same (X := X) (by rw [eX]; repeat (first | with_reducible rfl | with_reducible refine (Below.heap_setCell _ _ _ _ (by first | omega | (simp; done) | (simp; omega))).trans ?_ | with_reducible refine (heap_drew_ _ _).trans ?_ | with_reducible refine (heap_drewN_ _ _ _).trans ?_))
  replace d := d.same (X := X) (by rw [eX]; repeat (first | with_reducible rfl | with_reducible refine (Below.heap_setCell _ _ _ _ (by first | omega | (simp; done) | (simp; omega))).trans ?_ | with_reducible refine (heap_drew_ _ _).trans ?_ | with_reducible refine (heap_drewN_ _ _ _).trans ?_))
  replace r := r.same (X := X) (by rw [eX]; repeat (first | with_reducible rfl | with_reducible refine (Below.heap_setCell _ _ _ _ (by first | omega | (simp; done) | (simp; omega))).trans ?_ | with_reducible refine (heap_drew_ _ _).trans ?_ | with_reducible refine (heap_drewN_ _ _ _).trans ?_))
  clear eX
  replace m_l := m.lt
  replace m_0 := m.at 0 _ rfl
  replace m_1 := m.at 1 _ rfl
  replace d_l := d.lt
  replace d_0 := d.at 0 _ rfl
  replace d_1 := d.at 1 _ rfl
  clear c0 c1 f0 f1
  go_wp2_with (first | (refine here_load 42 _ rfl ?_; refine wpList_load_own rfl 42 _ rfl _ rfl st _ Tryd.underlying42 rfl (by kernel_rfl) ?_) | (refine here_store 42 _ _ rfl ?_; refine wpList_store_own rfl 42 _ _ rfl _ _ rfl rfl r (by rfl) (by kernel_rfl) (by rfl) ?_; intro X oX hoX hkX; replace hk := hkX _ hk (by first | omega | (simp; omega)); replace r := oX; replace st := st.same (hoX _ (by first | omega | (simp; omega))); replace m := m.same (hoX _ (by first | omega | (simp; omega))); replace d := d.same (hoX _ (by first | omega | (simp; omega))); clear oX hoX hkX; replace m_l := m.lt; replace m_0 := m.at 0 _ rfl; replace m_1 := m.at 1 _ rfl; replace d_l := d.lt; replace d_0 := d.at 0 _ rfl; replace d_1 := d.at 1 _ rfl))
  exact bodyPost_ret (results_own_tmp 42 _ Tryd.results38 rfl r Tryd.underlying42 rfl (by kernel_rfl)) rfl ⟨_, ok, rfl, HS.out, hk⟩
theorem set_14 (s : Sty) (wr di q : Int) (v : ByteArray) (w : World) (hn : v.size ≤ 140737488355328) (hp : Pow w) (ht : Tab w) (hm : mapS wr di q = (14, 0)) :
    Calls Tryd.prog 38 #[s.V, modeV wr di, .agg #[.int .i64 q, .string v]] w fun e w' => ∃ t ok, e = .returned (.tuple #[Sty.V t, .bool ok]) ∧ Sets (setS di s 14 v) t ok ∧ Kept w w' := by
  have H1 := Lib.hid (fun wx (hx : Tab wx) => (show Calls Tryd.prog 55 #[modeV wr di, .int .i64 q] wx (fun e w' => e = .returned (.tuple #[.int .i64 14, .int .i64 0]) ∧ Kept wx w') from by have := propMap_any wr di q wx hx; rw [hm] at this; exact this))
  clear hm
  obtain ⟨⟨⟨k, x⟩, E⟩, h⟩ : ∃ r, parseS v = r := ⟨_, rfl⟩
  have H2 := Lib.hid (fun wx (hx : Pow wx) => parse10_is v k x E wx hn hx h)
  have hE : E = 0 ∨ E = 800 := by have := parse_err v; rw [h] at this; exact this
  have HS : Sets (setS di s 14 v) (setLen s 14 ⟨k, x⟩) (E == 0) := by
    unfold setS
    rw [if_neg (by decide), h]
    rcases hE with rfl | rfl
    · exact ⟨rfl, rfl⟩
    · exact rfl
  replace HS := Lib.hid HS
  clear h hE
  obtain ⟨ok, hok⟩ : ∃ b, (E == 0) = b := ⟨_, rfl⟩
  rw [hok] at HS
  have hk : Kept w w := Kept.refl w
  go_enter Tryd.func38, Tryd.ntmps38
  go_wp2_with fail
  refine with_boxes4 ?_
  intro X hX st m d r
  have hsz := hk.size
  replace hk := hk.trans hX
  clear hX
  replace m_l := m.lt
  replace m_0 := m.at 0 _ rfl
  replace m_1 := m.at 1 _ rfl
  replace d_l := d.lt
  replace d_0 := d.at 0 _ rfl
  replace d_1 := d.at 1 _ rfl
  refine (H1.out _ (ht.kept hk)).mono ?_
  rintro e w1 ⟨rfl, hn⟩
  replace hk := hk.trans hn
  replace st := st.kept hn
  replace m := m.kept hn
  replace d := d.kept hn
  replace r := r.kept hn
  clear hn
  replace m_l := m.lt
  replace m_0 := m.at 0 _ rfl
  replace m_1 := m.at 1 _ rfl
  replace d_l := d.lt
  replace d_0 := d.at 0 _ rfl
  replace d_1 := d.at 1 _ rfl
  go_wp2_with fail
  refine (lengthOf_14 _ _).mono ?_
  rintro e w1 ⟨rfl, rfl⟩
  go_wp2_with fail
  refine (H2.out _ (hp.kept hk)).mono ?_
  rintro e w1 ⟨rfl, hn⟩
  replace hk := hk.trans hn
  replace st := st.kept hn
  replace m := m.kept hn
  replace d := d.kept hn
  replace r := r.kept hn
  clear hn
  replace m_l := m.lt
  replace m_0 := m.at 0 _ rfl
  replace m_1 := m.at 1 _ rfl
  replace d_l := d.lt
  replace d_0 := d.at 0 _ rfl
  replace d_1 := d.at 1 _ rfl
  go_upto_region 5 with fail
  refine code_boxes1 ?_
  intro X hX y
  have hsz := hk.size
  replace hk := hk.trans hX
  replace st := st.kept hX
  replace m := m.kept hX
  replace d := d.kept hX
  replace r := r.kept hX
  clear hX
  replace m_l := m.lt
  replace m_0 := m.at 0 _ rfl
  replace m_1 := m.at 1 _ rfl
  replace d_l := d.lt
  replace d_0 := d.at 0 _ rfl
  replace d_1 := d.at 1 _ rfl
  replace y_l := y.lt
  replace y_0 := y.at 0 _ rfl
  replace y_1 := y.at 1 _ rfl
  have c0 := st.at 16 _ rfl
  have c1 := st.at 17 _ rfl
  have f0 := st.free 16
  have f1 := st.free 17
  have st_l := st.lt
  go_upto_region 6 with fail
  clear y
  clear y_l y_0 y_1
  refine code_eq ?_
  intro X eX
  have hsz := hk.size
  replace hk := (eX ▸ (by first | ((repeat (first | with_reducible exact hk | with_reducible refine Kept.alloc ?_ _ | with_reducible refine Kept.drew ?_ | with_reducible refine Kept.drewN ?_ _ | with_reducible refine Kept.set ?_ (by first | (simp; done) | (simp; omega) | omega) _)); done) | exact hk | exact (hk.alloc _) | exact ((hk.alloc _).alloc _) | exact (((hk.alloc _).alloc _).alloc _) | exact ((((hk.alloc _).alloc _).alloc _).alloc _) | exact (((((hk.alloc _).alloc _).alloc _).alloc _).alloc _) | exact ((((((hk.alloc _).alloc _).alloc _).alloc _).alloc _).alloc _) | (repeat (first | exact hk | refine Kept.alloc ?_ _ | refine Kept.drew ?_ | refine Kept.drewN ?_ _ | refine Kept.set ?_ (by first | (simp; done) | (simp; omega) | omega) _))) : Kept w X)
  replace st : Own X _ _ (setLen s 14 ⟨k, x⟩).C := eX ▸ ((((st.set 16 _).set 17 _)).is (by rfl))
  replace m := m.same (X := X) (by rw [eX]; repeat (first | with_reducible rfl | with_reducible refine (Below.heap_setCell _ _ _ _ (by first | omega | (simp; done) | (simp; omega))).trans ?_ | with_reducible refine (heap_drew_ _ _).trans ?_ | with_reducible refine (heap_drewN_ _ _ _).trans ?_))
  replace d := d.same (X := X) (by rw [eX]; repeat (first | with_reducible rfl | with_reducible refine (Below.heap_setCell _ _ _ _ (by first | omega | (simp; done) | (simp; omega))).trans ?_ | with_reducible refine (heap_drew_ _ _).trans ?_ | with_reducible refine (heap_drewN_ _ _ _).trans ?_))
  replace r := r.same (X := X) (by rw [eX]; repeat (first | with_reducible rfl | with_reducible refine (Below.heap_setCell _ _ _ _ (by first | omega | (simp; done) | (simp; omega))).trans ?_ | with_reducible refine (heap_drew_ _ _).trans ?_ | with_reducible refine (heap_drewN_ _ _ _).trans ?_))
  clear eX
  replace m_l := m.lt
  replace m_0 := m.at 0 _ rfl
  replace m_1 := m.at 1 _ rfl
  replace d_l := d.lt
  replace d_0 := d.at 0 _ rfl
  replace d_1 := d.at 1 _ rfl
  clear c0 c1 f0 f1
  go_wp2_with (first | (refine here_load 42 _ rfl ?_; refine wpList_load_own rfl 42 _ rfl _ rfl st _ Tryd.underlying42 rfl (by kernel_rfl) ?_) | (refine here_store 42 _ _ rfl ?_; refine wpList_store_own rfl 42 _ _ rfl _ _ rfl rfl r (by rfl) (by kernel_rfl) (by rfl) ?_; intro X oX hoX hkX; replace hk := hkX _ hk (by first | omega | (simp; omega)); replace r := oX; replace st := st.same (hoX _ (by first | omega | (simp; omega))); replace m := m.same (hoX _ (by first | omega | (simp; omega))); replace d := d.same (hoX _ (by first | omega | (simp; omega))); clear oX hoX hkX; replace m_l := m.lt; replace m_0 := m.at 0 _ rfl; replace m_1 := m.at 1 _ rfl; replace d_l := d.lt; replace d_0 := d.at 0 _ rfl; replace d_1 := d.at 1 _ rfl))
  exact bodyPost_ret (results_own_tmp 42 _ Tryd.results38 rfl r Tryd.underlying42 rfl (by kernel_rfl)) rfl ⟨_, ok, rfl, HS.out, hk⟩
theorem set_15 (s : Sty) (wr di q : Int) (v : ByteArray) (w : World) (hn : v.size ≤ 140737488355328) (hp : Pow w) (ht : Tab w) (hm : mapS wr di q = (15, 0)) :
    Calls Tryd.prog 38 #[s.V, modeV wr di, .agg #[.int .i64 q, .string v]] w fun e w' => ∃ t ok, e = .returned (.tuple #[Sty.V t, .bool ok]) ∧ Sets (setS di s 15 v) t ok ∧ Kept w w' := by
  have H1 := Lib.hid (fun wx (hx : Tab wx) => (show Calls Tryd.prog 55 #[modeV wr di, .int .i64 q] wx (fun e w' => e = .returned (.tuple #[.int .i64 15, .int .i64 0]) ∧ Kept wx w') from by have := propMap_any wr di q wx hx; rw [hm] at this; exact this))
  clear hm
  obtain ⟨⟨⟨k, x⟩, E⟩, h⟩ : ∃ r, parseS v = r := ⟨_, rfl⟩
  have H2 := Lib.hid (fun wx (hx : Pow wx) => parse10_is v k x E wx hn hx h)
  have hE : E = 0 ∨ E = 800 := by have := parse_err v; rw [h] at this; exact this
  have HS : Sets (setS di s 15 v) (setLen s 15 ⟨k, x⟩) (E == 0) := by
    unfold setS
    rw [if_neg (by decide), h]
    rcases hE with rfl | rfl
    · exact ⟨rfl, rfl⟩
    · exact rfl
  replace HS := Lib.hid HS
  clear h hE
  obtain ⟨ok, hok⟩ : ∃ b, (E == 0) = b := ⟨_, rfl⟩
  rw [hok] at HS
  have hk : Kept w w := Kept.refl w
  go_enter Tryd.func38, Tryd.ntmps38
  go_wp2_with fail
  refine with_boxes4 ?_
  intro X hX st m d r
  have hsz := hk.size
  replace hk := hk.trans hX
  clear hX
  replace m_l := m.lt
  replace m_0 := m.at 0 _ rfl
  replace m_1 := m.at 1 _ rfl
  replace d_l := d.lt
  replace d_0 := d.at 0 _ rfl
  replace d_1 := d.at 1 _ rfl
  refine (H1.out _ (ht.kept hk)).mono ?_
  rintro e w1 ⟨rfl, hn⟩
  replace hk := hk.trans hn
  replace st := st.kept hn
  replace m := m.kept hn
  replace d := d.kept hn
  replace r := r.kept hn
  clear hn
  replace m_l := m.lt
  replace m_0 := m.at 0 _ rfl
  replace m_1 := m.at 1 _ rfl
  replace d_l := d.lt
  replace d_0 := d.at 0 _ rfl
  replace d_1 := d.at 1 _ rfl
  go_wp2_with fail
  refine (lengthOf_15 _ _).mono ?_
  rintro e w1 ⟨rfl, rfl⟩
  go_wp2_with fail
  refine (H2.out _ (hp.kept hk)).mono ?_
  rintro e w1 ⟨rfl, hn⟩
  replace hk := hk.trans hn
  replace st := st.kept hn
  replace m := m.kept hn
  replace d := d.kept hn
  replace r := r.kept hn
  clear hn
  replace m_l := m.lt
  replace m_0 := m.at 0 _ rfl
  replace m_1 := m.at 1 _ rfl
  replace d_l := d.lt
  replace d_0 := d.at 0 _ rfl
  replace d_1 := d.at 1 _ rfl
  go_upto_region 5 with fail
  refine code_boxes1 ?_
  intro X hX y
  have hsz := hk.size
  replace hk := hk.trans hX
  replace st := st.kept hX
  replace m := m.kept hX
  replace d := d.kept hX
  replace r := r.kept hX
  clear hX
  replace m_l := m.lt
  replace m_0 := m.at 0 _ rfl
  replace m_1 := m.at 1 _ rfl
  replace d_l := d.lt
  replace d_0 := d.at 0 _ rfl
  replace d_1 := d.at 1 _ rfl
  replace y_l := y.lt
  replace y_0 := y.at 0 _ rfl
  replace y_1 := y.at 1 _ rfl
  have c0 := st.at 18 _ rfl
  have c1 := st.at 19 _ rfl
  have f0 := st.free 18
  have f1 := st.free 19
  have st_l := st.lt
  go_upto_region 6 with fail
  clear y
  clear y_l y_0 y_1
  refine code_eq ?_
  intro X eX
  have hsz := hk.size
  replace hk := (eX ▸ (by first | ((repeat (first | with_reducible exact hk | with_reducible refine Kept.alloc ?_ _ | with_reducible refine Kept.drew ?_ | with_reducible refine Kept.drewN ?_ _ | with_reducible refine Kept.set ?_ (by first | (simp; done) | (simp; omega) | omega) _)); done) | exact hk | exact (hk.alloc _) | exact ((hk.alloc _).alloc _) | exact (((hk.alloc _).alloc _).alloc _) | exact ((((hk.alloc _).alloc _).alloc _).alloc _) | exact (((((hk.alloc _).alloc _).alloc _).alloc _).alloc _) | exact ((((((hk.alloc _).alloc _).alloc _).alloc _).alloc _).alloc _) | (repeat (first | exact hk | refine Kept.alloc ?_ _ | refine Kept.drew ?_ | refine Kept.drewN ?_ _ | refine Kept.set ?_ (by first | (simp; done) | (simp; omega) | omega) _))) : Kept w X)
  replace st : Own X _ _ (setLen s 15 ⟨k, x⟩).C := eX ▸ ((((st.set 18 _).set 19 _)).is (by rfl))
  replace m := m.same (X := X) (by rw [eX]; repeat (first | with_reducible rfl | with_reducible refine (Below.heap_setCell _ _ _ _ (by first | omega | (simp; done) | (simp; omega))).trans ?_ | with_reducible refine (heap_drew_ _ _).trans ?_ | with_reducible refine (heap_drewN_ _ _ _).trans ?_))
  replace d := d.same (X := X) (by rw [eX]; repeat (first | with_reducible rfl | with_reducible refine (Below.heap_setCell _ _ _ _ (by first | omega | (simp; done) | (simp; omega))).trans ?_ | with_reducible refine (heap_drew_ _ _).trans ?_ | with_reducible refine (heap_drewN_ _ _ _).trans ?_))
  replace r := r.same (X := X) (by rw [eX]; repeat (first | with_reducible rfl | with_reducible refine (Below.heap_setCell _ _ _ _ (by first | omega | (simp; done) | (simp; omega))).trans ?_ | with_reducible refine (heap_drew_ _ _).trans ?_ | with_reducible refine (heap_drewN_ _ _ _).trans ?_))
  clear eX
  replace m_l := m.lt
  replace m_0 := m.at 0 _ rfl
  replace m_1 := m.at 1 _ rfl
  replace d_l := d.lt
  replace d_0 := d.at 0 _ rfl
  replace d_1 := d.at 1 _ rfl
  clear c0 c1 f0 f1
  go_wp2_with (first | (refine here_load 42 _ rfl ?_; refine wpList_load_own rfl 42 _ rfl _ rfl st _ Tryd.underlying42 rfl (by kernel_rfl) ?_) | (refine here_store 42 _ _ rfl ?_; refine wpList_store_own rfl 42 _ _ rfl _ _ rfl rfl r (by rfl) (by kernel_rfl) (by rfl) ?_; intro X oX hoX hkX; replace hk := hkX _ hk (by first | omega | (simp; omega)); replace r := oX; replace st := st.same (hoX _ (by first | omega | (simp; omega))); replace m := m.same (hoX _ (by first | omega | (simp; omega))); replace d := d.same (hoX _ (by first | omega | (simp; omega))); clear oX hoX hkX; replace m_l := m.lt; replace m_0 := m.at 0 _ rfl; replace m_1 := m.at 1 _ rfl; replace d_l := d.lt; replace d_0 := d.at 0 _ rfl; replace d_1 := d.at 1 _ rfl))
  exact bodyPost_ret (results_own_tmp 42 _ Tryd.results38 rfl r Tryd.underlying42 rfl (by kernel_rfl)) rfl ⟨_, ok, rfl, HS.out, hk⟩
theorem set_16 (s : Sty) (wr di q : Int) (v : ByteArray) (w : World) (hn : v.size ≤ 140737488355328) (hp : Pow w) (ht : Tab w) (hm : mapS wr di q = (16, 0)) :
    Calls Tryd.prog 38 #[s.V, modeV wr di, .agg #[.int .i64 q, .string v]] w fun e w' => ∃ t ok, e = .returned (.tuple #[Sty.V t, .bool ok]) ∧ Sets (setS di s 16 v) t ok ∧ Kept w w' := by
  have H1 := Lib.hid (fun wx (hx : Tab wx) => (show Calls Tryd.prog 55 #[modeV wr di, .int .i64 q] wx (fun e w' => e = .returned (.tuple #[.int .i64 16, .int .i64 0]) ∧ Kept wx w') from by have := propMap_any wr di q wx hx; rw [hm] at this; exact this))
  clear hm
  obtain ⟨⟨⟨k, x⟩, E⟩, h⟩ : ∃ r, parseS v = r := ⟨_, rfl⟩
  have H2 := Lib.hid (fun wx (hx : Pow wx) => parse10_is v k x E wx hn hx h)
  have hE : E = 0 ∨ E = 800 := by have := parse_err v; rw [h] at this; exact this
  have HS : Sets (setS di s 16 v) (setLen s 16 ⟨k, x⟩) (E == 0) := by
    unfold setS
    rw [if_neg (by decide), h]
    rcases hE with rfl | rfl
    · exact ⟨rfl, rfl⟩
    · exact rfl
  replace HS := Lib.hid HS
  clear h hE
  obtain ⟨ok, hok⟩ : ∃ b, (E == 0) = b := ⟨_, rfl⟩
  rw [hok] at HS
  have hk : Kept w w := Kept.refl w
  go_enter Tryd.func38, Tryd.ntmps38
  go_wp2_with fail
  refine with_boxes4 ?_
  intro X hX st m d r
  have hsz := hk.size
  replace hk := hk.trans hX
  clear hX
  replace m_l := m.lt
  replace m_0 := m.at 0 _ rfl
  replace m_1 := m.at 1 _ rfl
  replace d_l := d.lt
  replace d_0 := d.at 0 _ rfl
  replace d_1 := d.at 1 _ rfl
  refine (H1.out _ (ht.kept hk)).mono ?_
  rintro e w1 ⟨rfl, hn⟩
  replace hk := hk.trans hn
  replace st := st.kept hn
  replace m := m.kept hn
  replace d := d.kept hn
  replace r := r.kept hn
  clear hn
  replace m_l := m.lt
  replace m_0 := m.at 0 _ rfl
  replace m_1 := m.at 1 _ rfl
  replace d_l := d.lt
  replace d_0 := d.at 0 _ rfl
  replace d_1 := d.at 1 _ rfl
  go_wp2_with fail
  refine (lengthOf_16 _ _).mono ?_
  rintro e w1 ⟨rfl, rfl⟩
  go_wp2_with fail
  refine (H2.out _ (hp.kept hk)).mono ?_
  rintro e w1 ⟨rfl, hn⟩
  replace hk := hk.trans hn
  replace st := st.kept hn
  replace m := m.kept hn
  replace d := d.kept hn
  replace r := r.kept hn
  clear hn
  replace m_l := m.lt
  replace m_0 := m.at 0 _ rfl
  replace m_1 := m.at 1 _ rfl
  replace d_l := d.lt
  replace d_0 := d.at 0 _ rfl
  replace d_1 := d.at 1 _ rfl
  go_upto_region 5 with fail
  refine code_boxes1 ?_
  intro X hX y
  have hsz := hk.size
  replace hk := hk.trans hX
  replace st := st.kept hX
  replace m := m.kept hX
  replace d := d.kept hX
  replace r := r.kept hX
  clear hX
  replace m_l := m.lt
  replace m_0 := m.at 0 _ rfl
  replace m_1 := m.at 1 _ rfl
  replace d_l := d.lt
  replace d_0 := d.at 0 _ rfl
  replace d_1 := d.at 1 _ rfl
  replace y_l := y.lt
  replace y_0 := y.at 0 _ rfl
  replace y_1 := y.at 1 _ rfl
  have c0 := st.at 20 _ rfl
  have c1 := st.at 21 _ rfl
  have f0 := st.free 20
  have f1 := st.free 21
  have st_l := st.lt
  go_upto_region 6 with fail
  clear y
  clear y_l y_0 y_1
  refine code_eq ?_
  intro X eX
  have hsz := hk.size
  replace hk := (eX ▸ (by first | ((repeat (first | with_reducible exact hk | with_reducible refine Kept.alloc ?_ _ | with_reducible refine Kept.drew ?_ | with_reducible refine Kept.drewN ?_ _ | with_reducible refine Kept.set ?_ (by first | (simp; done) | (simp; omega) | omega) _)); done) | exact hk | exact (hk.alloc _) | exact ((hk.alloc _).alloc _) | exact (((hk.alloc _).alloc _).alloc _) | exact ((((hk.alloc _).alloc _).alloc _).alloc _) | exact (((((hk.alloc _).alloc _).alloc _).alloc _).alloc _) | exact ((((((hk.alloc _).alloc _).alloc _).alloc _).alloc _).alloc _) | (repeat (first | exact hk | refine Kept.alloc ?_ _ | refine Kept.drew ?_ | refine Kept.drewN ?_ _ | refine Kept.set ?_ (by first | (simp; done) | (simp; omega) | omega) _))) : Kept w X)
  replace st : Own X _ _ (setLen s 16 ⟨k, x⟩).C := eX ▸ ((((st.set 20 _).set 21 _)).is (by rfl))
  replace m := m.same (X := X) (by rw [eX]; repeat (first | with_reducible rfl | with_reducible refine (Below.heap_setCell _ _ _ _ (by first | omega | (simp; done) | (simp; omega))).trans ?_ | with_reducible refine (heap_drew_ _ _).trans ?_ | with_reducible refine (heap_drewN_ _ _ _).trans ?_))
  replace d := d.same (X := X) (by rw [eX]; repeat (first | with_reducible rfl | with_reducible refine (Below.heap_setCell _ _ _ _ (by first | omega | (simp; done) | (simp; omega))).trans ?_ | with_reducible refine (heap_drew_ _ _).trans ?_ | with_reducible refine (heap_drewN_ _ _ _).trans ?_))
  replace r := r.same (X := X) (by rw [eX]; repeat (first | with_reducible rfl | with_reducible refine (Below.heap_setCell _ _ _ _ (by first | omega | (simp; done) | (simp; omega))).trans ?_ | with_reducible refine (heap_drew_ _ _).trans ?_ | with_reducible refine (heap_drewN_ _ _ _).trans ?_))
  clear eX
  replace m_l := m.lt
  replace m_0 := m.at 0 _ rfl
  replace m_1 := m.at 1 _ rfl
  replace d_l := d.lt
  replace d_0 := d.at 0 _ rfl
  replace d_1 := d.at 1 _ rfl
  clear c0 c1 f0 f1
  go_wp2_with (first | (refine here_load 42 _ rfl ?_; refine wpList_load_own rfl 42 _ rfl _ rfl st _ Tryd.underlying42 rfl (by kernel_rfl) ?_) | (refine here_store 42 _ _ rfl ?_; refine wpList_store_own rfl 42 _ _ rfl _ _ rfl rfl r (by rfl) (by kernel_rfl) (by rfl) ?_; intro X oX hoX hkX; replace hk := hkX _ hk (by first | omega | (simp; omega)); replace r := oX; replace st := st.same (hoX _ (by first | omega | (simp; omega))); replace m := m.same (hoX _ (by first | omega | (simp; omega))); replace d := d.same (hoX _ (by first | omega | (simp; omega))); clear oX hoX hkX; replace m_l := m.lt; replace m_0 := m.at 0 _ rfl; replace m_1 := m.at 1 _ rfl; replace d_l := d.lt; replace d_0 := d.at 0 _ rfl; replace d_1 := d.at 1 _ rfl))
  exact bodyPost_ret (results_own_tmp 42 _ Tryd.results38 rfl r Tryd.underlying42 rfl (by kernel_rfl)) rfl ⟨_, ok, rfl, HS.out, hk⟩
theorem set_17 (s : Sty) (wr di q : Int) (v : ByteArray) (w : World) (hn : v.size ≤ 140737488355328) (hp : Pow w) (ht : Tab w) (hm : mapS wr di q = (17, 0)) :
    Calls Tryd.prog 38 #[s.V, modeV wr di, .agg #[.int .i64 q, .string v]] w fun e w' => ∃ t ok, e = .returned (.tuple #[Sty.V t, .bool ok]) ∧ Sets (setS di s 17 v) t ok ∧ Kept w w' := by
  have H1 := Lib.hid (fun wx (hx : Tab wx) => (show Calls Tryd.prog 55 #[modeV wr di, .int .i64 q] wx (fun e w' => e = .returned (.tuple #[.int .i64 17, .int .i64 0]) ∧ Kept wx w') from by have := propMap_any wr di q wx hx; rw [hm] at this; exact this))
  clear hm
  obtain ⟨⟨⟨k, x⟩, E⟩, h⟩ : ∃ r, parseS v = r := ⟨_, rfl⟩
  have H2 := Lib.hid (fun wx (hx : Pow wx) => parse10_is v k x E wx hn hx h)
  have hE : E = 0 ∨ E = 800 := by have := parse_err v; rw [h] at this; exact this
  have HS : Sets (setS di s 17 v) (setLen s 17 ⟨k, x⟩) (E == 0) := by
    unfold setS
    rw [if_neg (by decide), h]
    rcases hE with rfl | rfl
    · exact ⟨rfl, rfl⟩
    · exact rfl
  replace HS := Lib.hid HS
  clear h hE
  obtain ⟨ok, hok⟩ : ∃ b, (E == 0) = b := ⟨_, rfl⟩
  rw [hok] at HS
  have hk : Kept w w := Kept.refl w
  go_enter Tryd.func38, Tryd.ntmps38
  go_wp2_with fail
  refine with_boxes4 ?_
  intro X hX st m d r
  have hsz := hk.size
  replace hk := hk.trans hX
  clear hX
  replace m_l := m.lt
  replace m_0 := m.at 0 _ rfl
  replace m_1 := m.at 1 _ rfl
  replace d_l := d.lt
  replace d_0 := d.at 0 _ rfl
  replace d_1 := d.at 1 _ rfl
  refine (H1.out _ (ht.kept hk)).mono ?_
  rintro e w1 ⟨rfl, hn⟩
  replace hk := hk.trans hn
  replace st := st.kept hn
  replace m := m.kept hn
  replace d := d.kept hn
  replace r := r.kept hn
  clear hn
  replace m_l := m.lt
  replace m_0 := m.at 0 _ rfl
  replace m_1 := m.at 1 _ rfl
  replace d_l := d.lt
  replace d_0 := d.at 0 _ rfl
  replace d_1 := d.at 1 _ rfl
  go_wp2_with fail
  refine (lengthOf_17 _ _).mono ?_
  rintro e w1 ⟨rfl, rfl⟩
  go_wp2_with fail
  refine (H2.out _ (hp.kept hk)).mono ?_
  rintro e w1 ⟨rfl, hn⟩
  replace hk := hk.trans hn
  replace st := st.kept hn
  replace m := m.kept hn
  replace d := d.kept hn
  replace r := r.kept hn
  clear hn
  replace m_l := m.lt
  replace m_0 := m.at 0 _ rfl
  replace m_1 := m.at 1 _ rfl
  replace d_l := d.lt
  replace d_0 := d.at 0 _ rfl
  replace d_1 := d.at 1 _ rfl
  go_upto_region 5 with fail
  refine code_boxes1 ?_
  intro X hX y
  have hsz := hk.size
  replace hk := hk.trans hX
  replace st := st.kept hX
  replace m := m.kept hX
  replace d := d.kept hX
  replace r := r.kept hX
  clear hX
  replace m_l := m.lt
  replace m_0 := m.at 0 _ rfl
  replace m_1 := m.at 1 _ rfl
  replace d_l := d.lt
  replace d_0 := d.at 0 _ rfl
  replace d_1 := d.at 1 _ rfl
  replace y_l := y.lt
  replace y_0 := y.at 0 _ rfl
  replace y_1 := y.at 1 _ rfl
  have c0 := st.at 22 _ rfl
  have c1 := st.at 23 _ rfl
  have f0 := st.free 22
  have f1 := st.free 23
  have st_l := st.lt
  go_upto_region 6 with fail
  clear y
  clear y_l y_0 y_1
  refine code_eq ?_
  intro X eX
  have hsz := hk.size
  replace hk := (eX ▸ (by first | ((repeat (first | with_reducible exact hk | with_reducible refine Kept.alloc ?_ _ | with_reducible refine Kept.drew ?_ | with_reducible refine Kept.drewN ?_ _ | with_reducible refine Kept.set ?_ (by first | (simp; done) | (simp; omega) | omega) _)); done) | exact hk | exact (hk.alloc _) | exact ((hk.alloc _).alloc _) | exact (((hk.alloc _).alloc _).alloc _) | exact ((((hk.alloc _).alloc _).alloc _).alloc _) | exact (((((hk.alloc _).alloc _).alloc _).alloc _).alloc _) | exact ((((((hk.alloc _).alloc _).alloc _).alloc _).alloc _).alloc _) | (repeat (first | exact hk | refine Kept.alloc ?_ _ | refine Kept.drew ?_ | refine Kept.drewN ?_ _ | refine Kept.set ?_ (by first | (simp; done) | (simp; omega) | omega) _))) : Kept w X)
  replace st : Own X _ _ (setLen s 17 ⟨k, x⟩).C := eX ▸ ((((st.set 22 _).set 23 _)).is (by rfl))
  replace m := m.same (X := X) (by rw [eX]; repeat (first | with_reducible rfl | with_reducible refine (Below.heap_setCell _ _ _ _ (by first | omega | (simp; done) | (simp; omega))).trans ?_ | with_reducible refine (heap_drew_ _ _).trans ?_ | with_reducible refine (heap_drewN_ _ _ _).trans ?_))
  replace d := d.same (X := X) (by rw [eX]; repeat (first | with_reducible rfl | with_reducible refine (Below.heap_setCell _ _ _ _ (by first | omega | (simp; done) | (simp; omega))).trans ?_ | with_reducible refine (heap_drew_ _ _).trans ?_ | with_reducible refine (heap_drewN_ _ _ _).trans ?_))
  replace r := r.same (X := X) (by rw [eX]; repeat (first | with_reducible rfl | with_reducible refine (Below.heap_setCell _ _ _ _ (by first | omega | (simp; done) | (simp; omega))).trans ?_ | with_reducible refine (heap_drew_ _ _).trans ?_ | with_reducible refine (heap_drewN_ _ _ _).trans ?_))
  clear eX
  replace m_l := m.lt
  replace m_0 := m.at 0 _ rfl
  replace m_1 := m.at 1 _ rfl
  replace d_l := d.lt
  replace d_0 := d.at 0 _ rfl
  replace d_1 := d.at 1 _ rfl
  clear c0 c1 f0 f1
  go_wp2_with (first | (refine here_load 42 _ rfl ?_; refine wpList_load_own rfl 42 _ rfl _ rfl st _ Tryd.underlying42 rfl (by kernel_rfl) ?_) | (refine here_store 42 _ _ rfl ?_; refine wpList_store_own rfl 42 _ _ rfl _ _ rfl rfl r (by rfl) (by kernel_rfl) (by rfl) ?_; intro X oX hoX hkX; replace hk := hkX _ hk (by first | omega | (simp; omega)); replace r := oX; replace st := st.same (hoX _ (by first | omega | (simp; omega))); replace m := m.same (hoX _ (by first | omega | (simp; omega))); replace d := d.same (hoX _ (by first | omega | (simp; omega))); clear oX hoX hkX; replace m_l := m.lt; replace m_0 := m.at 0 _ rfl; replace m_1 := m.at 1 _ rfl; replace d_l := d.lt; replace d_0 := d.at 0 _ rfl; replace d_1 := d.at 1 _ rfl))
  exact bodyPost_ret (results_own_tmp 42 _ Tryd.results38 rfl r Tryd.underlying42 rfl (by kernel_rfl)) rfl ⟨_, ok, rfl, HS.out, hk⟩
theorem set_22 (s : Sty) (wr di q : Int) (v : ByteArray) (w : World) (hn : v.size ≤ 140737488355328) (hp : Pow w) (ht : Tab w) (hm : mapS wr di q = (22, 0)) :
    Calls Tryd.prog 38 #[s.V, modeV wr di, .agg #[.int .i64 q, .string v]] w fun e w' => ∃ t ok, e = .returned (.tuple #[Sty.V t, .bool ok]) ∧ Sets (setS di s 22 v) t ok ∧ Kept w w' := by
  have H1 := Lib.hid (fun wx (hx : Tab wx) => (show Calls Tryd.prog 55 #[modeV wr di, .int .i64 q] wx (fun e w' => e = .returned (.tuple #[.int .i64 22, .int .i64 0]) ∧ Kept wx w') from by have := propMap_any wr di q wx hx; rw [hm] at this; exact this))
  clear hm
  obtain ⟨⟨⟨k, x⟩, E⟩, h⟩ : ∃ r, parseS v = r := ⟨_, rfl⟩
  have H2 := Lib.hid (fun wx (hx : Pow wx) => parse10_is v k x E wx hn hx h)
  have hE : E = 0 ∨ E = 800 := by have := parse_err v; rw [h] at this; exact this
  have HS : Sets (setS di s 22 v) (setLen s 22 ⟨k, x⟩) (E == 0) := by
    unfold setS
    rw [if_neg (by decide), h]
    rcases hE with rfl | rfl
    · exact ⟨rfl, rfl⟩
    · exact rfl
  replace HS := Lib.hid HS
  clear h hE
  obtain ⟨ok, hok⟩ : ∃ b, (E == 0) = b := ⟨_, rfl⟩
  rw [hok] at HS
  have hk : Kept w w := Kept.refl w
  go_enter Tryd.func38, Tryd.ntmps38
  go_wp2_with fail
  refine with_boxes4 ?_
  intro X hX st m d r
  have hsz := hk.size
  replace hk := hk.trans hX
  clear hX
  replace m_l := m.lt
  replace m_0 := m.at 0 _ rfl
  replace m_1 := m.at 1 _ rfl
  replace d_l := d.lt
  replace d_0 := d.at 0 _ rfl
  replace d_1 := d.at 1 _ rfl
  refine (H1.out _ (ht.kept hk)).mono ?_
  rintro e w1 ⟨rfl, hn⟩
  replace hk := hk.trans hn
  replace st := st.kept hn
  replace m := m.kept hn
  replace d := d.kept hn
  replace r := r.kept hn
  clear hn
  replace m_l := m.lt
  replace m_0 := m.at 0 _ rfl
  replace m_1 := m.at 1 _ rfl
  replace d_l := d.lt
  replace d_0 := d.at 0 _ rfl
  replace d_1 := d.at 1 _ rfl
  go_wp2_with fail
  refine (lengthOf_22 _ _).mono ?_
  rintro e w1 ⟨rfl, rfl⟩
  go_wp2_with fail
  refine (H2.out _ (hp.kept hk)).mono ?_
  rintro e w1 ⟨rfl, hn⟩
  replace hk := hk.trans hn
  replace st := st.kept hn
  replace m := m.kept hn
  replace d := d.kept hn
  replace r := r.kept hn
  clear hn
  replace m_l := m.lt
  replace m_0 := m.at 0 _ rfl
  replace m_1 := m.at 1 _ rfl
  replace d_l := d.lt
  replace d_0 := d.at 0 _ rfl
  replace d_1 := d.at 1 _ rfl
  go_upto_region 5 with fail
  refine code_boxes1 ?_
  intro X hX y
  have hsz := hk.size
  replace hk := hk.trans hX
  replace st := st.kept hX
  replace m := m.kept hX
  replace d := d.kept hX
  replace r := r.kept hX
  clear hX
  replace m_l := m.lt
  replace m_0 := m.at 0 _ rfl
  replace m_1 := m.at 1 _ rfl
  replace d_l := d.lt
  replace d_0 := d.at 0 _ rfl
  replace d_1 := d.at 1 _ rfl
  replace y_l := y.lt
  replace y_0 := y.at 0 _ rfl
  replace y_1 := y.at 1 _ rfl
  have c0 := st.at 24 _ rfl
  have c1 := st.at 25 _ rfl
  have f0 := st.free 24
  have f1 := st.free 25
  have st_l := st.lt
  go_upto_region 6 with fail
  clear y
  clear y_l y_0 y_1
  refine code_eq ?_
  intro X eX
  have hsz := hk.size
  replace hk := (eX ▸ (by first | ((repeat (first | with_reducible exact hk | with_reducible refine Kept.alloc ?_ _ | with_reducible refine Kept.drew ?_ | with_reducible refine Kept.drewN ?_ _ | with_reducible refine Kept.set ?_ (by first | (simp; done) | (simp; omega) | omega) _)); done) | exact hk | exact (hk.alloc _) | exact ((hk.alloc _).alloc _) | exact (((hk.alloc _).alloc _).alloc _) | exact ((((hk.alloc _).alloc _).alloc _).alloc _) | exact (((((hk.alloc _).alloc _).alloc _).alloc _).alloc _) | exact ((((((hk.alloc _).alloc _).alloc _).alloc _).alloc _).alloc _) | (repeat (first | exact hk | refine Kept.alloc ?_ _ | refine Kept.drew ?_ | refine Kept.drewN ?_ _ | refine Kept.set ?_ (by first | (simp; done) | (simp; omega) | omega) _))) : Kept w X)
  replace st : Own X _ _ (setLen s 22 ⟨k, x⟩).C := eX ▸ ((((st.set 24 _).set 25 _)).is (by rfl))
  replace m := m.same (X := X) (by rw [eX]; repeat (first | with_reducible rfl | with_reducible refine (Below.heap_setCell _ _ _ _ (by first | omega | (simp; done) | (simp; omega))).trans ?_ | with_reducible refine (heap_drew_ _ _).trans ?_ | with_reducible refine (heap_drewN_ _ _ _).trans ?_))
  replace d := d.same (X := X) (by rw [eX]; repeat (first | with_reducible rfl | with_reducible refine (Below.heap_setCell _ _ _ _ (by first | omega | (simp; done) | (simp; omega))).trans ?_ | with_reducible refine (heap_drew_ _ _).trans ?_ | with_reducible refine (heap_drewN_ _ _ _).trans ?_))
  replace r := r.same (X := X) (by rw [eX]; repeat (first | with_reducible rfl | with_reducible refine (Below.heap_setCell _ _ _ _ (by first | omega | (simp; done) | (simp; omega))).trans ?_ | with_reducible refine (heap_drew_ _ _).trans ?_ | with_reducible refine (heap_drewN_ _ _ _).trans ?_))
  clear eX
  replace m_l := m.lt
  replace m_0 := m.at 0 _ rfl
  replace m_1 := m.at 1 _ rfl
  replace d_l := d.lt
  replace d_0 := d.at 0 _ rfl
  replace d_1 := d.at 1 _ rfl
  clear c0 c1 f0 f1
  go_wp2_with (first | (refine here_load 42 _ rfl ?_; refine wpList_load_own rfl 42 _ rfl _ rfl st _ Tryd.underlying42 rfl (by kernel_rfl) ?_) | (refine here_store 42 _ _ rfl ?_; refine wpList_store_own rfl 42 _ _ rfl _ _ rfl rfl r (by rfl) (by kernel_rfl) (by rfl) ?_; intro X oX hoX hkX; replace hk := hkX _ hk (by first | omega | (simp; omega)); replace r := oX; replace st := st.same (hoX _ (by first | omega | (simp; omega))); replace m := m.same (hoX _ (by first | omega | (simp; omega))); replace d := d.same (hoX _ (by first | omega | (simp; omega))); clear oX hoX hkX; replace m_l := m.lt; replace m_0 := m.at 0 _ rfl; replace m_1 := m.at 1 _ rfl; replace d_l := d.lt; replace d_0 := d.at 0 _ rfl; replace d_1 := d.at 1 _ rfl))
  exact bodyPost_ret (results_own_tmp 42 _ Tryd.results38 rfl r Tryd.underlying42 rfl (by kernel_rfl)) rfl ⟨_, ok, rfl, HS.out, hk⟩
end Go.Proofs.YtnbagilcbngdcaaDoor
