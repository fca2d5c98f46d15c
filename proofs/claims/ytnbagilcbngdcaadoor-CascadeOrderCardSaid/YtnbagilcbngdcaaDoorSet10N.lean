/- Layer 10: one declaration more, by the program. -/
import Derived.Test.YtnbagilcbngdcaaDoorSet10A
import Derived.Test.YtnbagilcbngdcaaDoorLengthOf
import Derived.Deep.CutRange
namespace Go.Proofs.YtnbagilcbngdcaaDoor
open Go.RowKit
set_option linter.unusedSimpArgs false
set_option linter.unusedVariables false
set_option maxHeartbeats 4000000
set_option maxRecDepth 20000
theorem sets_named (di : Int) (s : Sty) (p : Int) (v : ByteArray) (hp : 25 ≤ p) : Sets (setS di s p v) (setNamed s p (max 0 (namedK di p v))) (decide (0 ≤ namedK di p v)) := by
  unfold setS
  rw [if_pos hp]
  by_cases h : 0 ≤ namedK di p v
  · rw [if_pos h, show max 0 (namedK di p v) = namedK di p v by omega]
    exact ⟨rfl, decide_eq_true h⟩
  · rw [if_neg h]
    exact decide_eq_false h
theorem set_23 (s : Sty) (wr di q : Int) (v : ByteArray) (w : World) (hn : v.size ≤ 140737488355328) (hp : Pow w) (ht : Tab w) (hm : mapS wr di q = (23, 0)) :
    Calls Tryd.prog 38 #[s.V, modeV wr di, .agg #[.int .i64 q, .string v]] w fun e w' => ∃ t ok, e = .returned (.tuple #[Sty.V t, .bool ok]) ∧ Sets (setS di s 23 v) t ok ∧ Kept w w' := by
  have H1 := Lib.hid (fun wx (hx : Tab wx) => (show Calls Tryd.prog 55 #[modeV wr di, .int .i64 q] wx (fun e w' => e = .returned (.tuple #[.int .i64 23, .int .i64 0]) ∧ Kept wx w') from by have := propMap_any wr di q wx hx; rw [hm] at this; exact this))
  clear hm
  obtain ⟨⟨⟨k, x⟩, E⟩, h⟩ : ∃ r, parseS v = r := ⟨_, rfl⟩
  obtain ⟨ok, hok⟩ : ∃ b, (E == 0 && k == 1) = b := ⟨_, rfl⟩
  have H2 := Lib.hid (fun wx (hx : Pow wx) => factor_is v k x E ok wx hn hx h hok)
  have hE : E = 0 ∨ E = 800 := by have := parse_err v; rw [h] at this; exact this
  have HS : Sets (setS di s 23 v) (setNum s 23 x) ok := by
    unfold setS
    rw [if_neg (by decide), h]
    rcases hE with rfl | rfl
    · rw [if_pos rfl, if_pos (by decide)]
      by_cases hk1 : k = 1
      · subst hk1; exact ⟨rfl, hok.symm⟩
      · dsimp only
        rw [if_neg hk1]
        have : (k == 1) = false := by simpa using hk1
        rw [this] at hok
        exact hok.symm
    · exact hok.symm
  replace HS := Lib.hid HS
  clear h hE hok
  have hk : Kept w w := Kept.refl w
  go_enter Tryd.func38, Tryd.ntmps38
  go_wp2_with fail
  refine with_boxes4 ?_
  intro X hX st m d r
  have hsz := hk.size
  replace hk := hk.trans hX
  clear hX
  replace m_l := m.lt
  replace m_0 := m.at 0 _ rfl
  replace m_1 := m.at 1 _ rfl
  replace d_l := d.lt
  replace d_0 := d.at 0 _ rfl
  replace d_1 := d.at 1 _ rfl
  refine (H1.out _ (ht.kept hk)).mono ?_
  rintro e w1 ⟨rfl, hn⟩
  replace hk := hk.trans hn
  replace st := st.kept hn
  replace m := m.kept hn
  replace d := d.kept hn
  replace r := r.kept hn
  clear hn
  replace m_l := m.lt
  replace m_0 := m.at 0 _ rfl
  replace m_1 := m.at 1 _ rfl
  replace d_l := d.lt
  replace d_0 := d.at 0 _ rfl
  replace d_1 := d.at 1 _ rfl
  go_wp2_with fail
  refine (lengthOf_23 _ _).mono ?_
  rintro e w1 ⟨rfl, rfl⟩
  go_wp2_with fail
  refine (H2.out _ (hp.kept hk)).mono ?_
  rintro e w1 ⟨rfl, hn⟩
  replace hk := hk.trans hn
  replace st := st.kept hn
  replace m := m.kept hn
  replace d := d.kept hn
  replace r := r.kept hn
  clear hn
  replace m_l := m.lt
  replace m_0 := m.at 0 _ rfl
  replace m_1 := m.at 1 _ rfl
  replace d_l := d.lt
  replace d_0 := d.at 0 _ rfl
  replace d_1 := d.at 1 _ rfl
  have c0 := st.at 26 _ rfl
  have f0 := st.free 26
  have st_l := st.lt
  go_upto_region 23 with fail
  refine code_eq ?_
  intro X eX
  have hsz := hk.size
  replace hk := (eX ▸ (by first | ((repeat (first | with_reducible exact hk | with_reducible refine Kept.alloc ?_ _ | with_reducible refine Kept.drew ?_ | with_reducible refine Kept.drewN ?_ _ | with_reducible refine Kept.set ?_ (by first | (simp; done) | (simp; omega) | omega) _)); done) | exact hk | exact (hk.alloc _) | exact ((hk.alloc _).alloc _) | exact (((hk.alloc _).alloc _).alloc _) | exact ((((hk.alloc _).alloc _).alloc _).alloc _) | exact (((((hk.alloc _).alloc _).alloc _).alloc _).alloc _) | exact ((((((hk.alloc _).alloc _).alloc _).alloc _).alloc _).alloc _) | (repeat (first | exact hk | refine Kept.alloc ?_ _ | refine Kept.drew ?_ | refine Kept.drewN ?_ _ | refine Kept.set ?_ (by first | (simp; done) | (simp; omega) | omega) _))) : Kept w X)
  replace st : Own X _ _ (setNum s 23 x).C := eX ▸ (((st.set 26 _)).is (by rfl))
  replace m := m.same (X := X) (by rw [eX]; repeat (first | with_reducible rfl | with_reducible refine (Below.heap_setCell _ _ _ _ (by first | omega | (simp; done) | (simp; omega))).trans ?_ | with_reducible refine (heap_drew_ _ _).trans ?_ | with_reducible refine (heap_drewN_ _ _ _).trans ?_))
  replace d := d.same (X := X) (by rw [eX]; repeat (first | with_reducible rfl | with_reducible refine (Below.heap_setCell _ _ _ _ (by first | omega | (simp; done) | (simp; omega))).trans ?_ | with_reducible refine (heap_drew_ _ _).trans ?_ | with_reducible refine (heap_drewN_ _ _ _).trans ?_))
  replace r := r.same (X := X) (by rw [eX]; repeat (first | with_reducible rfl | with_reducible refine (Below.heap_setCell _ _ _ _ (by first | omega | (simp; done) | (simp; omega))).trans ?_ | with_reducible refine (heap_drew_ _ _).trans ?_ | with_reducible refine (heap_drewN_ _ _ _).trans ?_))
  clear eX
  replace m_l := m.lt
  replace m_0 := m.at 0 _ rfl
  replace m_1 := m.at 1 _ rfl
  replace d_l := d.lt
  replace d_0 := d.at 0 _ rfl
  replace d_1 := d.at 1 _ rfl
  clear c0 f0
  go_wp2_with (first | (refine here_load 42 _ rfl ?_; refine wpList_load_own rfl 42 _ rfl _ rfl st _ Tryd.underlying42 rfl (by kernel_rfl) ?_) | (refine here_store 42 _ _ rfl ?_; refine wpList_store_own rfl 42 _ _ rfl _ _ rfl rfl r (by rfl) (by kernel_rfl) (by rfl) ?_; intro X oX hoX hkX; replace hk := hkX _ hk (by first | omega | (simp; omega)); replace r := oX; replace st := st.same (hoX _ (by first | omega | (simp; omega))); replace m := m.same (hoX _ (by first | omega | (simp; omega))); replace d := d.same (hoX _ (by first | omega | (simp; omega))); clear oX hoX hkX; replace m_l := m.lt; replace m_0 := m.at 0 _ rfl; replace m_1 := m.at 1 _ rfl; replace d_l := d.lt; replace d_0 := d.at 0 _ rfl; replace d_1 := d.at 1 _ rfl))
  exact bodyPost_ret (results_own_tmp 42 _ Tryd.results38 rfl r Tryd.underlying42 rfl (by kernel_rfl)) rfl ⟨_, ok, rfl, HS.out, hk⟩
theorem set_24 (s : Sty) (wr di q : Int) (v : ByteArray) (w : World) (hn : v.size ≤ 140737488355328) (hp : Pow w) (ht : Tab w) (hm : mapS wr di q = (24, 0)) :
    Calls Tryd.prog 38 #[s.V, modeV wr di, .agg #[.int .i64 q, .string v]] w fun e w' => ∃ t ok, e = .returned (.tuple #[Sty.V t, .bool ok]) ∧ Sets (setS di s 24 v) t ok ∧ Kept w w' := by
  have H1 := Lib.hid (fun wx (hx : Tab wx) => (show Calls Tryd.prog 55 #[modeV wr di, .int .i64 q] wx (fun e w' => e = .returned (.tuple #[.int .i64 24, .int .i64 0]) ∧ Kept wx w') from by have := propMap_any wr di q wx hx; rw [hm] at this; exact this))
  clear hm
  obtain ⟨⟨⟨k, x⟩, E⟩, h⟩ : ∃ r, parseS v = r := ⟨_, rfl⟩
  obtain ⟨ok, hok⟩ : ∃ b, (E == 0 && k == 1) = b := ⟨_, rfl⟩
  have H2 := Lib.hid (fun wx (hx : Pow wx) => factor_is v k x E ok wx hn hx h hok)
  have hE : E = 0 ∨ E = 800 := by have := parse_err v; rw [h] at this; exact this
  have HS : Sets (setS di s 24 v) (setNum s 24 x) ok := by
    unfold setS
    rw [if_neg (by decide), h]
    rcases hE with rfl | rfl
    · rw [if_pos rfl, if_pos (by decide)]
      by_cases hk1 : k = 1
      · subst hk1; exact ⟨rfl, hok.symm⟩
      · dsimp only
        rw [if_neg hk1]
        have : (k == 1) = false := by simpa using hk1
        rw [this] at hok
        exact hok.symm
    · exact hok.symm
  replace HS := Lib.hid HS
  clear h hE hok
  have hk : Kept w w := Kept.refl w
  go_enter Tryd.func38, Tryd.ntmps38
  go_wp2_with fail
  refine with_boxes4 ?_
  intro X hX st m d r
  have hsz := hk.size
  replace hk := hk.trans hX
  clear hX
  replace m_l := m.lt
  replace m_0 := m.at 0 _ rfl
  replace m_1 := m.at 1 _ rfl
  replace d_l := d.lt
  replace d_0 := d.at 0 _ rfl
  replace d_1 := d.at 1 _ rfl
  refine (H1.out _ (ht.kept hk)).mono ?_
  rintro e w1 ⟨rfl, hn⟩
  replace hk := hk.trans hn
  replace st := st.kept hn
  replace m := m.kept hn
  replace d := d.kept hn
  replace r := r.kept hn
  clear hn
  replace m_l := m.lt
  replace m_0 := m.at 0 _ rfl
  replace m_1 := m.at 1 _ rfl
  replace d_l := d.lt
  replace d_0 := d.at 0 _ rfl
  replace d_1 := d.at 1 _ rfl
  go_wp2_with fail
  refine (lengthOf_24 _ _).mono ?_
  rintro e w1 ⟨rfl, rfl⟩
  go_wp2_with fail
  refine (H2.out _ (hp.kept hk)).mono ?_
  rintro e w1 ⟨rfl, hn⟩
  replace hk := hk.trans hn
  replace st := st.kept hn
  replace m := m.kept hn
  replace d := d.kept hn
  replace r := r.kept hn
  clear hn
  replace m_l := m.lt
  replace m_0 := m.at 0 _ rfl
  replace m_1 := m.at 1 _ rfl
  replace d_l := d.lt
  replace d_0 := d.at 0 _ rfl
  replace d_1 := d.at 1 _ rfl
  have c0 := st.at 27 _ rfl
  have f0 := st.free 27
  have st_l := st.lt
  go_upto_region 23 with fail
  refine code_eq ?_
  intro X eX
  have hsz := hk.size
  replace hk := (eX ▸ (by first | ((repeat (first | with_reducible exact hk | with_reducible refine Kept.alloc ?_ _ | with_reducible refine Kept.drew ?_ | with_reducible refine Kept.drewN ?_ _ | with_reducible refine Kept.set ?_ (by first | (simp; done) | (simp; omega) | omega) _)); done) | exact hk | exact (hk.alloc _) | exact ((hk.alloc _).alloc _) | exact (((hk.alloc _).alloc _).alloc _) | exact ((((hk.alloc _).alloc _).alloc _).alloc _) | exact (((((hk.alloc _).alloc _).alloc _).alloc _).alloc _) | exact ((((((hk.alloc _).alloc _).alloc _).alloc _).alloc _).alloc _) | (repeat (first | exact hk | refine Kept.alloc ?_ _ | refine Kept.drew ?_ | refine Kept.drewN ?_ _ | refine Kept.set ?_ (by first | (simp; done) | (simp; omega) | omega) _))) : Kept w X)
  replace st : Own X _ _ (setNum s 24 x).C := eX ▸ (((st.set 27 _)).is (by rfl))
  replace m := m.same (X := X) (by rw [eX]; repeat (first | with_reducible rfl | with_reducible refine (Below.heap_setCell _ _ _ _ (by first | omega | (simp; done) | (simp; omega))).trans ?_ | with_reducible refine (heap_drew_ _ _).trans ?_ | with_reducible refine (heap_drewN_ _ _ _).trans ?_))
  replace d := d.same (X := X) (by rw [eX]; repeat (first | with_reducible rfl | with_reducible refine (Below.heap_setCell _ _ _ _ (by first | omega | (simp; done) | (simp; omega))).trans ?_ | with_reducible refine (heap_drew_ _ _).trans ?_ | with_reducible refine (heap_drewN_ _ _ _).trans ?_))
  replace r := r.same (X := X) (by rw [eX]; repeat (first | with_reducible rfl | with_reducible refine (Below.heap_setCell _ _ _ _ (by first | omega | (simp; done) | (simp; omega))).trans ?_ | with_reducible refine (heap_drew_ _ _).trans ?_ | with_reducible refine (heap_drewN_ _ _ _).trans ?_))
  clear eX
  replace m_l := m.lt
  replace m_0 := m.at 0 _ rfl
  replace m_1 := m.at 1 _ rfl
  replace d_l := d.lt
  replace d_0 := d.at 0 _ rfl
  replace d_1 := d.at 1 _ rfl
  clear c0 f0
  go_wp2_with (first | (refine here_load 42 _ rfl ?_; refine wpList_load_own rfl 42 _ rfl _ rfl st _ Tryd.underlying42 rfl (by kernel_rfl) ?_) | (refine here_store 42 _ _ rfl ?_; refine wpList_store_own rfl 42 _ _ rfl _ _ rfl rfl r (by rfl) (by kernel_rfl) (by rfl) ?_; intro X oX hoX hkX; replace hk := hkX _ hk (by first | omega | (simp; omega)); replace r := oX; replace st := st.same (hoX _ (by first | omega | (simp; omega))); replace m := m.same (hoX _ (by first | omega | (simp; omega))); replace d := d.same (hoX _ (by first | omega | (simp; omega))); clear oX hoX hkX; replace m_l := m.lt; replace m_0 := m.at 0 _ rfl; replace m_1 := m.at 1 _ rfl; replace d_l := d.lt; replace d_0 := d.at 0 _ rfl; replace d_1 := d.at 1 _ rfl))
  exact bodyPost_ret (results_own_tmp 42 _ Tryd.results38 rfl r Tryd.underlying42 rfl (by kernel_rfl)) rfl ⟨_, ok, rfl, HS.out, hk⟩
theorem set_25 (s : Sty) (wr di q : Int) (v : ByteArray) (w : World) (hn : v.size ≤ 140737488355328) (hp : Pow w) (ht : Tab w) (hm : mapS wr di q = (25, 0)) :
    Calls Tryd.prog 38 #[s.V, modeV wr di, .agg #[.int .i64 q, .string v]] w fun e w' => ∃ t ok, e = .returned (.tuple #[Sty.V t, .bool ok]) ∧ Sets (setS di s 25 v) t ok ∧ Kept w w' := by
  have H1 := Lib.hid (fun wx (hx : Tab wx) => (show Calls Tryd.prog 55 #[modeV wr di, .int .i64 q] wx (fun e w' => e = .returned (.tuple #[.int .i64 25, .int .i64 0]) ∧ Kept wx w') from by have := propMap_any wr di q wx hx; rw [hm] at this; exact this))
  clear hm
  have HS := sets_named di s 25 v (by decide)
  rw [show namedK di 25 v = alignS di v from rfl] at HS
  replace HS := Lib.hid HS
  have HA := Lib.hid (fun wx => textAlign_any wr di v wx)
  generalize max 0 (alignS di v) = mm at *
  generalize decide (0 ≤ alignS di v) = ok at *
  obtain ⟨wb, hwb⟩ : ∃ b, (mm == 1) = b := ⟨_, rfl⟩
  have hk : Kept w w := Kept.refl w
  go_enter Tryd.func38, Tryd.ntmps38
  go_wp2_with fail
  refine with_boxes4 ?_
  intro X hX st m d r
  have hsz := hk.size
  replace hk := hk.trans hX
  clear hX
  replace m_l := m.lt
  replace m_0 := m.at 0 _ rfl
  replace m_1 := m.at 1 _ rfl
  replace d_l := d.lt
  replace d_0 := d.at 0 _ rfl
  replace d_1 := d.at 1 _ rfl
  refine (H1.out _ (ht.kept hk)).mono ?_
  rintro e w1 ⟨rfl, hn⟩
  replace hk := hk.trans hn
  replace st := st.kept hn
  replace m := m.kept hn
  replace d := d.kept hn
  replace r := r.kept hn
  clear hn
  replace m_l := m.lt
  replace m_0 := m.at 0 _ rfl
  replace m_1 := m.at 1 _ rfl
  replace d_l := d.lt
  replace d_0 := d.at 0 _ rfl
  replace d_1 := d.at 1 _ rfl
  go_wp2_with fail
  refine (lengthOf_25 _ _).mono ?_
  rintro e w1 ⟨rfl, rfl⟩
  go_wp2_with fail
  refine (HA.out _).mono ?_
  rintro e w1 ⟨rfl, hn⟩
  replace hk := hk.trans hn
  replace st := st.kept hn
  replace m := m.kept hn
  replace d := d.kept hn
  replace r := r.kept hn
  clear hn
  replace m_l := m.lt
  replace m_0 := m.at 0 _ rfl
  replace m_1 := m.at 1 _ rfl
  replace d_l := d.lt
  replace d_0 := d.at 0 _ rfl
  replace d_1 := d.at 1 _ rfl
  have c0 := st.at 28 _ rfl
  have f0 := st.free 28
  have st_l := st.lt
  go_upto_region 23 with fail
  refine code_eq ?_
  intro X eX
  have hsz := hk.size
  replace hk := (eX ▸ (by first | ((repeat (first | with_reducible exact hk | with_reducible refine Kept.alloc ?_ _ | with_reducible refine Kept.drew ?_ | with_reducible refine Kept.drewN ?_ _ | with_reducible refine Kept.set ?_ (by first | (simp; done) | (simp; omega) | omega) _)); done) | exact hk | exact (hk.alloc _) | exact ((hk.alloc _).alloc _) | exact (((hk.alloc _).alloc _).alloc _) | exact ((((hk.alloc _).alloc _).alloc _).alloc _) | exact (((((hk.alloc _).alloc _).alloc _).alloc _).alloc _) | exact ((((((hk.alloc _).alloc _).alloc _).alloc _).alloc _).alloc _) | (repeat (first | exact hk | refine Kept.alloc ?_ _ | refine Kept.drew ?_ | refine Kept.drewN ?_ _ | refine Kept.set ?_ (by first | (simp; done) | (simp; omega) | omega) _))) : Kept w X)
  replace st : Own X _ _ (setNamed s 25 mm).C := eX ▸ (((st.set 28 _)).is (by rfl))
  replace m := m.same (X := X) (by rw [eX]; repeat (first | with_reducible rfl | with_reducible refine (Below.heap_setCell _ _ _ _ (by first | omega | (simp; done) | (simp; omega))).trans ?_ | with_reducible refine (heap_drew_ _ _).trans ?_ | with_reducible refine (heap_drewN_ _ _ _).trans ?_))
  replace d := d.same (X := X) (by rw [eX]; repeat (first | with_reducible rfl | with_reducible refine (Below.heap_setCell _ _ _ _ (by first | omega | (simp; done) | (simp; omega))).trans ?_ | with_reducible refine (heap_drew_ _ _).trans ?_ | with_reducible refine (heap_drewN_ _ _ _).trans ?_))
  replace r := r.same (X := X) (by rw [eX]; repeat (first | with_reducible rfl | with_reducible refine (Below.heap_setCell _ _ _ _ (by first | omega | (simp; done) | (simp; omega))).trans ?_ | with_reducible refine (heap_drew_ _ _).trans ?_ | with_reducible refine (heap_drewN_ _ _ _).trans ?_))
  clear eX
  replace m_l := m.lt
  replace m_0 := m.at 0 _ rfl
  replace m_1 := m.at 1 _ rfl
  replace d_l := d.lt
  replace d_0 := d.at 0 _ rfl
  replace d_1 := d.at 1 _ rfl
  clear c0 f0
  go_wp2_with (first | (refine here_load 42 _ rfl ?_; refine wpList_load_own rfl 42 _ rfl _ rfl st _ Tryd.underlying42 rfl (by kernel_rfl) ?_) | (refine here_store 42 _ _ rfl ?_; refine wpList_store_own rfl 42 _ _ rfl _ _ rfl rfl r (by rfl) (by kernel_rfl) (by rfl) ?_; intro X oX hoX hkX; replace hk := hkX _ hk (by first | omega | (simp; omega)); replace r := oX; replace st := st.same (hoX _ (by first | omega | (simp; omega))); replace m := m.same (hoX _ (by first | omega | (simp; omega))); replace d := d.same (hoX _ (by first | omega | (simp; omega))); clear oX hoX hkX; replace m_l := m.lt; replace m_0 := m.at 0 _ rfl; replace m_1 := m.at 1 _ rfl; replace d_l := d.lt; replace d_0 := d.at 0 _ rfl; replace d_1 := d.at 1 _ rfl))
  exact bodyPost_ret (results_own_tmp 42 _ Tryd.results38 rfl r Tryd.underlying42 rfl (by kernel_rfl)) rfl ⟨_, ok, rfl, HS.out, hk⟩
theorem set_26 (s : Sty) (wr di q : Int) (v : ByteArray) (w : World) (hn : v.size ≤ 140737488355328) (hp : Pow w) (ht : Tab w) (hm : mapS wr di q = (26, 0)) :
    Calls Tryd.prog 38 #[s.V, modeV wr di, .agg #[.int .i64 q, .string v]] w fun e w' => ∃ t ok, e = .returned (.tuple #[Sty.V t, .bool ok]) ∧ Sets (setS di s 26 v) t ok ∧ Kept w w' := by
  have H1 := Lib.hid (fun wx (hx : Tab wx) => (show Calls Tryd.prog 55 #[modeV wr di, .int .i64 q] wx (fun e w' => e = .returned (.tuple #[.int .i64 26, .int .i64 0]) ∧ Kept wx w') from by have := propMap_any wr di q wx hx; rw [hm] at this; exact this))
  clear hm
  have HS := sets_named di s 26 v (by decide)
  rw [show namedK di 26 v = idxW v (wordsS itemW) 4 from rfl] at HS
  replace HS := Lib.hid HS
  have HA := Lib.hid (fun wx b (hx : StrsAt wx b 4 (wordsS itemW)) => cascadeWord_any v b 4 4 (wordsS itemW) wx hx (by decide))
  generalize max 0 (idxW v (wordsS itemW) 4) = mm at *
  generalize decide (0 ≤ idxW v (wordsS itemW) 4) = ok at *
  obtain ⟨wb, hwb⟩ : ∃ b, (mm == 1) = b := ⟨_, rfl⟩
  have hk : Kept w w := Kept.refl w
  go_enter Tryd.func38, Tryd.ntmps38
  go_wp2_with fail
  refine with_boxes4 ?_
  intro X hX st m d r
  have hsz := hk.size
  replace hk := hk.trans hX
  clear hX
  replace m_l := m.lt
  replace m_0 := m.at 0 _ rfl
  replace m_1 := m.at 1 _ rfl
  replace d_l := d.lt
  replace d_0 := d.at 0 _ rfl
  replace d_1 := d.at 1 _ rfl
  refine (H1.out _ (ht.kept hk)).mono ?_
  rintro e w1 ⟨rfl, hn⟩
  replace hk := hk.trans hn
  replace st := st.kept hn
  replace m := m.kept hn
  replace d := d.kept hn
  replace r := r.kept hn
  clear hn
  replace m_l := m.lt
  replace m_0 := m.at 0 _ rfl
  replace m_1 := m.at 1 _ rfl
  replace d_l := d.lt
  replace d_0 := d.at 0 _ rfl
  replace d_1 := d.at 1 _ rfl
  go_wp2_with fail
  refine (lengthOf_26 _ _).mono ?_
  rintro e w1 ⟨rfl, rfl⟩
  go_wp2_with fail
  refine with_boxes1 ?_
  intro X hX u
  have hsz := hk.size
  replace hk := hk.trans hX
  replace st := st.kept hX
  replace m := m.kept hX
  replace d := d.kept hX
  replace r := r.kept hX
  clear hX
  replace m_l := m.lt
  replace m_0 := m.at 0 _ rfl
  replace m_1 := m.at 1 _ rfl
  replace d_l := d.lt
  replace d_0 := d.at 0 _ rfl
  replace d_1 := d.at 1 _ rfl
  refine (HA.out _ _ (strs_own u itemW rfl)).mono ?_
  rintro e w1 ⟨rfl, rfl⟩
  have c0 := st.at 29 _ rfl
  have f0 := st.free 29
  have st_l := st.lt
  go_upto_region 23 with fail
  clear u
  refine code_eq ?_
  intro X eX
  have hsz := hk.size
  replace hk := (eX ▸ (by first | ((repeat (first | with_reducible exact hk | with_reducible refine Kept.alloc ?_ _ | with_reducible refine Kept.drew ?_ | with_reducible refine Kept.drewN ?_ _ | with_reducible refine Kept.set ?_ (by first | (simp; done) | (simp; omega) | omega) _)); done) | exact hk | exact (hk.alloc _) | exact ((hk.alloc _).alloc _) | exact (((hk.alloc _).alloc _).alloc _) | exact ((((hk.alloc _).alloc _).alloc _).alloc _) | exact (((((hk.alloc _).alloc _).alloc _).alloc _).alloc _) | exact ((((((hk.alloc _).alloc _).alloc _).alloc _).alloc _).alloc _) | (repeat (first | exact hk | refine Kept.alloc ?_ _ | refine Kept.drew ?_ | refine Kept.drewN ?_ _ | refine Kept.set ?_ (by first | (simp; done) | (simp; omega) | omega) _))) : Kept w X)
  replace st : Own X _ _ (setNamed s 26 mm).C := eX ▸ (((st.set 29 _)).is (by rfl))
  replace m := m.same (X := X) (by rw [eX]; repeat (first | with_reducible rfl | with_reducible refine (Below.heap_setCell _ _ _ _ (by first | omega | (simp; done) | (simp; omega))).trans ?_ | with_reducible refine (heap_drew_ _ _).trans ?_ | with_reducible refine (heap_drewN_ _ _ _).trans ?_))
  replace d := d.same (X := X) (by rw [eX]; repeat (first | with_reducible rfl | with_reducible refine (Below.heap_setCell _ _ _ _ (by first | omega | (simp; done) | (simp; omega))).trans ?_ | with_reducible refine (heap_drew_ _ _).trans ?_ | with_reducible refine (heap_drewN_ _ _ _).trans ?_))
  replace r := r.same (X := X) (by rw [eX]; repeat (first | with_reducible rfl | with_reducible refine (Below.heap_setCell _ _ _ _ (by first | omega | (simp; done) | (simp; omega))).trans ?_ | with_reducible refine (heap_drew_ _ _).trans ?_ | with_reducible refine (heap_drewN_ _ _ _).trans ?_))
  clear eX
  replace m_l := m.lt
  replace m_0 := m.at 0 _ rfl
  replace m_1 := m.at 1 _ rfl
  replace d_l := d.lt
  replace d_0 := d.at 0 _ rfl
  replace d_1 := d.at 1 _ rfl
  clear c0 f0
  go_wp2_with (first | (refine here_load 42 _ rfl ?_; refine wpList_load_own rfl 42 _ rfl _ rfl st _ Tryd.underlying42 rfl (by kernel_rfl) ?_) | (refine here_store 42 _ _ rfl ?_; refine wpList_store_own rfl 42 _ _ rfl _ _ rfl rfl r (by rfl) (by kernel_rfl) (by rfl) ?_; intro X oX hoX hkX; replace hk := hkX _ hk (by first | omega | (simp; omega)); replace r := oX; replace st := st.same (hoX _ (by first | omega | (simp; omega))); replace m := m.same (hoX _ (by first | omega | (simp; omega))); replace d := d.same (hoX _ (by first | omega | (simp; omega))); clear oX hoX hkX; replace m_l := m.lt; replace m_0 := m.at 0 _ rfl; replace m_1 := m.at 1 _ rfl; replace d_l := d.lt; replace d_0 := d.at 0 _ rfl; replace d_1 := d.at 1 _ rfl))
  exact bodyPost_ret (results_own_tmp 42 _ Tryd.results38 rfl r Tryd.underlying42 rfl (by kernel_rfl)) rfl ⟨_, ok, rfl, HS.out, hk⟩
theorem set_27 (s : Sty) (wr di q : Int) (v : ByteArray) (w : World) (hn : v.size ≤ 140737488355328) (hp : Pow w) (ht : Tab w) (hm : mapS wr di q = (27, 0)) :
    Calls Tryd.prog 38 #[s.V, modeV wr di, .agg #[.int .i64 q, .string v]] w fun e w' => ∃ t ok, e = .returned (.tuple #[Sty.V t, .bool ok]) ∧ Sets (setS di s 27 v) t ok ∧ Kept w w' := by
  have H1 := Lib.hid (fun wx (hx : Tab wx) => (show Calls Tryd.prog 55 #[modeV wr di, .int .i64 q] wx (fun e w' => e = .returned (.tuple #[.int .i64 27, .int .i64 0]) ∧ Kept wx w') from by have := propMap_any wr di q wx hx; rw [hm] at this; exact this))
  clear hm
  have HS := sets_named di s 27 v (by decide)
  rw [show namedK di 27 v = idxW v (wordsS justW) 4 from rfl] at HS
  replace HS := Lib.hid HS
  have HA := Lib.hid (fun wx b (hx : StrsAt wx b 4 (wordsS justW)) => cascadeWord_any v b 4 4 (wordsS justW) wx hx (by decide))
  generalize max 0 (idxW v (wordsS justW) 4) = mm at *
  generalize decide (0 ≤ idxW v (wordsS justW) 4) = ok at *
  obtain ⟨wb, hwb⟩ : ∃ b, (mm == 1) = b := ⟨_, rfl⟩
  have hk : Kept w w := Kept.refl w
  go_enter Tryd.func38, Tryd.ntmps38
  go_wp2_with fail
  refine with_boxes4 ?_
  intro X hX st m d r
  have hsz := hk.size
  replace hk := hk.trans hX
  clear hX
  replace m_l := m.lt
  replace m_0 := m.at 0 _ rfl
  replace m_1 := m.at 1 _ rfl
  replace d_l := d.lt
  replace d_0 := d.at 0 _ rfl
  replace d_1 := d.at 1 _ rfl
  refine (H1.out _ (ht.kept hk)).mono ?_
  rintro e w1 ⟨rfl, hn⟩
  replace hk := hk.trans hn
  replace st := st.kept hn
  replace m := m.kept hn
  replace d := d.kept hn
  replace r := r.kept hn
  clear hn
  replace m_l := m.lt
  replace m_0 := m.at 0 _ rfl
  replace m_1 := m.at 1 _ rfl
  replace d_l := d.lt
  replace d_0 := d.at 0 _ rfl
  replace d_1 := d.at 1 _ rfl
  go_wp2_with fail
  refine (lengthOf_27 _ _).mono ?_
  rintro e w1 ⟨rfl, rfl⟩
  go_wp2_with fail
  refine with_boxes1 ?_
  intro X hX u
  have hsz := hk.size
  replace hk := hk.trans hX
  replace st := st.kept hX
  replace m := m.kept hX
  replace d := d.kept hX
  replace r := r.kept hX
  clear hX
  replace m_l := m.lt
  replace m_0 := m.at 0 _ rfl
  replace m_1 := m.at 1 _ rfl
  replace d_l := d.lt
  replace d_0 := d.at 0 _ rfl
  replace d_1 := d.at 1 _ rfl
  refine (HA.out _ _ (strs_own u justW rfl)).mono ?_
  rintro e w1 ⟨rfl, rfl⟩
  have c0 := st.at 30 _ rfl
  have f0 := st.free 30
  have st_l := st.lt
  go_upto_region 23 with fail
  clear u
  refine code_eq ?_
  intro X eX
  have hsz := hk.size
  replace hk := (eX ▸ (by first | ((repeat (first | with_reducible exact hk | with_reducible refine Kept.alloc ?_ _ | with_reducible refine Kept.drew ?_ | with_reducible refine Kept.drewN ?_ _ | with_reducible refine Kept.set ?_ (by first | (simp; done) | (simp; omega) | omega) _)); done) | exact hk | exact (hk.alloc _) | exact ((hk.alloc _).alloc _) | exact (((hk.alloc _).alloc _).alloc _) | exact ((((hk.alloc _).alloc _).alloc _).alloc _) | exact (((((hk.alloc _).alloc _).alloc _).alloc _).alloc _) | exact ((((((hk.alloc _).alloc _).alloc _).alloc _).alloc _).alloc _) | (repeat (first | exact hk | refine Kept.alloc ?_ _ | refine Kept.drew ?_ | refine Kept.drewN ?_ _ | refine Kept.set ?_ (by first | (simp; done) | (simp; omega) | omega) _))) : Kept w X)
  replace st : Own X _ _ (setNamed s 27 mm).C := eX ▸ (((st.set 30 _)).is (by rfl))
  replace m := m.same (X := X) (by rw [eX]; repeat (first | with_reducible rfl | with_reducible refine (Below.heap_setCell _ _ _ _ (by first | omega | (simp; done) | (simp; omega))).trans ?_ | with_reducible refine (heap_drew_ _ _).trans ?_ | with_reducible refine (heap_drewN_ _ _ _).trans ?_))
  replace d := d.same (X := X) (by rw [eX]; repeat (first | with_reducible rfl | with_reducible refine (Below.heap_setCell _ _ _ _ (by first | omega | (simp; done) | (simp; omega))).trans ?_ | with_reducible refine (heap_drew_ _ _).trans ?_ | with_reducible refine (heap_drewN_ _ _ _).trans ?_))
  replace r := r.same (X := X) (by rw [eX]; repeat (first | with_reducible rfl | with_reducible refine (Below.heap_setCell _ _ _ _ (by first | omega | (simp; done) | (simp; omega))).trans ?_ | with_reducible refine (heap_drew_ _ _).trans ?_ | with_reducible refine (heap_drewN_ _ _ _).trans ?_))
  clear eX
  replace m_l := m.lt
  replace m_0 := m.at 0 _ rfl
  replace m_1 := m.at 1 _ rfl
  replace d_l := d.lt
  replace d_0 := d.at 0 _ rfl
  replace d_1 := d.at 1 _ rfl
  clear c0 f0
  go_wp2_with (first | (refine here_load 42 _ rfl ?_; refine wpList_load_own rfl 42 _ rfl _ rfl st _ Tryd.underlying42 rfl (by kernel_rfl) ?_) | (refine here_store 42 _ _ rfl ?_; refine wpList_store_own rfl 42 _ _ rfl _ _ rfl rfl r (by rfl) (by kernel_rfl) (by rfl) ?_; intro X oX hoX hkX; replace hk := hkX _ hk (by first | omega | (simp; omega)); replace r := oX; replace st := st.same (hoX _ (by first | omega | (simp; omega))); replace m := m.same (hoX _ (by first | omega | (simp; omega))); replace d := d.same (hoX _ (by first | omega | (simp; omega))); clear oX hoX hkX; replace m_l := m.lt; replace m_0 := m.at 0 _ rfl; replace m_1 := m.at 1 _ rfl; replace d_l := d.lt; replace d_0 := d.at 0 _ rfl; replace d_1 := d.at 1 _ rfl))
  exact bodyPost_ret (results_own_tmp 42 _ Tryd.results38 rfl r Tryd.underlying42 rfl (by kernel_rfl)) rfl ⟨_, ok, rfl, HS.out, hk⟩
theorem set_28 (s : Sty) (wr di q : Int) (v : ByteArray) (w : World) (hn : v.size ≤ 140737488355328) (hp : Pow w) (ht : Tab w) (hm : mapS wr di q = (28, 0)) :
    Calls Tryd.prog 38 #[s.V, modeV wr di, .agg #[.int .i64 q, .string v]] w fun e w' => ∃ t ok, e = .returned (.tuple #[Sty.V t, .bool ok]) ∧ Sets (setS di s 28 v) t ok ∧ Kept w w' := by
  have H1 := Lib.hid (fun wx (hx : Tab wx) => (show Calls Tryd.prog 55 #[modeV wr di, .int .i64 q] wx (fun e w' => e = .returned (.tuple #[.int .i64 28, .int .i64 0]) ∧ Kept wx w') from by have := propMap_any wr di q wx hx; rw [hm] at this; exact this))
  clear hm
  have HS := sets_named di s 28 v (by decide)
  rw [show namedK di 28 v = idxW v (wordsS wrapW) 2 from rfl] at HS
  replace HS := Lib.hid HS
  have HA := Lib.hid (fun wx b (hx : StrsAt wx b 2 (wordsS wrapW)) => cascadeWord_any v b 2 2 (wordsS wrapW) wx hx (by decide))
  generalize max 0 (idxW v (wordsS wrapW) 2) = mm at *
  generalize decide (0 ≤ idxW v (wordsS wrapW) 2) = ok at *
  obtain ⟨wb, hwb⟩ : ∃ b, (mm == 1) = b := ⟨_, rfl⟩
  have hk : Kept w w := Kept.refl w
  go_enter Tryd.func38, Tryd.ntmps38
  go_wp2_with fail
  refine with_boxes4 ?_
  intro X hX st m d r
  have hsz := hk.size
  replace hk := hk.trans hX
  clear hX
  replace m_l := m.lt
  replace m_0 := m.at 0 _ rfl
  replace m_1 := m.at 1 _ rfl
  replace d_l := d.lt
  replace d_0 := d.at 0 _ rfl
  replace d_1 := d.at 1 _ rfl
  refine (H1.out _ (ht.kept hk)).mono ?_
  rintro e w1 ⟨rfl, hn⟩
  replace hk := hk.trans hn
  replace st := st.kept hn
  replace m := m.kept hn
  replace d := d.kept hn
  replace r := r.kept hn
  clear hn
  replace m_l := m.lt
  replace m_0 := m.at 0 _ rfl
  replace m_1 := m.at 1 _ rfl
  replace d_l := d.lt
  replace d_0 := d.at 0 _ rfl
  replace d_1 := d.at 1 _ rfl
  go_wp2_with fail
  refine (lengthOf_28 _ _).mono ?_
  rintro e w1 ⟨rfl, rfl⟩
  go_wp2_with fail
  refine with_boxes1 ?_
  intro X hX u
  have hsz := hk.size
  replace hk := hk.trans hX
  replace st := st.kept hX
  replace m := m.kept hX
  replace d := d.kept hX
  replace r := r.kept hX
  clear hX
  replace m_l := m.lt
  replace m_0 := m.at 0 _ rfl
  replace m_1 := m.at 1 _ rfl
  replace d_l := d.lt
  replace d_0 := d.at 0 _ rfl
  replace d_1 := d.at 1 _ rfl
  refine (HA.out _ _ (strs_own u wrapW rfl)).mono ?_
  rintro e w1 ⟨rfl, rfl⟩
  have c0 := st.at 31 _ rfl
  have f0 := st.free 31
  have st_l := st.lt
  go_upto_region 23 with fail
  clear u
  refine code_eq ?_
  intro X eX
  have hsz := hk.size
  replace hk := (eX ▸ (by first | ((repeat (first | with_reducible exact hk | with_reducible refine Kept.alloc ?_ _ | with_reducible refine Kept.drew ?_ | with_reducible refine Kept.drewN ?_ _ | with_reducible refine Kept.set ?_ (by first | (simp; done) | (simp; omega) | omega) _)); done) | exact hk | exact (hk.alloc _) | exact ((hk.alloc _).alloc _) | exact (((hk.alloc _).alloc _).alloc _) | exact ((((hk.alloc _).alloc _).alloc _).alloc _) | exact (((((hk.alloc _).alloc _).alloc _).alloc _).alloc _) | exact ((((((hk.alloc _).alloc _).alloc _).alloc _).alloc _).alloc _) | (repeat (first | exact hk | refine Kept.alloc ?_ _ | refine Kept.drew ?_ | refine Kept.drewN ?_ _ | refine Kept.set ?_ (by first | (simp; done) | (simp; omega) | omega) _))) : Kept w X)
  replace st : Own X _ _ ({ s with wrap := wb } : Sty).C := eX ▸ (((st.set 31 _)).is (by rfl))
  replace m := m.same (X := X) (by rw [eX]; repeat (first | with_reducible rfl | with_reducible refine (Below.heap_setCell _ _ _ _ (by first | omega | (simp; done) | (simp; omega))).trans ?_ | with_reducible refine (heap_drew_ _ _).trans ?_ | with_reducible refine (heap_drewN_ _ _ _).trans ?_))
  replace d := d.same (X := X) (by rw [eX]; repeat (first | with_reducible rfl | with_reducible refine (Below.heap_setCell _ _ _ _ (by first | omega | (simp; done) | (simp; omega))).trans ?_ | with_reducible refine (heap_drew_ _ _).trans ?_ | with_reducible refine (heap_drewN_ _ _ _).trans ?_))
  replace r := r.same (X := X) (by rw [eX]; repeat (first | with_reducible rfl | with_reducible refine (Below.heap_setCell _ _ _ _ (by first | omega | (simp; done) | (simp; omega))).trans ?_ | with_reducible refine (heap_drew_ _ _).trans ?_ | with_reducible refine (heap_drewN_ _ _ _).trans ?_))
  clear eX
  replace m_l := m.lt
  replace m_0 := m.at 0 _ rfl
  replace m_1 := m.at 1 _ rfl
  replace d_l := d.lt
  replace d_0 := d.at 0 _ rfl
  replace d_1 := d.at 1 _ rfl
  clear c0 f0
  go_wp2_with (first | (refine here_load 42 _ rfl ?_; refine wpList_load_own rfl 42 _ rfl _ rfl st _ Tryd.underlying42 rfl (by kernel_rfl) ?_) | (refine here_store 42 _ _ rfl ?_; refine wpList_store_own rfl 42 _ _ rfl _ _ rfl rfl r (by rfl) (by kernel_rfl) (by rfl) ?_; intro X oX hoX hkX; replace hk := hkX _ hk (by first | omega | (simp; omega)); replace r := oX; replace st := st.same (hoX _ (by first | omega | (simp; omega))); replace m := m.same (hoX _ (by first | omega | (simp; omega))); replace d := d.same (hoX _ (by first | omega | (simp; omega))); clear oX hoX hkX; replace m_l := m.lt; replace m_0 := m.at 0 _ rfl; replace m_1 := m.at 1 _ rfl; replace d_l := d.lt; replace d_0 := d.at 0 _ rfl; replace d_1 := d.at 1 _ rfl))
  exact bodyPost_ret (results_own_tmp 42 _ Tryd.results38 rfl r Tryd.underlying42 rfl (by kernel_rfl)) rfl ⟨_, ok, rfl, by have := HS.out; rw [show setNamed s 28 mm = { s with wrap := mm == 1 } from rfl, hwb] at this; exact this, hk⟩
end Go.Proofs.YtnbagilcbngdcaaDoor
