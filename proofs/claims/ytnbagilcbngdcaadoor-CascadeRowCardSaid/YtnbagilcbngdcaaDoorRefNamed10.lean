/- Layer 10: a property that is a word, by the document. -/
import Derived.Test.YtnbagilcbngdcaaDoorSet10N
import Derived.Deep.CutRange
namespace Go.Proofs.YtnbagilcbngdcaaDoor
open Go.RowKit
set_option linter.unusedSimpArgs false
set_option linter.unusedVariables false
set_option maxHeartbeats 4000000
set_option maxRecDepth 20000
theorem sets_namedR (di : Int) (s : Sty) (p : Int) (v : ByteArray) (hp : 25 ≤ p) : Sets (setS di s p v) (setNamed s p (namedK di p v)) (decide (0 ≤ namedK di p v)) := by
  unfold setS
  rw [if_pos hp]
  by_cases h : 0 ≤ namedK di p v
  · rw [if_pos h]
    exact ⟨rfl, decide_eq_true h⟩
  · rw [if_neg h]
    exact decide_eq_false h
theorem refWord_is (v : ByteArray) (b n c : Nat) (S : Nat → ByteArray) (i : Int) (w : World) (h : StrsAt w b n S) (hn : n ≤ 1000) (hi : idxW v S n = i) :
    Calls Tryd.prog 75 #[.string v, .slice (some ⟨b, 0, none⟩) n c] w fun e w' => e = .returned (.int .i64 i) ∧ w = w' := by
  subst hi; exact refWord_any v b n c S w h hn
theorem refNamed_26 (s : Sty) (wr di : Int) (v : ByteArray) (w : World) :
    Calls Tryd.prog 63 #[modeV wr di, s.V, .int .i64 26, .string v] w fun e w' => ∃ t ok, e = .returned (.tuple #[Sty.V t, .bool ok]) ∧ Sets (setS di s 26 v) t ok ∧ Kept w w' := by
  have HS := sets_namedR di s 26 v (by decide)
  rw [show namedK di 26 v = idxW v (wordsS itemW) 4 from rfl] at HS
  have HA := Lib.hid (fun wx b (hx : StrsAt wx b 4 (wordsS itemW)) => refWord_is v b 4 4 (wordsS itemW) _ wx hx (by decide) rfl)
  replace HS := Lib.hid HS
  generalize idxW v (wordsS itemW) 4 = mm at *
  obtain ⟨ok, hok⟩ : ∃ b, decide (0 ≤ mm) = b := ⟨_, rfl⟩
  rw [hok] at HS
  obtain ⟨wb, hwb⟩ : ∃ b, (mm == 1) = b := ⟨_, rfl⟩
  have hk : Kept w w := Kept.refl w
  go_enter Tryd.func63, Tryd.ntmps63
  go_wp2_with fail
  refine with_boxes4 ?_
  intro X hX m st r u
  have hsz := hk.size
  replace hk := hk.trans hX
  clear hX
  replace m_l := m.lt
  replace m_0 := m.at 0 _ rfl
  replace m_1 := m.at 1 _ rfl
  refine (HA.out _ _ (strs_own u itemW rfl)).mono ?_
  rintro e w1 ⟨rfl, rfl⟩
  have c0 := st.at 29 _ rfl
  have f0 := st.free 29
  have st_l := st.lt
  go_upto_region 17 with fail
  clear u
  refine code_eq ?_
  intro X eX
  have hsz := hk.size
  replace hk := (eX ▸ (by first | ((repeat (first | with_reducible exact hk | with_reducible refine Kept.alloc ?_ _ | with_reducible refine Kept.drew ?_ | with_reducible refine Kept.drewN ?_ _ | with_reducible refine Kept.set ?_ (by first | (simp; done) | (simp; omega) | omega) _)); done) | exact hk | exact (hk.alloc _) | exact ((hk.alloc _).alloc _) | exact (((hk.alloc _).alloc _).alloc _) | exact ((((hk.alloc _).alloc _).alloc _).alloc _) | exact (((((hk.alloc _).alloc _).alloc _).alloc _).alloc _) | exact ((((((hk.alloc _).alloc _).alloc _).alloc _).alloc _).alloc _) | (repeat (first | exact hk | refine Kept.alloc ?_ _ | refine Kept.drew ?_ | refine Kept.drewN ?_ _ | refine Kept.set ?_ (by first | (simp; done) | (simp; omega) | omega) _))) : Kept w X)
  replace m := m.same (X := X) (by rw [eX]; repeat (first | with_reducible rfl | with_reducible refine (Below.heap_setCell _ _ _ _ (by first | omega | (simp; done) | (simp; omega))).trans ?_ | with_reducible refine (heap_drew_ _ _).trans ?_ | with_reducible refine (heap_drewN_ _ _ _).trans ?_))
  replace st : Own X _ _ ({ s with items := mm } : Sty).C := eX ▸ (((st.set 29 _)).is (by rfl))
  replace r := r.same (X := X) (by rw [eX]; repeat (first | with_reducible rfl | with_reducible refine (Below.heap_setCell _ _ _ _ (by first | omega | (simp; done) | (simp; omega))).trans ?_ | with_reducible refine (heap_drew_ _ _).trans ?_ | with_reducible refine (heap_drewN_ _ _ _).trans ?_))
  clear eX
  replace m_l := m.lt
  replace m_0 := m.at 0 _ rfl
  replace m_1 := m.at 1 _ rfl
  clear c0 f0
  go_wp2_with (first | (refine here_load 42 _ rfl ?_; refine wpList_load_own rfl 42 _ rfl _ rfl st _ Tryd.underlying42 rfl (by kernel_rfl) ?_) | (refine here_store 42 _ _ rfl ?_; refine wpList_store_own rfl 42 _ _ rfl _ _ rfl rfl r (by rfl) (by kernel_rfl) (by rfl) ?_; intro X oX hoX hkX; replace hk := hkX _ hk (by first | omega | (simp; omega)); replace r := oX; replace m := m.same (hoX _ (by first | omega | (simp; omega))); replace st := st.same (hoX _ (by first | omega | (simp; omega))); clear oX hoX hkX; replace m_l := m.lt; replace m_0 := m.at 0 _ rfl; replace m_1 := m.at 1 _ rfl))
  exact bodyPost_ret (results_own_tmp 42 _ Tryd.results63 rfl r Tryd.underlying42 rfl (by kernel_rfl)) rfl ⟨_, ok, rfl, HS.out, hk⟩
theorem refNamed_27 (s : Sty) (wr di : Int) (v : ByteArray) (w : World) :
    Calls Tryd.prog 63 #[modeV wr di, s.V, .int .i64 27, .string v] w fun e w' => ∃ t ok, e = .returned (.tuple #[Sty.V t, .bool ok]) ∧ Sets (setS di s 27 v) t ok ∧ Kept w w' := by
  have HS := sets_namedR di s 27 v (by decide)
  rw [show namedK di 27 v = idxW v (wordsS justW) 4 from rfl] at HS
  have HA := Lib.hid (fun wx b (hx : StrsAt wx b 4 (wordsS justW)) => refWord_is v b 4 4 (wordsS justW) _ wx hx (by decide) rfl)
  replace HS := Lib.hid HS
  generalize idxW v (wordsS justW) 4 = mm at *
  obtain ⟨ok, hok⟩ : ∃ b, decide (0 ≤ mm) = b := ⟨_, rfl⟩
  rw [hok] at HS
  obtain ⟨wb, hwb⟩ : ∃ b, (mm == 1) = b := ⟨_, rfl⟩
  have hk : Kept w w := Kept.refl w
  go_enter Tryd.func63, Tryd.ntmps63
  go_wp2_with fail
  refine with_boxes4 ?_
  intro X hX m st r u
  have hsz := hk.size
  replace hk := hk.trans hX
  clear hX
  replace m_l := m.lt
  replace m_0 := m.at 0 _ rfl
  replace m_1 := m.at 1 _ rfl
  refine (HA.out _ _ (strs_own u justW rfl)).mono ?_
  rintro e w1 ⟨rfl, rfl⟩
  have c0 := st.at 30 _ rfl
  have f0 := st.free 30
  have st_l := st.lt
  go_upto_region 17 with fail
  clear u
  refine code_eq ?_
  intro X eX
  have hsz := hk.size
  replace hk := (eX ▸ (by first | ((repeat (first | with_reducible exact hk | with_reducible refine Kept.alloc ?_ _ | with_reducible refine Kept.drew ?_ | with_reducible refine Kept.drewN ?_ _ | with_reducible refine Kept.set ?_ (by first | (simp; done) | (simp; omega) | omega) _)); done) | exact hk | exact (hk.alloc _) | exact ((hk.alloc _).alloc _) | exact (((hk.alloc _).alloc _).alloc _) | exact ((((hk.alloc _).alloc _).alloc _).alloc _) | exact (((((hk.alloc _).alloc _).alloc _).alloc _).alloc _) | exact ((((((hk.alloc _).alloc _).alloc _).alloc _).alloc _).alloc _) | (repeat (first | exact hk | refine Kept.alloc ?_ _ | refine Kept.drew ?_ | refine Kept.drewN ?_ _ | refine Kept.set ?_ (by first | (simp; done) | (simp; omega) | omega) _))) : Kept w X)
  replace m := m.same (X := X) (by rw [eX]; repeat (first | with_reducible rfl | with_reducible refine (Below.heap_setCell _ _ _ _ (by first | omega | (simp; done) | (simp; omega))).trans ?_ | with_reducible refine (heap_drew_ _ _).trans ?_ | with_reducible refine (heap_drewN_ _ _ _).trans ?_))
  replace st : Own X _ _ ({ s with just := mm } : Sty).C := eX ▸ (((st.set 30 _)).is (by rfl))
  replace r := r.same (X := X) (by rw [eX]; repeat (first | with_reducible rfl | with_reducible refine (Below.heap_setCell _ _ _ _ (by first | omega | (simp; done) | (simp; omega))).trans ?_ | with_reducible refine (heap_drew_ _ _).trans ?_ | with_reducible refine (heap_drewN_ _ _ _).trans ?_))
  clear eX
  replace m_l := m.lt
  replace m_0 := m.at 0 _ rfl
  replace m_1 := m.at 1 _ rfl
  clear c0 f0
  go_wp2_with (first | (refine here_load 42 _ rfl ?_; refine wpList_load_own rfl 42 _ rfl _ rfl st _ Tryd.underlying42 rfl (by kernel_rfl) ?_) | (refine here_store 42 _ _ rfl ?_; refine wpList_store_own rfl 42 _ _ rfl _ _ rfl rfl r (by rfl) (by kernel_rfl) (by rfl) ?_; intro X oX hoX hkX; replace hk := hkX _ hk (by first | omega | (simp; omega)); replace r := oX; replace m := m.same (hoX _ (by first | omega | (simp; omega))); replace st := st.same (hoX _ (by first | omega | (simp; omega))); clear oX hoX hkX; replace m_l := m.lt; replace m_0 := m.at 0 _ rfl; replace m_1 := m.at 1 _ rfl))
  exact bodyPost_ret (results_own_tmp 42 _ Tryd.results63 rfl r Tryd.underlying42 rfl (by kernel_rfl)) rfl ⟨_, ok, rfl, HS.out, hk⟩
theorem refNamed_28 (s : Sty) (wr di : Int) (v : ByteArray) (w : World) :
    Calls Tryd.prog 63 #[modeV wr di, s.V, .int .i64 28, .string v] w fun e w' => ∃ t ok, e = .returned (.tuple #[Sty.V t, .bool ok]) ∧ Sets (setS di s 28 v) t ok ∧ Kept w w' := by
  have HS := sets_namedR di s 28 v (by decide)
  rw [show namedK di 28 v = idxW v (wordsS wrapW) 2 from rfl] at HS
  have HA := Lib.hid (fun wx b (hx : StrsAt wx b 2 (wordsS wrapW)) => refWord_is v b 2 2 (wordsS wrapW) _ wx hx (by decide) rfl)
  replace HS := Lib.hid HS
  generalize idxW v (wordsS wrapW) 2 = mm at *
  obtain ⟨ok, hok⟩ : ∃ b, decide (0 ≤ mm) = b := ⟨_, rfl⟩
  rw [hok] at HS
  obtain ⟨wb, hwb⟩ : ∃ b, (mm == 1) = b := ⟨_, rfl⟩
  have hk : Kept w w := Kept.refl w
  go_enter Tryd.func63, Tryd.ntmps63
  go_wp2_with fail
  refine with_boxes4 ?_
  intro X hX m st r u
  have hsz := hk.size
  replace hk := hk.trans hX
  clear hX
  replace m_l := m.lt
  replace m_0 := m.at 0 _ rfl
  replace m_1 := m.at 1 _ rfl
  refine (HA.out _ _ (strs_own u wrapW rfl)).mono ?_
  rintro e w1 ⟨rfl, rfl⟩
  have c0 := st.at 31 _ rfl
  have f0 := st.free 31
  have st_l := st.lt
  go_upto_region 17 with fail
  clear u
  refine code_eq ?_
  intro X eX
  have hsz := hk.size
  replace hk := (eX ▸ (by first | ((repeat (first | with_reducible exact hk | with_reducible refine Kept.alloc ?_ _ | with_reducible refine Kept.drew ?_ | with_reducible refine Kept.drewN ?_ _ | with_reducible refine Kept.set ?_ (by first | (simp; done) | (simp; omega) | omega) _)); done) | exact hk | exact (hk.alloc _) | exact ((hk.alloc _).alloc _) | exact (((hk.alloc _).alloc _).alloc _) | exact ((((hk.alloc _).alloc _).alloc _).alloc _) | exact (((((hk.alloc _).alloc _).alloc _).alloc _).alloc _) | exact ((((((hk.alloc _).alloc _).alloc _).alloc _).alloc _).alloc _) | (repeat (first | exact hk | refine Kept.alloc ?_ _ | refine Kept.drew ?_ | refine Kept.drewN ?_ _ | refine Kept.set ?_ (by first | (simp; done) | (simp; omega) | omega) _))) : Kept w X)
  replace m := m.same (X := X) (by rw [eX]; repeat (first | with_reducible rfl | with_reducible refine (Below.heap_setCell _ _ _ _ (by first | omega | (simp; done) | (simp; omega))).trans ?_ | with_reducible refine (heap_drew_ _ _).trans ?_ | with_reducible refine (heap_drewN_ _ _ _).trans ?_))
  replace st : Own X _ _ ({ s with wrap := wb } : Sty).C := eX ▸ (((st.set 31 _)).is (by rfl))
  replace r := r.same (X := X) (by rw [eX]; repeat (first | with_reducible rfl | with_reducible refine (Below.heap_setCell _ _ _ _ (by first | omega | (simp; done) | (simp; omega))).trans ?_ | with_reducible refine (heap_drew_ _ _).trans ?_ | with_reducible refine (heap_drewN_ _ _ _).trans ?_))
  clear eX
  replace m_l := m.lt
  replace m_0 := m.at 0 _ rfl
  replace m_1 := m.at 1 _ rfl
  clear c0 f0
  go_wp2_with (first | (refine here_load 42 _ rfl ?_; refine wpList_load_own rfl 42 _ rfl _ rfl st _ Tryd.underlying42 rfl (by kernel_rfl) ?_) | (refine here_store 42 _ _ rfl ?_; refine wpList_store_own rfl 42 _ _ rfl _ _ rfl rfl r (by rfl) (by kernel_rfl) (by rfl) ?_; intro X oX hoX hkX; replace hk := hkX _ hk (by first | omega | (simp; omega)); replace r := oX; replace m := m.same (hoX _ (by first | omega | (simp; omega))); replace st := st.same (hoX _ (by first | omega | (simp; omega))); clear oX hoX hkX; replace m_l := m.lt; replace m_0 := m.at 0 _ rfl; replace m_1 := m.at 1 _ rfl))
  exact bodyPost_ret (results_own_tmp 42 _ Tryd.results63 rfl r Tryd.underlying42 rfl (by kernel_rfl)) rfl ⟨_, ok, rfl, by have := HS.out; rw [show setNamed s 28 mm = { s with wrap := mm == 1 } from rfl, hwb] at this; exact this, hk⟩
theorem refNamed_25a (s : Sty) (wr di : Int) (v : ByteArray) (w : World) (mm : Int) (ok : Bool) (hi : idxW v (wordsS textR) 6 = mm) (h3 : ¬ 3 < mm) (hok : decide (0 ≤ mm) = ok) (HS : Hid (Sets (setS di s 25 v) ({ s with align := mm } : Sty) ok)) :
    Calls Tryd.prog 63 #[modeV wr di, s.V, .int .i64 25, .string v] w fun e w' => ∃ t ok, e = .returned (.tuple #[Sty.V t, .bool ok]) ∧ Sets (setS di s 25 v) t ok ∧ Kept w w' := by
  have HA := Lib.hid (fun wx b (hx : StrsAt wx b 6 (wordsS textR)) => refWord_is v b 6 6 (wordsS textR) _ wx hx (by decide) hi)
  clear hi
  have hk : Kept w w := Kept.refl w
  go_enter Tryd.func63, Tryd.ntmps63
  go_wp2_with fail
  refine with_boxes4 ?_
  intro X hX m st r u
  have hsz := hk.size
  replace hk := hk.trans hX
  clear hX
  replace m_l := m.lt
  replace m_0 := m.at 0 _ rfl
  replace m_1 := m.at 1 _ rfl
  refine (HA.out _ _ (strs_own u textR rfl)).mono ?_
  rintro e w1 ⟨rfl, rfl⟩
  have c0 := st.at 28 _ rfl
  have f0 := st.free 28
  have st_l := st.lt
  go_upto_region 17 with fail
  clear u
  refine code_eq ?_
  intro X eX
  have hsz := hk.size
  replace hk := (eX ▸ (by first | ((repeat (first | with_reducible exact hk | with_reducible refine Kept.alloc ?_ _ | with_reducible refine Kept.drew ?_ | with_reducible refine Kept.drewN ?_ _ | with_reducible refine Kept.set ?_ (by first | (simp; done) | (simp; omega) | omega) _)); done) | exact hk | exact (hk.alloc _) | exact ((hk.alloc _).alloc _) | exact (((hk.alloc _).alloc _).alloc _) | exact ((((hk.alloc _).alloc _).alloc _).alloc _) | exact (((((hk.alloc _).alloc _).alloc _).alloc _).alloc _) | exact ((((((hk.alloc _).alloc _).alloc _).alloc _).alloc _).alloc _) | (repeat (first | exact hk | refine Kept.alloc ?_ _ | refine Kept.drew ?_ | refine Kept.drewN ?_ _ | refine Kept.set ?_ (by first | (simp; done) | (simp; omega) | omega) _))) : Kept w X)
  replace m := m.same (X := X) (by rw [eX]; repeat (first | with_reducible rfl | with_reducible refine (Below.heap_setCell _ _ _ _ (by first | omega | (simp; done) | (simp; omega))).trans ?_ | with_reducible refine (heap_drew_ _ _).trans ?_ | with_reducible refine (heap_drewN_ _ _ _).trans ?_))
  replace st : Own X _ _ ({ s with align := mm } : Sty).C := eX ▸ (((st.set 28 _)).is (by rfl))
  replace r := r.same (X := X) (by rw [eX]; repeat (first | with_reducible rfl | with_reducible refine (Below.heap_setCell _ _ _ _ (by first | omega | (simp; done) | (simp; omega))).trans ?_ | with_reducible refine (heap_drew_ _ _).trans ?_ | with_reducible refine (heap_drewN_ _ _ _).trans ?_))
  clear eX
  replace m_l := m.lt
  replace m_0 := m.at 0 _ rfl
  replace m_1 := m.at 1 _ rfl
  clear c0 f0
  go_wp2_with (first | (refine here_load 42 _ rfl ?_; refine wpList_load_own rfl 42 _ rfl _ rfl st _ Tryd.underlying42 rfl (by kernel_rfl) ?_) | (refine here_store 42 _ _ rfl ?_; refine wpList_store_own rfl 42 _ _ rfl _ _ rfl rfl r (by rfl) (by kernel_rfl) (by rfl) ?_; intro X oX hoX hkX; replace hk := hkX _ hk (by first | omega | (simp; omega)); replace r := oX; replace m := m.same (hoX _ (by first | omega | (simp; omega))); replace st := st.same (hoX _ (by first | omega | (simp; omega))); clear oX hoX hkX; replace m_l := m.lt; replace m_0 := m.at 0 _ rfl; replace m_1 := m.at 1 _ rfl))
  exact bodyPost_ret (results_own_tmp 42 _ Tryd.results63 rfl r Tryd.underlying42 rfl (by kernel_rfl)) rfl ⟨_, ok, rfl, HS.out, hk⟩
theorem refNamed_25_40 (s : Sty) (wr : Int) (v : ByteArray) (w : World) (hi : idxW v (wordsS textR) 6 = 4) (HS : Hid (Sets (setS 0 s 25 v) ({ s with align := 0 } : Sty) true)) :
    Calls Tryd.prog 63 #[modeV wr 0, s.V, .int .i64 25, .string v] w fun e w' => ∃ t ok, e = .returned (.tuple #[Sty.V t, .bool ok]) ∧ Sets (setS 0 s 25 v) t ok ∧ Kept w w' := by
  have HA := Lib.hid (fun wx b (hx : StrsAt wx b 6 (wordsS textR)) => refWord_is v b 6 6 (wordsS textR) _ wx hx (by decide) hi)
  clear hi
  have hk : Kept w w := Kept.refl w
  go_enter Tryd.func63, Tryd.ntmps63
  go_wp2_with fail
  refine with_boxes4 ?_
  intro X hX m st r u
  have hsz := hk.size
  replace hk := hk.trans hX
  clear hX
  replace m_l := m.lt
  replace m_0 := m.at 0 _ rfl
  replace m_1 := m.at 1 _ rfl
  refine (HA.out _ _ (strs_own u textR rfl)).mono ?_
  rintro e w1 ⟨rfl, rfl⟩
  have c0 := st.at 28 _ rfl
  have f0 := st.free 28
  have st_l := st.lt
  go_upto_region 17 with fail
  clear u
  refine code_eq ?_
  intro X eX
  have hsz := hk.size
  replace hk := (eX ▸ (by first | ((repeat (first | with_reducible exact hk | with_reducible refine Kept.alloc ?_ _ | with_reducible refine Kept.drew ?_ | with_reducible refine Kept.drewN ?_ _ | with_reducible refine Kept.set ?_ (by first | (simp; done) | (simp; omega) | omega) _)); done) | exact hk | exact (hk.alloc _) | exact ((hk.alloc _).alloc _) | exact (((hk.alloc _).alloc _).alloc _) | exact ((((hk.alloc _).alloc _).alloc _).alloc _) | exact (((((hk.alloc _).alloc _).alloc _).alloc _).alloc _) | exact ((((((hk.alloc _).alloc _).alloc _).alloc _).alloc _).alloc _) | (repeat (first | exact hk | refine Kept.alloc ?_ _ | refine Kept.drew ?_ | refine Kept.drewN ?_ _ | refine Kept.set ?_ (by first | (simp; done) | (simp; omega) | omega) _))) : Kept w X)
  replace m := m.same (X := X) (by rw [eX]; repeat (first | with_reducible rfl | with_reducible refine (Below.heap_setCell _ _ _ _ (by first | omega | (simp; done) | (simp; omega))).trans ?_ | with_reducible refine (heap_drew_ _ _).trans ?_ | with_reducible refine (heap_drewN_ _ _ _).trans ?_))
  replace st : Own X _ _ ({ s with align := 0 } : Sty).C := eX ▸ (((st.set 28 _)).is (by rfl))
  replace r := r.same (X := X) (by rw [eX]; repeat (first | with_reducible rfl | with_reducible refine (Below.heap_setCell _ _ _ _ (by first | omega | (simp; done) | (simp; omega))).trans ?_ | with_reducible refine (heap_drew_ _ _).trans ?_ | with_reducible refine (heap_drewN_ _ _ _).trans ?_))
  clear eX
  replace m_l := m.lt
  replace m_0 := m.at 0 _ rfl
  replace m_1 := m.at 1 _ rfl
  clear c0 f0
  go_wp2_with (first | (refine here_load 42 _ rfl ?_; refine wpList_load_own rfl 42 _ rfl _ rfl st _ Tryd.underlying42 rfl (by kernel_rfl) ?_) | (refine here_store 42 _ _ rfl ?_; refine wpList_store_own rfl 42 _ _ rfl _ _ rfl rfl r (by rfl) (by kernel_rfl) (by rfl) ?_; intro X oX hoX hkX; replace hk := hkX _ hk (by first | omega | (simp; omega)); replace r := oX; replace m := m.same (hoX _ (by first | omega | (simp; omega))); replace st := st.same (hoX _ (by first | omega | (simp; omega))); clear oX hoX hkX; replace m_l := m.lt; replace m_0 := m.at 0 _ rfl; replace m_1 := m.at 1 _ rfl))
  exact bodyPost_ret (results_own_tmp 42 _ Tryd.results63 rfl r Tryd.underlying42 rfl (by kernel_rfl)) rfl ⟨_, true, rfl, HS.out, hk⟩
theorem refNamed_25_41 (s : Sty) (wr : Int) (v : ByteArray) (w : World) (hi : idxW v (wordsS textR) 6 = 4) (HS : Hid (Sets (setS 1 s 25 v) ({ s with align := 1 } : Sty) true)) :
    Calls Tryd.prog 63 #[modeV wr 1, s.V, .int .i64 25, .string v] w fun e w' => ∃ t ok, e = .returned (.tuple #[Sty.V t, .bool ok]) ∧ Sets (setS 1 s 25 v) t ok ∧ Kept w w' := by
  have HA := Lib.hid (fun wx b (hx : StrsAt wx b 6 (wordsS textR)) => refWord_is v b 6 6 (wordsS textR) _ wx hx (by decide) hi)
  clear hi
  have hk : Kept w w := Kept.refl w
  go_enter Tryd.func63, Tryd.ntmps63
  go_wp2_with fail
  refine with_boxes4 ?_
  intro X hX m st r u
  have hsz := hk.size
  replace hk := hk.trans hX
  clear hX
  replace m_l := m.lt
  replace m_0 := m.at 0 _ rfl
  replace m_1 := m.at 1 _ rfl
  refine (HA.out _ _ (strs_own u textR rfl)).mono ?_
  rintro e w1 ⟨rfl, rfl⟩
  have c0 := st.at 28 _ rfl
  have f0 := st.free 28
  have st_l := st.lt
  go_upto_region 17 with fail
  clear u
  refine code_eq ?_
  intro X eX
  have hsz := hk.size
  replace hk := (eX ▸ (by first | ((repeat (first | with_reducible exact hk | with_reducible refine Kept.alloc ?_ _ | with_reducible refine Kept.drew ?_ | with_reducible refine Kept.drewN ?_ _ | with_reducible refine Kept.set ?_ (by first | (simp; done) | (simp; omega) | omega) _)); done) | exact hk | exact (hk.alloc _) | exact ((hk.alloc _).alloc _) | exact (((hk.alloc _).alloc _).alloc _) | exact ((((hk.alloc _).alloc _).alloc _).alloc _) | exact (((((hk.alloc _).alloc _).alloc _).alloc _).alloc _) | exact ((((((hk.alloc _).alloc _).alloc _).alloc _).alloc _).alloc _) | (repeat (first | exact hk | refine Kept.alloc ?_ _ | refine Kept.drew ?_ | refine Kept.drewN ?_ _ | refine Kept.set ?_ (by first | (simp; done) | (simp; omega) | omega) _))) : Kept w X)
  replace m := m.same (X := X) (by rw [eX]; repeat (first | with_reducible rfl | with_reducible refine (Below.heap_setCell _ _ _ _ (by first | omega | (simp; done) | (simp; omega))).trans ?_ | with_reducible refine (heap_drew_ _ _).trans ?_ | with_reducible refine (heap_drewN_ _ _ _).trans ?_))
  replace st : Own X _ _ ({ s with align := 1 } : Sty).C := eX ▸ (((st.set 28 _)).is (by rfl))
  replace r := r.same (X := X) (by rw [eX]; repeat (first | with_reducible rfl | with_reducible refine (Below.heap_setCell _ _ _ _ (by first | omega | (simp; done) | (simp; omega))).trans ?_ | with_reducible refine (heap_drew_ _ _).trans ?_ | with_reducible refine (heap_drewN_ _ _ _).trans ?_))
  clear eX
  replace m_l := m.lt
  replace m_0 := m.at 0 _ rfl
  replace m_1 := m.at 1 _ rfl
  clear c0 f0
  go_wp2_with (first | (refine here_load 42 _ rfl ?_; refine wpList_load_own rfl 42 _ rfl _ rfl st _ Tryd.underlying42 rfl (by kernel_rfl) ?_) | (refine here_store 42 _ _ rfl ?_; refine wpList_store_own rfl 42 _ _ rfl _ _ rfl rfl r (by rfl) (by kernel_rfl) (by rfl) ?_; intro X oX hoX hkX; replace hk := hkX _ hk (by first | omega | (simp; omega)); replace r := oX; replace m := m.same (hoX _ (by first | omega | (simp; omega))); replace st := st.same (hoX _ (by first | omega | (simp; omega))); clear oX hoX hkX; replace m_l := m.lt; replace m_0 := m.at 0 _ rfl; replace m_1 := m.at 1 _ rfl))
  exact bodyPost_ret (results_own_tmp 42 _ Tryd.results63 rfl r Tryd.underlying42 rfl (by kernel_rfl)) rfl ⟨_, true, rfl, HS.out, hk⟩
theorem refNamed_25_50 (s : Sty) (wr : Int) (v : ByteArray) (w : World) (hi : idxW v (wordsS textR) 6 = 5) (HS : Hid (Sets (setS 0 s 25 v) ({ s with align := 1 } : Sty) true)) :
    Calls Tryd.prog 63 #[modeV wr 0, s.V, .int .i64 25, .string v] w fun e w' => ∃ t ok, e = .returned (.tuple #[Sty.V t, .bool ok]) ∧ Sets (setS 0 s 25 v) t ok ∧ Kept w w' := by
  have HA := Lib.hid (fun wx b (hx : StrsAt wx b 6 (wordsS textR)) => refWord_is v b 6 6 (wordsS textR) _ wx hx (by decide) hi)
  clear hi
  have hk : Kept w w := Kept.refl w
  go_enter Tryd.func63, Tryd.ntmps63
  go_wp2_with fail
  refine with_boxes4 ?_
  intro X hX m st r u
  have hsz := hk.size
  replace hk := hk.trans hX
  clear hX
  replace m_l := m.lt
  replace m_0 := m.at 0 _ rfl
  replace m_1 := m.at 1 _ rfl
  refine (HA.out _ _ (strs_own u textR rfl)).mono ?_
  rintro e w1 ⟨rfl, rfl⟩
  have c0 := st.at 28 _ rfl
  have f0 := st.free 28
  have st_l := st.lt
  go_upto_region 17 with fail
  clear u
  refine code_eq ?_
  intro X eX
  have hsz := hk.size
  replace hk := (eX ▸ (by first | ((repeat (first | with_reducible exact hk | with_reducible refine Kept.alloc ?_ _ | with_reducible refine Kept.drew ?_ | with_reducible refine Kept.drewN ?_ _ | with_reducible refine Kept.set ?_ (by first | (simp; done) | (simp; omega) | omega) _)); done) | exact hk | exact (hk.alloc _) | exact ((hk.alloc _).alloc _) | exact (((hk.alloc _).alloc _).alloc _) | exact ((((hk.alloc _).alloc _).alloc _).alloc _) | exact (((((hk.alloc _).alloc _).alloc _).alloc _).alloc _) | exact ((((((hk.alloc _).alloc _).alloc _).alloc _).alloc _).alloc _) | (repeat (first | exact hk | refine Kept.alloc ?_ _ | refine Kept.drew ?_ | refine Kept.drewN ?_ _ | refine Kept.set ?_ (by first | (simp; done) | (simp; omega) | omega) _))) : Kept w X)
  replace m := m.same (X := X) (by rw [eX]; repeat (first | with_reducible rfl | with_reducible refine (Below.heap_setCell _ _ _ _ (by first | omega | (simp; done) | (simp; omega))).trans ?_ | with_reducible refine (heap_drew_ _ _).trans ?_ | with_reducible refine (heap_drewN_ _ _ _).trans ?_))
  replace st : Own X _ _ ({ s with align := 1 } : Sty).C := eX ▸ (((st.set 28 _)).is (by rfl))
  replace r := r.same (X := X) (by rw [eX]; repeat (first | with_reducible rfl | with_reducible refine (Below.heap_setCell _ _ _ _ (by first | omega | (simp; done) | (simp; omega))).trans ?_ | with_reducible refine (heap_drew_ _ _).trans ?_ | with_reducible refine (heap_drewN_ _ _ _).trans ?_))
  clear eX
  replace m_l := m.lt
  replace m_0 := m.at 0 _ rfl
  replace m_1 := m.at 1 _ rfl
  clear c0 f0
  go_wp2_with (first | (refine here_load 42 _ rfl ?_; refine wpList_load_own rfl 42 _ rfl _ rfl st _ Tryd.underlying42 rfl (by kernel_rfl) ?_) | (refine here_store 42 _ _ rfl ?_; refine wpList_store_own rfl 42 _ _ rfl _ _ rfl rfl r (by rfl) (by kernel_rfl) (by rfl) ?_; intro X oX hoX hkX; replace hk := hkX _ hk (by first | omega | (simp; omega)); replace r := oX; replace m := m.same (hoX _ (by first | omega | (simp; omega))); replace st := st.same (hoX _ (by first | omega | (simp; omega))); clear oX hoX hkX; replace m_l := m.lt; replace m_0 := m.at 0 _ rfl; replace m_1 := m.at 1 _ rfl))
  exact bodyPost_ret (results_own_tmp 42 _ Tryd.results63 rfl r Tryd.underlying42 rfl (by kernel_rfl)) rfl ⟨_, true, rfl, HS.out, hk⟩
theorem refNamed_25_51 (s : Sty) (wr : Int) (v : ByteArray) (w : World) (hi : idxW v (wordsS textR) 6 = 5) (HS : Hid (Sets (setS 1 s 25 v) ({ s with align := 0 } : Sty) true)) :
    Calls Tryd.prog 63 #[modeV wr 1, s.V, .int .i64 25, .string v] w fun e w' => ∃ t ok, e = .returned (.tuple #[Sty.V t, .bool ok]) ∧ Sets (setS 1 s 25 v) t ok ∧ Kept w w' := by
  have HA := Lib.hid (fun wx b (hx : StrsAt wx b 6 (wordsS textR)) => refWord_is v b 6 6 (wordsS textR) _ wx hx (by decide) hi)
  clear hi
  have hk : Kept w w := Kept.refl w
  go_enter Tryd.func63, Tryd.ntmps63
  go_wp2_with fail
  refine with_boxes4 ?_
  intro X hX m st r u
  have hsz := hk.size
  replace hk := hk.trans hX
  clear hX
  replace m_l := m.lt
  replace m_0 := m.at 0 _ rfl
  replace m_1 := m.at 1 _ rfl
  refine (HA.out _ _ (strs_own u textR rfl)).mono ?_
  rintro e w1 ⟨rfl, rfl⟩
  have c0 := st.at 28 _ rfl
  have f0 := st.free 28
  have st_l := st.lt
  go_upto_region 17 with fail
  clear u
  refine code_eq ?_
  intro X eX
  have hsz := hk.size
  replace hk := (eX ▸ (by first | ((repeat (first | with_reducible exact hk | with_reducible refine Kept.alloc ?_ _ | with_reducible refine Kept.drew ?_ | with_reducible refine Kept.drewN ?_ _ | with_reducible refine Kept.set ?_ (by first | (simp; done) | (simp; omega) | omega) _)); done) | exact hk | exact (hk.alloc _) | exact ((hk.alloc _).alloc _) | exact (((hk.alloc _).alloc _).alloc _) | exact ((((hk.alloc _).alloc _).alloc _).alloc _) | exact (((((hk.alloc _).alloc _).alloc _).alloc _).alloc _) | exact ((((((hk.alloc _).alloc _).alloc _).alloc _).alloc _).alloc _) | (repeat (first | exact hk | refine Kept.alloc ?_ _ | refine Kept.drew ?_ | refine Kept.drewN ?_ _ | refine Kept.set ?_ (by first | (simp; done) | (simp; omega) | omega) _))) : Kept w X)
  replace m := m.same (X := X) (by rw [eX]; repeat (first | with_reducible rfl | with_reducible refine (Below.heap_setCell _ _ _ _ (by first | omega | (simp; done) | (simp; omega))).trans ?_ | with_reducible refine (heap_drew_ _ _).trans ?_ | with_reducible refine (heap_drewN_ _ _ _).trans ?_))
  replace st : Own X _ _ ({ s with align := 0 } : Sty).C := eX ▸ (((st.set 28 _)).is (by rfl))
  replace r := r.same (X := X) (by rw [eX]; repeat (first | with_reducible rfl | with_reducible refine (Below.heap_setCell _ _ _ _ (by first | omega | (simp; done) | (simp; omega))).trans ?_ | with_reducible refine (heap_drew_ _ _).trans ?_ | with_reducible refine (heap_drewN_ _ _ _).trans ?_))
  clear eX
  replace m_l := m.lt
  replace m_0 := m.at 0 _ rfl
  replace m_1 := m.at 1 _ rfl
  clear c0 f0
  go_wp2_with (first | (refine here_load 42 _ rfl ?_; refine wpList_load_own rfl 42 _ rfl _ rfl st _ Tryd.underlying42 rfl (by kernel_rfl) ?_) | (refine here_store 42 _ _ rfl ?_; refine wpList_store_own rfl 42 _ _ rfl _ _ rfl rfl r (by rfl) (by kernel_rfl) (by rfl) ?_; intro X oX hoX hkX; replace hk := hkX _ hk (by first | omega | (simp; omega)); replace r := oX; replace m := m.same (hoX _ (by first | omega | (simp; omega))); replace st := st.same (hoX _ (by first | omega | (simp; omega))); clear oX hoX hkX; replace m_l := m.lt; replace m_0 := m.at 0 _ rfl; replace m_1 := m.at 1 _ rfl))
  exact bodyPost_ret (results_own_tmp 42 _ Tryd.results63 rfl r Tryd.underlying42 rfl (by kernel_rfl)) rfl ⟨_, true, rfl, HS.out, hk⟩
theorem refNamed_25 (s : Sty) (wr di : Int) (v : ByteArray) (w : World) (hd : di = 0 ∨ di = 1) :
    Calls Tryd.prog 63 #[modeV wr di, s.V, .int .i64 25, .string v] w fun e w' => ∃ t ok, e = .returned (.tuple #[Sty.V t, .bool ok]) ∧ Sets (setS di s 25 v) t ok ∧ Kept w w' := by
  have HS := sets_namedR di s 25 v (by decide)
  rw [show namedK di 25 v = alignS di v from rfl, align_ref di v hd] at HS
  have hb := idxW_bd v (wordsS textR) 6
  have h5 : idxW v (wordsS textR) 6 ≤ 5 := by
    rcases idxF_bd v (wordsS textR) 6 0 with h | h
    · unfold idxW; omega
    · unfold idxW; omega
  by_cases h3 : 3 < idxW v (wordsS textR) 6
  · rcases (by omega : idxW v (wordsS textR) 6 = 4 ∨ idxW v (wordsS textR) 6 = 5) with h | h
    · rw [if_pos h3, if_pos h] at HS
      rcases hd with rfl | rfl
      · exact refNamed_25_40 s wr v w h HS
      · exact refNamed_25_41 s wr v w h HS
    · rw [if_pos h3, if_neg (by omega)] at HS
      rcases hd with rfl | rfl
      · exact refNamed_25_50 s wr v w h HS
      · exact refNamed_25_51 s wr v w h HS
  · rw [if_neg h3] at HS
    exact refNamed_25a s wr di v w _ _ rfl h3 rfl HS
end Go.Proofs.YtnbagilcbngdcaaDoor
