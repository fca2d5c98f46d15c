/- Layer 10: one declaration more, by the document. -/
import Derived.Test.YtnbagilcbngdcaaDoorSet10N
import Derived.Test.YtnbagilcbngdcaaDoorRefNamed10
import Derived.Test.YtnbagilcbngdcaaDoorRefParse3
import Derived.Deep.CutRange
import Derived.Test.YtnbagilcbngdcaaDoorHeld
namespace Go.Proofs.YtnbagilcbngdcaaDoor
open Go.RowKit
set_option linter.unusedSimpArgs false
set_option linter.unusedVariables false
set_option maxHeartbeats 4000000
set_option maxRecDepth 20000
theorem refParse10_is (s : ByteArray) (k v e0 : Int) (w : World) (hn : s.size ≤ 140737488355328) (h : parseS s = ((k, v), e0)) :
    Calls Tryd.prog 64 #[.string s] w fun e w' => e = .returned (.tuple #[lenV k v, .int .i64 e0]) ∧ Kept w w' := by
  have := refParse_any s w hn
  rwa [h] at this
/-- in a drawn region: a struct is stored whole into a block of the call's own -/
theorem wp_put_own {P : Program} {op : Oper} {a : Act} {W : World} {K : Act → World → Prop} {Q : Exit → Act → World → Prop} {Z c : Prop} [Decidable c] (hc : c) (ty : TypeId) (x y : Operand) (ho : op.op = .store ty x y)
    (b : Nat) (ds : Array Value) (hx : a.eval x = .pointer (some ⟨b, 0, none⟩)) (hy : a.eval y = .agg ds) {t : TypeId} {cs : Array Value} (h : Own W b t cs)
    (hs : ds.size = cs.size) (hi : (P.info? ty).map (·.size) = some ds.size) (h1 : ds.toList.all (fun v => v.oneCell') = true)
    (k : ∀ X, Own X b t ds → (∀ i, i ≠ b → X.heap[i]? = W.heap[i]?) → (∀ A, Kept A W → A.heap.size ≤ b → Kept A X) → K (a.put op.dst undef) X) : if c then op.wp P a W K Q else Z := by
  rw [if_pos hc]
  refine Go.wp_store_mid ty x y ho b 0 ds hx hy (fun j hj => ?_) hi (Array.all_eq_true_iff_forall_mem.2 fun v hv => List.all_eq_true.1 h1 v (by simpa using hv)) ?_
  · rw [Nat.zero_add]
    exact ⟨by rw [h.cell]; simp; omega, h.free j⟩
  · refine k _ ?_ (fun i hne => heap_setCells_ _ _ _ i hne) (fun A hA hb => Kept.setCells _ hb 0 hA)
    have := Own.setCells ds.toList 0 h
    rwa [laidOn_all hs] at this
theorem list_eq {P : Program} {ops : Array Oper} {rest : List Oper} {Q : Exit → Act → World → Prop} {a : Act} {w : World} (h : ∀ X, X = w → wpList P ops Q rest a X) : wpList P ops Q rest a w := h _ rfl
theorem refSet_23 (s : Sty) (wr di : Int) (v : ByteArray) (w : World) (hn : v.size ≤ 140737488355328) :
    Calls Tryd.prog 41 #[modeV wr di, s.V, .int .i64 23, .string v] w fun e w' => ∃ t ok, e = .returned (.tuple #[Sty.V t, .bool ok]) ∧ Sets (setS di s 23 v) t ok ∧ Kept w w' := by
  obtain ⟨⟨⟨k, x⟩, E⟩, h⟩ : ∃ r, parseS v = r := ⟨_, rfl⟩
  have H2 := Lib.hid (fun wx => refParse10_is v k x E wx hn h)
  have hE : E = 0 ∨ E = 800 := by have := parse_err v; rw [h] at this; exact this
  rcases hE with rfl | rfl
  · obtain ⟨ok, hok⟩ : ∃ b, (k == 1) = b := ⟨_, rfl⟩
    have HS := Lib.hid (show Sets (setS di s 23 v) (setNum s 23 x) ok from by
      unfold setS
      rw [if_neg (by decide), h, if_pos rfl, if_pos (by decide)]
      dsimp only
      by_cases hk1 : k = 1
      · subst hk1; exact ⟨rfl, hok.symm⟩
      · rw [if_neg hk1]
        have : (k == 1) = false := by simpa using hk1
        rw [this] at hok
        exact hok.symm)
    clear h
    have hk : Kept w w := Kept.refl w
    go_enter Tryd.func41, Tryd.ntmps41
    go_wp2_with fail
    refine with_boxes3 ?_
    intro X hX m st r
    have hsz := hk.size
    replace hk := hk.trans hX
    clear hX
    replace m_l := m.lt
    replace m_0 := m.at 0 _ rfl
    replace m_1 := m.at 1 _ rfl
    refine (H2.out _).mono ?_
    rintro e w1 ⟨rfl, hn⟩
    replace hk := hk.trans hn
    replace m := m.kept hn
    replace st := st.kept hn
    replace r := r.kept hn
    clear hn
    replace m_l := m.lt
    replace m_0 := m.at 0 _ rfl
    replace m_1 := m.at 1 _ rfl
    obtain ⟨Y, hY⟩ : ∃ z, w1.heap.size = z := ⟨_, rfl⟩
    have hYw : w.heap.size + 2 < Y := by have := r.lt; omega
    go_upto_region 18 with fail
    refine code_boxes1 ?_
    intro X hX y
    have hsz := hk.size
    replace hk := hk.trans hX
    replace m := m.kept hX
    replace st := st.kept hX
    replace r := r.kept hX
    clear hX
    replace m_l := m.lt
    replace m_0 := m.at 0 _ rfl
    replace m_1 := m.at 1 _ rfl
    replace y_l := y.lt
    replace y_0 := y.at 0 _ rfl
    replace y_1 := y.at 1 _ rfl
    rw [hY] at y y_0 y_1
    clear hY
    have c0 := st.at 26 _ rfl
    have f0 := st.free 26
    have st_l := st.lt
    go_upto_region 19 with fail
    refine code_eq ?_
    intro X eX
    have hsz := hk.size
    replace hk := (eX ▸ (by first | ((repeat (first | with_reducible exact hk | with_reducible refine Kept.alloc ?_ _ | with_reducible refine Kept.drew ?_ | with_reducible refine Kept.drewN ?_ _ | with_reducible refine Kept.set ?_ (by first | (simp; done) | (simp; omega) | omega) _)); done) | exact hk | exact (hk.alloc _) | exact ((hk.alloc _).alloc _) | exact (((hk.alloc _).alloc _).alloc _) | exact ((((hk.alloc _).alloc _).alloc _).alloc _) | exact (((((hk.alloc _).alloc _).alloc _).alloc _).alloc _) | exact ((((((hk.alloc _).alloc _).alloc _).alloc _).alloc _).alloc _) | (repeat (first | exact hk | refine Kept.alloc ?_ _ | refine Kept.drew ?_ | refine Kept.drewN ?_ _ | refine Kept.set ?_ (by first | (simp; done) | (simp; omega) | omega) _))) : Kept w X)
    replace m := m.same (X := X) (by rw [eX]; repeat (first | with_reducible rfl | with_reducible refine (Below.heap_setCell _ _ _ _ (by first | omega | (simp; done) | (simp; omega))).trans ?_ | with_reducible refine (heap_drew_ _ _).trans ?_ | with_reducible refine (heap_drewN_ _ _ _).trans ?_))
    replace st : Own X _ _ (setNum s 23 x).C := eX ▸ (((st.set 26 _)).is (by rfl))
    replace r := r.same (X := X) (by rw [eX]; repeat (first | with_reducible rfl | with_reducible refine (Below.heap_setCell _ _ _ _ (by first | omega | (simp; done) | (simp; omega))).trans ?_ | with_reducible refine (heap_drew_ _ _).trans ?_ | with_reducible refine (heap_drewN_ _ _ _).trans ?_))
    replace y := y.same (X := X) (by rw [eX]; repeat (first | with_reducible rfl | with_reducible refine (Below.heap_setCell _ _ _ _ (by first | omega | (simp; done) | (simp; omega))).trans ?_ | with_reducible refine (heap_drew_ _ _).trans ?_ | with_reducible refine (heap_drewN_ _ _ _).trans ?_))
    clear eX
    replace m_l := m.lt
    replace m_0 := m.at 0 _ rfl
    replace m_1 := m.at 1 _ rfl
    replace y_l := y.lt
    replace y_0 := y.at 0 _ rfl
    replace y_1 := y.at 1 _ rfl
    clear c0 f0
    have rl := r.lt
    refine wp_region_held_drew (S := fun W => Kept w W ∧ Own W (w.heap.size + 1) 42 (setNum s 23 x).C ∧ W.cell? ⟨Y, 0, none⟩ = some (.int .i64 k)) (by kernel_rfl) (⟨hk.drew, st.drew, y_0⟩) (fun hS => ?_)
    clear hk st
    refine' wpAnyH_take (i := 0) rfl (by kernel_rfl) (by kernel_rfl) (by kernel_rfl) (fun _ _ _ h => h) (yieldsIf_load_own (by rfl) 42 _ rfl _ rfl (fun W h => h.2.1) _ Tryd.underlying42 rfl (by kernel_rfl)) (by assumption) ?_
    simp only [Act.put, List.getElem_toArray, List.getElem_cons_zero, List.getElem_cons_succ, List.setIfInBounds_toArray, List.set_cons_zero, List.set_cons_succ]
    refine wpAnyH_take (i := 1) (v := ?_) rfl (by kernel_rfl) (by kernel_rfl) (by kernel_rfl) (fun _ _ _ h => h) (Or.inl ⟨by rfl, ?_⟩) (by assumption) ?_
    rotate_left
    · intro W hSW; (try dsimp only at hSW); go_simp; (first | done | with_reducible rfl)
    simp only [Act.put, List.getElem_toArray, List.getElem_cons_zero, List.getElem_cons_succ, List.setIfInBounds_toArray, List.set_cons_zero, List.set_cons_succ]
    refine wpAnyH_take (i := 2) (v := ?_) rfl (by kernel_rfl) (by kernel_rfl) (by kernel_rfl) (fun _ _ _ h => h) (Or.inl ⟨by rfl, ?_⟩) (by assumption) ?_
    rotate_left
    · intro W hSW; (try dsimp only at hSW); have c0 := hSW.2.2; go_simp; (first | done | with_reducible rfl)
    simp only [Act.put, List.getElem_toArray, List.getElem_cons_zero, List.getElem_cons_succ, List.setIfInBounds_toArray, List.set_cons_zero, List.set_cons_succ]
    refine wpAnyH_take (i := 3) (v := ?_) rfl (by kernel_rfl) (by kernel_rfl) (by kernel_rfl) (fun _ _ _ h => h) (Or.inl ⟨by rfl, ?_⟩) (by assumption) ?_
    rotate_left
    · intro W hSW; (try dsimp only at hSW); go_simp; (first | done | with_reducible rfl)
    simp only [Act.put, List.getElem_toArray, List.getElem_cons_zero, List.getElem_cons_succ, List.setIfInBounds_toArray, List.set_cons_zero, List.set_cons_succ]
    refine wpAnyH_ready (rs := [4]) (by kernel_rfl) (by simp) ?_
    refine (AllReadyH.cons rfl (fun K hK => ?_) AllReadyH.nil)
    have r2 := r.drew
    have y2 : Own X.drew Y 23 _ := y.drew
    refine wp_put_own (by rfl) 42 _ _ rfl _ (setNum s 23 x).C rfl rfl r2 rfl (by kernel_rfl) (by rfl) ?_
    intro X2 r3 hoX hkX
    refine hK.out _ _ ⟨hkX _ hS.1 (by omega), hS.2.1.same (hoX _ (by omega)), (y2.same (hoX _ (by omega))).at 0 _ rfl⟩ (fun hS2 => ?_)
    clear hS hK hkX hoX
    have hS := hS2
    clear hS2
    simp only [Act.put, List.getElem_toArray, List.getElem_cons_zero, List.getElem_cons_succ, List.setIfInBounds_toArray, List.set_cons_zero, List.set_cons_succ]
    refine wpAnyH_take (i := 5) (v := ?_) rfl (by kernel_rfl) (by kernel_rfl) (by kernel_rfl) (fun _ _ _ h => h) (Or.inl ⟨by rfl, ?_⟩) (by assumption) ?_
    rotate_left
    · intro W hSW; (try dsimp only at hSW); go_simp; (first | done | with_reducible rfl)
    simp only [Act.put, List.getElem_toArray, List.getElem_cons_zero, List.getElem_cons_succ, List.setIfInBounds_toArray, List.set_cons_zero, List.set_cons_succ]
    refine wpAnyH_done (by kernel_rfl) ?_ _
    have hk := hS.1
    clear hS r2 y2
    go_wp2
    exact bodyPost_ret (results_own_tmp 42 _ Tryd.results41 rfl r3 Tryd.underlying42 rfl (by kernel_rfl)) rfl ⟨_, ok, rfl, HS.out, hk⟩
  · have HS := Lib.hid (show Sets (setS di s 23 v) s false from by unfold setS; rw [if_neg (by decide), h, if_neg (by simp)]; rfl)
    clear h
    have hk : Kept w w := Kept.refl w
    go_enter Tryd.func41, Tryd.ntmps41
    go_wp2_with fail
    refine with_boxes3 ?_
    intro X hX m st r
    have hsz := hk.size
    replace hk := hk.trans hX
    clear hX
    replace m_l := m.lt
    replace m_0 := m.at 0 _ rfl
    replace m_1 := m.at 1 _ rfl
    refine (H2.out _).mono ?_
    rintro e w1 ⟨rfl, hn⟩
    replace hk := hk.trans hn
    replace m := m.kept hn
    replace st := st.kept hn
    replace r := r.kept hn
    clear hn
    replace m_l := m.lt
    replace m_0 := m.at 0 _ rfl
    replace m_1 := m.at 1 _ rfl
    go_upto_region 5 with fail
    refine code_boxes1 ?_
    intro X hX y
    have hsz := hk.size
    replace hk := hk.trans hX
    replace m := m.kept hX
    replace st := st.kept hX
    replace r := r.kept hX
    clear hX
    replace m_l := m.lt
    replace m_0 := m.at 0 _ rfl
    replace m_1 := m.at 1 _ rfl
    replace y_l := y.lt
    replace y_0 := y.at 0 _ rfl
    replace y_1 := y.at 1 _ rfl
    clear y
    clear y_l y_0 y_1
    go_wp2_with (first | (refine here_load 42 _ rfl ?_; refine wpList_load_own rfl 42 _ rfl _ rfl st _ Tryd.underlying42 rfl (by kernel_rfl) ?_) | (refine here_store 42 _ _ rfl ?_; refine wpList_store_own rfl 42 _ _ rfl _ _ rfl rfl r (by rfl) (by kernel_rfl) (by rfl) ?_; intro X oX hoX hkX; replace hk := hkX _ hk (by first | omega | (simp; omega)); replace r := oX; replace m := m.same (hoX _ (by first | omega | (simp; omega))); replace st := st.same (hoX _ (by first | omega | (simp; omega))); clear oX hoX hkX; replace m_l := m.lt; replace m_0 := m.at 0 _ rfl; replace m_1 := m.at 1 _ rfl))
    exact bodyPost_ret (results_own_tmp 42 _ Tryd.results41 rfl r Tryd.underlying42 rfl (by kernel_rfl)) rfl ⟨_, false, rfl, HS.out, hk⟩
theorem refSet_24 (s : Sty) (wr di : Int) (v : ByteArray) (w : World) (hn : v.size ≤ 140737488355328) :
    Calls Tryd.prog 41 #[modeV wr di, s.V, .int .i64 24, .string v] w fun e w' => ∃ t ok, e = .returned (.tuple #[Sty.V t, .bool ok]) ∧ Sets (setS di s 24 v) t ok ∧ Kept w w' := by
  obtain ⟨⟨⟨k, x⟩, E⟩, h⟩ : ∃ r, parseS v = r := ⟨_, rfl⟩
  have H2 := Lib.hid (fun wx => refParse10_is v k x E wx hn h)
  have hE : E = 0 ∨ E = 800 := by have := parse_err v; rw [h] at this; exact this
  rcases hE with rfl | rfl
  · obtain ⟨ok, hok⟩ : ∃ b, (k == 1) = b := ⟨_, rfl⟩
    have HS := Lib.hid (show Sets (setS di s 24 v) (setNum s 24 x) ok from by
      unfold setS
      rw [if_neg (by decide), h, if_pos rfl, if_pos (by decide)]
      dsimp only
      by_cases hk1 : k = 1
      · subst hk1; exact ⟨rfl, hok.symm⟩
      · rw [if_neg hk1]
        have : (k == 1) = false := by simpa using hk1
        rw [this] at hok
        exact hok.symm)
    clear h
    have hk : Kept w w := Kept.refl w
    go_enter Tryd.func41, Tryd.ntmps41
    go_wp2_with fail
    refine with_boxes3 ?_
    intro X hX m st r
    have hsz := hk.size
    replace hk := hk.trans hX
    clear hX
    replace m_l := m.lt
    replace m_0 := m.at 0 _ rfl
    replace m_1 := m.at 1 _ rfl
    refine (H2.out _).mono ?_
    rintro e w1 ⟨rfl, hn⟩
    replace hk := hk.trans hn
    replace m := m.kept hn
    replace st := st.kept hn
    replace r := r.kept hn
    clear hn
    replace m_l := m.lt
    replace m_0 := m.at 0 _ rfl
    replace m_1 := m.at 1 _ rfl
    obtain ⟨Y, hY⟩ : ∃ z, w1.heap.size = z := ⟨_, rfl⟩
    have hYw : w.heap.size + 2 < Y := by have := r.lt; omega
    go_upto_region 21 with fail
    refine code_boxes1 ?_
    intro X hX y
    have hsz := hk.size
    replace hk := hk.trans hX
    replace m := m.kept hX
    replace st := st.kept hX
    replace r := r.kept hX
    clear hX
    replace m_l := m.lt
    replace m_0 := m.at 0 _ rfl
    replace m_1 := m.at 1 _ rfl
    replace y_l := y.lt
    replace y_0 := y.at 0 _ rfl
    replace y_1 := y.at 1 _ rfl
    rw [hY] at y y_0 y_1
    clear hY
    have c0 := st.at 27 _ rfl
    have f0 := st.free 27
    have st_l := st.lt
    go_upto_region 22 with fail
    refine code_eq ?_
    intro X eX
    have hsz := hk.size
    replace hk := (eX ▸ (by first | ((repeat (first | with_reducible exact hk | with_reducible refine Kept.alloc ?_ _ | with_reducible refine Kept.drew ?_ | with_reducible refine Kept.drewN ?_ _ | with_reducible refine Kept.set ?_ (by first | (simp; done) | (simp; omega) | omega) _)); done) | exact hk | exact (hk.alloc _) | exact ((hk.alloc _).alloc _) | exact (((hk.alloc _).alloc _).alloc _) | exact ((((hk.alloc _).alloc _).alloc _).alloc _) | exact (((((hk.alloc _).alloc _).alloc _).alloc _).alloc _) | exact ((((((hk.alloc _).alloc _).alloc _).alloc _).alloc _).alloc _) | (repeat (first | exact hk | refine Kept.alloc ?_ _ | refine Kept.drew ?_ | refine Kept.drewN ?_ _ | refine Kept.set ?_ (by first | (simp; done) | (simp; omega) | omega) _))) : Kept w X)
    replace m := m.same (X := X) (by rw [eX]; repeat (first | with_reducible rfl | with_reducible refine (Below.heap_setCell _ _ _ _ (by first | omega | (simp; done) | (simp; omega))).trans ?_ | with_reducible refine (heap_drew_ _ _).trans ?_ | with_reducible refine (heap_drewN_ _ _ _).trans ?_))
    replace st : Own X _ _ (setNum s 24 x).C := eX ▸ (((st.set 27 _)).is (by rfl))
    replace r := r.same (X := X) (by rw [eX]; repeat (first | with_reducible rfl | with_reducible refine (Below.heap_setCell _ _ _ _ (by first | omega | (simp; done) | (simp; omega))).trans ?_ | with_reducible refine (heap_drew_ _ _).trans ?_ | with_reducible refine (heap_drewN_ _ _ _).trans ?_))
    replace y := y.same (X := X) (by rw [eX]; repeat (first | with_reducible rfl | with_reducible refine (Below.heap_setCell _ _ _ _ (by first | omega | (simp; done) | (simp; omega))).trans ?_ | with_reducible refine (heap_drew_ _ _).trans ?_ | with_reducible refine (heap_drewN_ _ _ _).trans ?_))
    clear eX
    replace m_l := m.lt
    replace m_0 := m.at 0 _ rfl
    replace m_1 := m.at 1 _ rfl
    replace y_l := y.lt
    replace y_0 := y.at 0 _ rfl
    replace y_1 := y.at 1 _ rfl
    clear c0 f0
    have rl := r.lt
    refine wp_region_held_drew (S := fun W => Kept w W ∧ Own W (w.heap.size + 1) 42 (setNum s 24 x).C ∧ W.cell? ⟨Y, 0, none⟩ = some (.int .i64 k)) (by kernel_rfl) (⟨hk.drew, st.drew, y_0⟩) (fun hS => ?_)
    clear hk st
    refine' wpAnyH_take (i := 0) rfl (by kernel_rfl) (by kernel_rfl) (by kernel_rfl) (fun _ _ _ h => h) (yieldsIf_load_own (by rfl) 42 _ rfl _ rfl (fun W h => h.2.1) _ Tryd.underlying42 rfl (by kernel_rfl)) (by assumption) ?_
    simp only [Act.put, List.getElem_toArray, List.getElem_cons_zero, List.getElem_cons_succ, List.setIfInBounds_toArray, List.set_cons_zero, List.set_cons_succ]
    refine wpAnyH_take (i := 1) (v := ?_) rfl (by kernel_rfl) (by kernel_rfl) (by kernel_rfl) (fun _ _ _ h => h) (Or.inl ⟨by rfl, ?_⟩) (by assumption) ?_
    rotate_left
    · intro W hSW; (try dsimp only at hSW); go_simp; (first | done | with_reducible rfl)
    simp only [Act.put, List.getElem_toArray, List.getElem_cons_zero, List.getElem_cons_succ, List.setIfInBounds_toArray, List.set_cons_zero, List.set_cons_succ]
    refine wpAnyH_take (i := 2) (v := ?_) rfl (by kernel_rfl) (by kernel_rfl) (by kernel_rfl) (fun _ _ _ h => h) (Or.inl ⟨by rfl, ?_⟩) (by assumption) ?_
    rotate_left
    · intro W hSW; (try dsimp only at hSW); have c0 := hSW.2.2; go_simp; (first | done | with_reducible rfl)
    simp only [Act.put, List.getElem_toArray, List.getElem_cons_zero, List.getElem_cons_succ, List.setIfInBounds_toArray, List.set_cons_zero, List.set_cons_succ]
    refine wpAnyH_take (i := 3) (v := ?_) rfl (by kernel_rfl) (by kernel_rfl) (by kernel_rfl) (fun _ _ _ h => h) (Or.inl ⟨by rfl, ?_⟩) (by assumption) ?_
    rotate_left
    · intro W hSW; (try dsimp only at hSW); go_simp; (first | done | with_reducible rfl)
    simp only [Act.put, List.getElem_toArray, List.getElem_cons_zero, List.getElem_cons_succ, List.setIfInBounds_toArray, List.set_cons_zero, List.set_cons_succ]
    refine wpAnyH_ready (rs := [4]) (by kernel_rfl) (by simp) ?_
    refine (AllReadyH.cons rfl (fun K hK => ?_) AllReadyH.nil)
    have r2 := r.drew
    have y2 : Own X.drew Y 23 _ := y.drew
    refine wp_put_own (by rfl) 42 _ _ rfl _ (setNum s 24 x).C rfl rfl r2 rfl (by kernel_rfl) (by rfl) ?_
    intro X2 r3 hoX hkX
    refine hK.out _ _ ⟨hkX _ hS.1 (by omega), hS.2.1.same (hoX _ (by omega)), (y2.same (hoX _ (by omega))).at 0 _ rfl⟩ (fun hS2 => ?_)
    clear hS hK hkX hoX
    have hS := hS2
    clear hS2
    simp only [Act.put, List.getElem_toArray, List.getElem_cons_zero, List.getElem_cons_succ, List.setIfInBounds_toArray, List.set_cons_zero, List.set_cons_succ]
    refine wpAnyH_take (i := 5) (v := ?_) rfl (by kernel_rfl) (by kernel_rfl) (by kernel_rfl) (fun _ _ _ h => h) (Or.inl ⟨by rfl, ?_⟩) (by assumption) ?_
    rotate_left
    · intro W hSW; (try dsimp only at hSW); go_simp; (first | done | with_reducible rfl)
    simp only [Act.put, List.getElem_toArray, List.getElem_cons_zero, List.getElem_cons_succ, List.setIfInBounds_toArray, List.set_cons_zero, List.set_cons_succ]
    refine wpAnyH_done (by kernel_rfl) ?_ _
    have hk := hS.1
    clear hS r2 y2
    go_wp2
    exact bodyPost_ret (results_own_tmp 42 _ Tryd.results41 rfl r3 Tryd.underlying42 rfl (by kernel_rfl)) rfl ⟨_, ok, rfl, HS.out, hk⟩
  · have HS := Lib.hid (show Sets (setS di s 24 v) s false from by unfold setS; rw [if_neg (by decide), h, if_neg (by simp)]; rfl)
    clear h
    have hk : Kept w w := Kept.refl w
    go_enter Tryd.func41, Tryd.ntmps41
    go_wp2_with fail
    refine with_boxes3 ?_
    intro X hX m st r
    have hsz := hk.size
    replace hk := hk.trans hX
    clear hX
    replace m_l := m.lt
    replace m_0 := m.at 0 _ rfl
    replace m_1 := m.at 1 _ rfl
    refine (H2.out _).mono ?_
    rintro e w1 ⟨rfl, hn⟩
    replace hk := hk.trans hn
    replace m := m.kept hn
    replace st := st.kept hn
    replace r := r.kept hn
    clear hn
    replace m_l := m.lt
    replace m_0 := m.at 0 _ rfl
    replace m_1 := m.at 1 _ rfl
    go_upto_region 5 with fail
    refine code_boxes1 ?_
    intro X hX y
    have hsz := hk.size
    replace hk := hk.trans hX
    replace m := m.kept hX
    replace st := st.kept hX
    replace r := r.kept hX
    clear hX
    replace m_l := m.lt
    replace m_0 := m.at 0 _ rfl
    replace m_1 := m.at 1 _ rfl
    replace y_l := y.lt
    replace y_0 := y.at 0 _ rfl
    replace y_1 := y.at 1 _ rfl
    clear y
    clear y_l y_0 y_1
    go_wp2_with (first | (refine here_load 42 _ rfl ?_; refine wpList_load_own rfl 42 _ rfl _ rfl st _ Tryd.underlying42 rfl (by kernel_rfl) ?_) | (refine here_store 42 _ _ rfl ?_; refine wpList_store_own rfl 42 _ _ rfl _ _ rfl rfl r (by rfl) (by kernel_rfl) (by rfl) ?_; intro X oX hoX hkX; replace hk := hkX _ hk (by first | omega | (simp; omega)); replace r := oX; replace m := m.same (hoX _ (by first | omega | (simp; omega))); replace st := st.same (hoX _ (by first | omega | (simp; omega))); clear oX hoX hkX; replace m_l := m.lt; replace m_0 := m.at 0 _ rfl; replace m_1 := m.at 1 _ rfl))
    exact bodyPost_ret (results_own_tmp 42 _ Tryd.results41 rfl r Tryd.underlying42 rfl (by kernel_rfl)) rfl ⟨_, false, rfl, HS.out, hk⟩
theorem refSet_25 (s : Sty) (wr di : Int) (v : ByteArray) (w : World) (hn : v.size ≤ 140737488355328) (hd : di = 0 ∨ di = 1) :
    Calls Tryd.prog 41 #[modeV wr di, s.V, .int .i64 25, .string v] w fun e w' => ∃ t ok, e = .returned (.tuple #[Sty.V t, .bool ok]) ∧ Sets (setS di s 25 v) t ok ∧ Kept w w' := by
  have H := Lib.hid (fun wx => refNamed_25 s wr di v wx hd)
  clear hd
  have hk : Kept w w := Kept.refl w
  go_enter Tryd.func41, Tryd.ntmps41
  go_upto_region 2 with fail
  refine code_boxes3 ?_
  intro X hX m st r
  have hsz := hk.size
  replace hk := hk.trans hX
  clear hX
  replace m_l := m.lt
  replace m_0 := m.at 0 _ rfl
  replace m_1 := m.at 1 _ rfl
  go_wp2_with (refine here_load 42 _ rfl ?_; refine wpList_load_own rfl 42 _ rfl _ rfl st _ Tryd.underlying42 rfl (by kernel_rfl) ?_)
  go_wp2_with fail
  refine (H.out _).mono ?_
  rintro e w1 ⟨t, ok, rfl, hs, hn⟩
  replace hk := hk.trans hn
  replace m := m.kept hn
  replace st := st.kept hn
  replace r := r.kept hn
  clear hn
  replace m_l := m.lt
  replace m_0 := m.at 0 _ rfl
  replace m_1 := m.at 1 _ rfl
  have HS := Lib.hid hs
  clear hs
  go_wp2_with (refine here_store 42 _ _ rfl ?_; refine wpList_store_own rfl 42 _ _ rfl _ _ rfl rfl r (by rfl) (by kernel_rfl) (by rfl) ?_; intro X oX hoX hkX; replace hk := hkX _ hk (by first | omega | (simp; omega)); replace r := oX; replace m := m.same (hoX _ (by first | omega | (simp; omega))); replace st := st.same (hoX _ (by first | omega | (simp; omega))); clear oX hoX hkX; replace m_l := m.lt; replace m_0 := m.at 0 _ rfl; replace m_1 := m.at 1 _ rfl)
  exact bodyPost_ret (results_own_tmp 42 _ Tryd.results41 rfl r Tryd.underlying42 rfl (by kernel_rfl)) rfl ⟨_, ok, rfl, HS.out, hk⟩
theorem refSet_26 (s : Sty) (wr di : Int) (v : ByteArray) (w : World) (hn : v.size ≤ 140737488355328) :
    Calls Tryd.prog 41 #[modeV wr di, s.V, .int .i64 26, .string v] w fun e w' => ∃ t ok, e = .returned (.tuple #[Sty.V t, .bool ok]) ∧ Sets (setS di s 26 v) t ok ∧ Kept w w' := by
  have H := Lib.hid (fun wx => refNamed_26 s wr di v wx)
  have hk : Kept w w := Kept.refl w
  go_enter Tryd.func41, Tryd.ntmps41
  go_upto_region 2 with fail
  refine code_boxes3 ?_
  intro X hX m st r
  have hsz := hk.size
  replace hk := hk.trans hX
  clear hX
  replace m_l := m.lt
  replace m_0 := m.at 0 _ rfl
  replace m_1 := m.at 1 _ rfl
  go_wp2_with (refine here_load 42 _ rfl ?_; refine wpList_load_own rfl 42 _ rfl _ rfl st _ Tryd.underlying42 rfl (by kernel_rfl) ?_)
  go_wp2_with fail
  refine (H.out _).mono ?_
  rintro e w1 ⟨t, ok, rfl, hs, hn⟩
  replace hk := hk.trans hn
  replace m := m.kept hn
  replace st := st.kept hn
  replace r := r.kept hn
  clear hn
  replace m_l := m.lt
  replace m_0 := m.at 0 _ rfl
  replace m_1 := m.at 1 _ rfl
  have HS := Lib.hid hs
  clear hs
  go_wp2_with (refine here_store 42 _ _ rfl ?_; refine wpList_store_own rfl 42 _ _ rfl _ _ rfl rfl r (by rfl) (by kernel_rfl) (by rfl) ?_; intro X oX hoX hkX; replace hk := hkX _ hk (by first | omega | (simp; omega)); replace r := oX; replace m := m.same (hoX _ (by first | omega | (simp; omega))); replace st := st.same (hoX _ (by first | omega | (simp; omega))); clear oX hoX hkX; replace m_l := m.lt; replace m_0 := m.at 0 _ rfl; replace m_1 := m.at 1 _ rfl)
  exact bodyPost_ret (results_own_tmp 42 _ Tryd.results41 rfl r Tryd.underlying42 rfl (by kernel_rfl)) rfl ⟨_, ok, rfl, HS.out, hk⟩
theorem refSet_27 (s : Sty) (wr di : Int) (v : ByteArray) (w : World) (hn : v.size ≤ 140737488355328) :
    Calls Tryd.prog 41 #[modeV wr di, s.V, .int .i64 27, .string v] w fun e w' => ∃ t ok, e = .returned (.tuple #[Sty.V t, .bool ok]) ∧ Sets (setS di s 27 v) t ok ∧ Kept w w' := by
  have H := Lib.hid (fun wx => refNamed_27 s wr di v wx)
  have hk : Kept w w := Kept.refl w
  go_enter Tryd.func41, Tryd.ntmps41
  go_upto_region 2 with fail
  refine code_boxes3 ?_
  intro X hX m st r
  have hsz := hk.size
  replace hk := hk.trans hX
  clear hX
  replace m_l := m.lt
  replace m_0 := m.at 0 _ rfl
  replace m_1 := m.at 1 _ rfl
  go_wp2_with (refine here_load 42 _ rfl ?_; refine wpList_load_own rfl 42 _ rfl _ rfl st _ Tryd.underlying42 rfl (by kernel_rfl) ?_)
  go_wp2_with fail
  refine (H.out _).mono ?_
  rintro e w1 ⟨t, ok, rfl, hs, hn⟩
  replace hk := hk.trans hn
  replace m := m.kept hn
  replace st := st.kept hn
  replace r := r.kept hn
  clear hn
  replace m_l := m.lt
  replace m_0 := m.at 0 _ rfl
  replace m_1 := m.at 1 _ rfl
  have HS := Lib.hid hs
  clear hs
  go_wp2_with (refine here_store 42 _ _ rfl ?_; refine wpList_store_own rfl 42 _ _ rfl _ _ rfl rfl r (by rfl) (by kernel_rfl) (by rfl) ?_; intro X oX hoX hkX; replace hk := hkX _ hk (by first | omega | (simp; omega)); replace r := oX; replace m := m.same (hoX _ (by first | omega | (simp; omega))); replace st := st.same (hoX _ (by first | omega | (simp; omega))); clear oX hoX hkX; replace m_l := m.lt; replace m_0 := m.at 0 _ rfl; replace m_1 := m.at 1 _ rfl)
  exact bodyPost_ret (results_own_tmp 42 _ Tryd.results41 rfl r Tryd.underlying42 rfl (by kernel_rfl)) rfl ⟨_, ok, rfl, HS.out, hk⟩
theorem refSet_28 (s : Sty) (wr di : Int) (v : ByteArray) (w : World) (hn : v.size ≤ 140737488355328) :
    Calls Tryd.prog 41 #[modeV wr di, s.V, .int .i64 28, .string v] w fun e w' => ∃ t ok, e = .returned (.tuple #[Sty.V t, .bool ok]) ∧ Sets (setS di s 28 v) t ok ∧ Kept w w' := by
  have H := Lib.hid (fun wx => refNamed_28 s wr di v wx)
  have hk : Kept w w := Kept.refl w
  go_enter Tryd.func41, Tryd.ntmps41
  go_upto_region 2 with fail
  refine code_boxes3 ?_
  intro X hX m st r
  have hsz := hk.size
  replace hk := hk.trans hX
  clear hX
  replace m_l := m.lt
  replace m_0 := m.at 0 _ rfl
  replace m_1 := m.at 1 _ rfl
  go_wp2_with (refine here_load 42 _ rfl ?_; refine wpList_load_own rfl 42 _ rfl _ rfl st _ Tryd.underlying42 rfl (by kernel_rfl) ?_)
  go_wp2_with fail
  refine (H.out _).mono ?_
  rintro e w1 ⟨t, ok, rfl, hs, hn⟩
  replace hk := hk.trans hn
  replace m := m.kept hn
  replace st := st.kept hn
  replace r := r.kept hn
  clear hn
  replace m_l := m.lt
  replace m_0 := m.at 0 _ rfl
  replace m_1 := m.at 1 _ rfl
  have HS := Lib.hid hs
  clear hs
  go_wp2_with (refine here_store 42 _ _ rfl ?_; refine wpList_store_own rfl 42 _ _ rfl _ _ rfl rfl r (by rfl) (by kernel_rfl) (by rfl) ?_; intro X oX hoX hkX; replace hk := hkX _ hk (by first | omega | (simp; omega)); replace r := oX; replace m := m.same (hoX _ (by first | omega | (simp; omega))); replace st := st.same (hoX _ (by first | omega | (simp; omega))); clear oX hoX hkX; replace m_l := m.lt; replace m_0 := m.at 0 _ rfl; replace m_1 := m.at 1 _ rfl)
  exact bodyPost_ret (results_own_tmp 42 _ Tryd.results41 rfl r Tryd.underlying42 rfl (by kernel_rfl)) rfl ⟨_, ok, rfl, HS.out, hk⟩
end Go.Proofs.YtnbagilcbngdcaaDoor
