/- Layer 10: modes, declarations that are none; styles that may not be. -/
import Derived.Test.YtnbagilcbngdcaaDoorAwake10
import Derived.Test.YtnbagilcbngdcaaDoorRowDecls
import Derived.Test.YtnbagilcbngdcaaDoorMask
namespace Go.Proofs.YtnbagilcbngdcaaDoor
open Go.RowKit Go.Deep
set_option linter.unusedSimpArgs false
set_option linter.unusedVariables false
set_option maxHeartbeats 8000000
set_option maxRecDepth 20000
theorem apply_mode (wm di : Int) (o : Option Addr) (n cap : Nat) (w : World) (hm : modeMayB wm di = false) :
    Calls Tryd.prog 18 #[modeV wm di, .slice o n cap] w fun e w' => e = .returned (.tuple #[zeroS.V, .int .i64 1000]) ∧ Kept w w' := by
  have HM := Lib.hid (fun wx => modeMay10_is wm di false wx hm)
  clear hm
  have hk : Kept w w := Kept.refl w
  go_enter Tryd.func18, Tryd.ntmps18
  go_wp2_with fail
  refine with_boxes2 ?_
  intro X hX m r
  have hsz := hk.size
  replace hk := hk.trans hX
  clear hX
  replace m_l := m.lt
  replace m_0 := m.at 0 _ rfl
  replace m_1 := m.at 1 _ rfl
  refine (HM.out _).mono ?_
  rintro e w1 ⟨rfl, hn⟩
  replace hk := hk.trans hn
  replace m := m.kept hn
  replace r := r.kept hn
  clear hn
  replace m_l := m.lt
  replace m_0 := m.at 0 _ rfl
  replace m_1 := m.at 1 _ rfl
  go_upto_region 3 with fail
  go_wp2_with (refine here_store 42 _ _ rfl ?_; refine wpList_store_own rfl 42 _ _ rfl _ _ rfl rfl r (by rfl) (by kernel_rfl) (by rfl) ?_; intro X oX hoX hkX; replace hk := hkX _ hk (by first | omega | (simp; omega)); replace r := oX; replace m := m.same (hoX _ (by first | omega | (simp; omega))); clear oX hoX hkX; replace m_l := m.lt; replace m_0 := m.at 0 _ rfl; replace m_1 := m.at 1 _ rfl)
  exact bodyPost_ret (results_own_tmp 42 _ Tryd.results18 rfl r Tryd.underlying42 rfl (by kernel_rfl)) rfl ⟨rfl, hk⟩
theorem apply_long (wm di : Int) (o : Option Addr) (n cap : Nat) (w : World) (hm : modeMayB wm di = true) (h16 : 16 < n) :
    Calls Tryd.prog 18 #[modeV wm di, .slice o n cap] w fun e w' => e = .returned (.tuple #[zeroS.V, .int .i64 1000]) ∧ Kept w w' := by
  have HM := Lib.hid (fun wx => modeMay10_is wm di true wx hm)
  have h16' : (16 : Int) < (n : Int) := by omega
  clear hm h16
  have hk : Kept w w := Kept.refl w
  go_enter Tryd.func18, Tryd.ntmps18
  go_wp2_with fail
  refine with_boxes2 ?_
  intro X hX m r
  have hsz := hk.size
  replace hk := hk.trans hX
  clear hX
  replace m_l := m.lt
  replace m_0 := m.at 0 _ rfl
  replace m_1 := m.at 1 _ rfl
  refine (HM.out _).mono ?_
  rintro e w1 ⟨rfl, hn⟩
  replace hk := hk.trans hn
  replace m := m.kept hn
  replace r := r.kept hn
  clear hn
  replace m_l := m.lt
  replace m_0 := m.at 0 _ rfl
  replace m_1 := m.at 1 _ rfl
  go_upto_region 3 with fail
  go_wp2_with (refine here_store 42 _ _ rfl ?_; refine wpList_store_own rfl 42 _ _ rfl _ _ rfl rfl r (by rfl) (by kernel_rfl) (by rfl) ?_; intro X oX hoX hkX; replace hk := hkX _ hk (by first | omega | (simp; omega)); replace r := oX; replace m := m.same (hoX _ (by first | omega | (simp; omega))); clear oX hoX hkX; replace m_l := m.lt; replace m_0 := m.at 0 _ rfl; replace m_1 := m.at 1 _ rfl)
  exact bodyPost_ret (results_own_tmp 42 _ Tryd.results18 rfl r Tryd.underlying42 rfl (by kernel_rfl)) rfl ⟨rfl, hk⟩
theorem makeDecls (m : Int) (M : Nat) (h0 : 0 ≤ m) (h1 : m ≤ 100000) (hM : m.toNat = M) (w : World) :
    (Instr.makeSlice 39 (.int .i64 m) (.int .i64 m)).run Tryd.prog w = .ok (.slice (some ⟨w.heap.size, 0, none⟩) M M) (w.alloc (.cells (madeCells #[.int .i64 0, .string ⟨#[]⟩] (M * 2)) 53)) := by
  obtain ⟨i0, hi, hz0, hz1, hz2⟩ := info_parts declsInfo
  have := run_make (P := Tryd.prog) w 39 53 i0 _ Tryd.underlying39 hi hz0 .i64 .i64 m m h0 (Int.le_refl _) (by rw [hz2]; omega) (by omega)
  rw [hM, hz1] at this
  exact this
def badS (q : Int) : Nat → Sty
  | 0 => { newS with inl := ⟨1, -(1 + q)⟩ }
  | 1 => { newS with blk := ⟨2, 5⟩ }
  | 2 => { newS with mn := ⟨0, 0⟩ }
  | 3 => { newS with mx := ⟨1, -(1 + q)⟩ }
  | 4 => { newS with m1 := ⟨2, 5⟩ }
  | 5 => { newS with p2 := ⟨0, 0⟩ }
  | 6 => { newS with p3 := ⟨1, -(1 + q)⟩ }
  | 7 => { newS with bas := ⟨1, -(1 + q)⟩ }
  | 8 => { newS with grow := 100 + (1 + q) }
  | 9 => { newS with shrink := -(1 + q) }
  | 10 => { newS with align := 3 + (1 + q) }
  | _ => { newS with just := -(1 + q) }
theorem bad_mayS {q : Int} (q0 : 0 ≤ q) (q1 : q ≤ 1023) (n : Nat) (hn : n < 12) : mayS (badS q n) = false := by
  have hv : lenB 1 (-(1 + q)) = true := inB_true.2 (by omega)
  have hd : decide (-(1 + q) < 0) = true := by simp; omega
  have g1 : inB 0 100 (100 + (1 + q)) = false := inB_false.2 (by omega)
  have g2 : inB 0 100 (-(1 + q)) = false := inB_false.2 (by omega)
  have g3 : inB 0 3 (3 + (1 + q)) = false := inB_false.2 (by omega)
  have g4 : inB 0 3 (-(1 + q)) = false := inB_false.2 (by omega)
  rcases (by omega : n = 0 ∨ n = 1 ∨ n = 2 ∨ n = 3 ∨ n = 4 ∨ n = 5 ∨ n = 6 ∨ n = 7 ∨ n = 8 ∨ n = 9 ∨ n = 10 ∨ n = 11) with rfl | rfl | rfl | rfl | rfl | rfl | rfl | rfl | rfl | rfl | rfl | rfl <;> simp [badS, mayS, oddL, oddB, anyOdd, newS, hv, hd, g1, g2, g3, g4, lenB] <;> (intros; omega)
theorem cascadeForms_main0 (a q b : Int) (n : Nat) (hq : bits .and .i64 b 1023 = q) (q0 : 0 ≤ q) (q1 : q ≤ 1023) (hj : bits .and .i64 a 1 = 0) (hm : (IntKind.u64.wrap a).tmod 12 = (n : Int)) (hn : n < 12) (w : World) (ht : TabN w) (hp : Pow w) :
    Calls Tryd.prog 7 #[.int .i64 a, .int .i64 b] w fun e w' => e = .returned (.bool true) ∧ Kept w w' := by
  have HB := Lib.hid (bad_mayS q0 q1 n hn)
  have hbm : modeMayB 0 (1 + (1 + q)) = false := by
    cases hb : modeMayB 0 (1 + (1 + q)) with
    | false => rfl
    | true => have := (modeMayB_true.1 hb).2; omega
  have H1 := Lib.hid (fun wx => apply_mode 0 (1 + (1 + q)) none 0 0 wx hbm)
  obtain ⟨M, hM⟩ : ∃ M, (16 + (1 + q)).toNat = M := ⟨_, rfl⟩
  have hmk := fun wx => makeDecls (16 + (1 + q)) M (by omega) (by omega) hM wx
  have H2 := Lib.hid (fun wx b => apply_long 0 0 (some ⟨b, 0, none⟩) M M wx rfl (by omega))
  have hpo : inB 0 28 (-(1 + q)) = false := inB_false.2 (by omega)
  have h3 : applyS 0 0 2 (litP [(0, ⟨#[53]⟩), (-(1 + q), ⟨#[53]⟩)]) (litT [(0, ⟨#[53]⟩), (-(1 + q), ⟨#[53]⟩)]) = (zeroS, 1000) := if_neg (by
    unfold declsB
    rw [propsB_no (k := 1) (by decide) hpo]
    simp)
  have H3 := Lib.hid (fun wx u (hu : RV 2 wx u 2 (declC (litP [(0, ⟨#[53]⟩), (-(1 + q), ⟨#[53]⟩)]) (litT [(0, ⟨#[53]⟩), (-(1 + q), ⟨#[53]⟩)]))) (hx : TabN wx) (hy : Pow wx) => apply_is 0 0 u 2 (litP [(0, ⟨#[53]⟩), (-(1 + q), ⟨#[53]⟩)]) (litT [(0, ⟨#[53]⟩), (-(1 + q), ⟨#[53]⟩)]) zeroS 1000 wx hu (by decide) hx hy (fun i _ => litT_size rfl i) h3)
  clear hbm hM hpo h3
  have hnew := Lib.hid (show mayS newS = true by kernel_rfl)
  have hk : Kept w w := Kept.refl w
  go_enter Tryd.func7, Tryd.ntmps7
  go_wp2_with fail
  refine (awake10_any _ (ht.kept hk) (hp.kept hk)).mono ?_
  rintro e w1 ⟨rfl, hn⟩
  replace hk := hk.trans hn
  clear hn
  go_wp2_with fail
  refine (H1.out _).mono ?_
  rintro e w1 ⟨rfl, hn⟩
  replace hk := hk.trans hn
  clear hn
  go_wp2_with (first | (refine here_store 42 _ _ rfl ?_; refine wpList_store_own rfl 42 _ _ rfl _ _ rfl rfl (Own.new _ _ _) (by rfl) (by kernel_rfl) (by rfl) ?_; intro X e1 hoX hkX; have hsz := hk.size; replace hk := hkX _ (hk.alloc _) (by first | omega | (simp; omega)); clear hoX hkX))
  go_wp2_with fail
  refine with_boxes1 ?_
  intro X hX B0
  have hsz := hk.size
  replace hk := hk.trans hX
  replace e1 := e1.kept hX
  clear hX B0
  refine (H2.out _ _).mono ?_
  rintro e w1 ⟨rfl, hn⟩
  replace hk := hk.trans hn
  replace e1 := e1.kept hn
  clear hn
  go_wp2_with (first | (refine here_store 42 _ _ rfl ?_; refine wpList_store_own rfl 42 _ _ rfl _ _ rfl rfl (Own.new _ _ _) (by rfl) (by kernel_rfl) (by rfl) ?_; intro X e2 hoX hkX; have hsz := hk.size; replace hk := hkX _ (hk.alloc _) (by first | omega | (simp; omega)); have e1_l := e1.lt; replace e1 := (e1.alloc _).same (hoX _ (by first | omega | (simp; omega))); clear hoX hkX))
  clear hmk
  go_wp2_with fail
  refine with_boxes2 ?_
  intro X hX B0 e
  have hsz := hk.size
  replace hk := hk.trans hX
  replace e1 := e1.kept hX
  replace e2 := e2.kept hX
  clear hX B0
  refine (H3.out _ _ (rv_lit e 2 2 (by decide) (declC (litP [(0, ⟨#[53]⟩), (-(1 + q), ⟨#[53]⟩)]) (litT [(0, ⟨#[53]⟩), (-(1 + q), ⟨#[53]⟩)])) rfl) (ht.kept hk) (hp.kept hk)).mono ?_
  rintro e w1 ⟨rfl, hn⟩
  replace hk := hk.trans hn
  replace e1 := e1.kept hn
  replace e2 := e2.kept hn
  replace e := e.kept hn
  clear hn
  clear e
  go_wp2_with (first | (refine here_store 42 _ _ rfl ?_; refine wpList_store_own rfl 42 _ _ rfl _ _ rfl rfl (Own.new _ _ _) (by rfl) (by kernel_rfl) (by rfl) ?_; intro X e3 hoX hkX; have hsz := hk.size; replace hk := hkX _ (hk.alloc _) (by first | omega | (simp; omega)); have e1_l := e1.lt; replace e1 := (e1.alloc _).same (hoX _ (by first | omega | (simp; omega))); have e2_l := e2.lt; replace e2 := (e2.alloc _).same (hoX _ (by first | omega | (simp; omega))); clear hoX hkX))
  go_wp2_with fail
  refine (cascadeNew_any _).mono ?_
  rintro e w1 ⟨rfl, hn⟩
  replace hk := hk.trans hn
  replace e1 := e1.kept hn
  replace e2 := e2.kept hn
  replace e3 := e3.kept hn
  clear hn
  clear e1 e2 e3
  go_upto_region 9 with (first | (refine here_store 42 _ _ rfl ?_; refine wpList_store_own rfl 42 _ _ rfl _ _ rfl rfl (Own.new _ _ _) (by rfl) (by kernel_rfl) (by rfl) ?_; intro X st hoX hkX; have hsz := hk.size; replace hk := hkX _ (hk.alloc _) (by first | omega | (simp; omega)); clear hoX hkX))
  refine code_boxes1 ?_
  intro X hX px
  have hsz := hk.size
  replace hk := hk.trans hX
  replace st := st.kept hX
  clear hX
  replace px_l := px.lt
  replace px_0 := px.at 0 _ rfl
  replace px_1 := px.at 1 _ rfl
  have st_l := st.lt
  rcases (by omega : n = 0 ∨ n = 1 ∨ n = 2 ∨ n = 3 ∨ n = 4 ∨ n = 5 ∨ n = 6 ∨ n = 7 ∨ n = 8 ∨ n = 9 ∨ n = 10 ∨ n = 11) with rfl | rfl | rfl | rfl | rfl | rfl | rfl | rfl | rfl | rfl | rfl | rfl
  · skip
    have g0 := st.at 0 _ rfl
    have f0 := st.free 0
    have g1 := st.at 1 _ rfl
    have f1 := st.free 1
    go_upto_region 33 with fail
    clear px
    clear px_l px_0 px_1
    refine code_eq ?_
    intro X eX
    have hsz := hk.size
    replace hk := (eX ▸ (by first | ((repeat (first | with_reducible exact hk | with_reducible refine Kept.alloc ?_ _ | with_reducible refine Kept.drew ?_ | with_reducible refine Kept.drewN ?_ _ | with_reducible refine Kept.set ?_ (by first | (simp; done) | (simp; omega) | omega) _)); done) | exact hk | exact (hk.alloc _) | exact ((hk.alloc _).alloc _) | exact (((hk.alloc _).alloc _).alloc _) | exact ((((hk.alloc _).alloc _).alloc _).alloc _) | exact (((((hk.alloc _).alloc _).alloc _).alloc _).alloc _) | exact ((((((hk.alloc _).alloc _).alloc _).alloc _).alloc _).alloc _) | (repeat (first | exact hk | refine Kept.alloc ?_ _ | refine Kept.drew ?_ | refine Kept.drewN ?_ _ | refine Kept.set ?_ (by first | (simp; done) | (simp; omega) | omega) _))) : Kept w X)
    replace st : Own X _ _ (badS q 0).C := eX ▸ ((((st.set 0 _).set 1 _)).is (by rfl))
    clear eX
    clear g0 f0 g1 f1
    go_wp2_with (refine here_load 42 _ rfl ?_; refine wpList_load_own rfl 42 _ rfl _ rfl st _ Tryd.underlying42 rfl (by kernel_rfl) ?_)
    go_wp2_with fail
    refine (cascadeMay_is _ false _ HB.out).mono ?_
    rintro e w1 ⟨rfl, hn⟩
    replace hk := hk.trans hn
    replace st := st.kept hn
    clear hn
    go_wp2_with fail
    refine (cascadeNew_any _).mono ?_
    rintro e w1 ⟨rfl, hn⟩
    replace hk := hk.trans hn
    replace st := st.kept hn
    clear hn
    go_wp2_with fail
    refine (cascadeMay_is newS true _ hnew.out).mono ?_
    rintro e w1 ⟨rfl, hn⟩
    replace hk := hk.trans hn
    replace st := st.kept hn
    clear hn
    go_wp2_with fail
    refine (num_any _ _).mono ?_
    rintro e w1 ⟨rfl, rfl⟩
    go_wp2_with fail
    refine (num_any _ _).mono ?_
    rintro e w1 ⟨rfl, rfl⟩
    go_wp2_with fail
    refine (num_any _ _).mono ?_
    rintro e w1 ⟨rfl, rfl⟩
    go_wp2
    go_ret
    exact ⟨rfl, hk⟩
  · skip
    have g2 := st.at 2 _ rfl
    have f2 := st.free 2
    have g3 := st.at 3 _ rfl
    have f3 := st.free 3
    go_upto_region 33 with fail
    clear px
    clear px_l px_0 px_1
    refine code_eq ?_
    intro X eX
    have hsz := hk.size
    replace hk := (eX ▸ (by first | ((repeat (first | with_reducible exact hk | with_reducible refine Kept.alloc ?_ _ | with_reducible refine Kept.drew ?_ | with_reducible refine Kept.drewN ?_ _ | with_reducible refine Kept.set ?_ (by first | (simp; done) | (simp; omega) | omega) _)); done) | exact hk | exact (hk.alloc _) | exact ((hk.alloc _).alloc _) | exact (((hk.alloc _).alloc _).alloc _) | exact ((((hk.alloc _).alloc _).alloc _).alloc _) | exact (((((hk.alloc _).alloc _).alloc _).alloc _).alloc _) | exact ((((((hk.alloc _).alloc _).alloc _).alloc _).alloc _).alloc _) | (repeat (first | exact hk | refine Kept.alloc ?_ _ | refine Kept.drew ?_ | refine Kept.drewN ?_ _ | refine Kept.set ?_ (by first | (simp; done) | (simp; omega) | omega) _))) : Kept w X)
    replace st : Own X _ _ (badS q 1).C := eX ▸ ((((st.set 2 _).set 3 _)).is (by rfl))
    clear eX
    clear g2 f2 g3 f3
    go_wp2_with (refine here_load 42 _ rfl ?_; refine wpList_load_own rfl 42 _ rfl _ rfl st _ Tryd.underlying42 rfl (by kernel_rfl) ?_)
    go_wp2_with fail
    refine (cascadeMay_is _ false _ HB.out).mono ?_
    rintro e w1 ⟨rfl, hn⟩
    replace hk := hk.trans hn
    replace st := st.kept hn
    clear hn
    go_wp2_with fail
    refine (cascadeNew_any _).mono ?_
    rintro e w1 ⟨rfl, hn⟩
    replace hk := hk.trans hn
    replace st := st.kept hn
    clear hn
    go_wp2_with fail
    refine (cascadeMay_is newS true _ hnew.out).mono ?_
    rintro e w1 ⟨rfl, hn⟩
    replace hk := hk.trans hn
    replace st := st.kept hn
    clear hn
    go_wp2_with fail
    refine (num_any _ _).mono ?_
    rintro e w1 ⟨rfl, rfl⟩
    go_wp2_with fail
    refine (num_any _ _).mono ?_
    rintro e w1 ⟨rfl, rfl⟩
    go_wp2_with fail
    refine (num_any _ _).mono ?_
    rintro e w1 ⟨rfl, rfl⟩
    go_wp2
    go_ret
    exact ⟨rfl, hk⟩
  · skip
    have g4 := st.at 4 _ rfl
    have f4 := st.free 4
    have g5 := st.at 5 _ rfl
    have f5 := st.free 5
    go_upto_region 33 with fail
    clear px
    clear px_l px_0 px_1
    refine code_eq ?_
    intro X eX
    have hsz := hk.size
    replace hk := (eX ▸ (by first | ((repeat (first | with_reducible exact hk | with_reducible refine Kept.alloc ?_ _ | with_reducible refine Kept.drew ?_ | with_reducible refine Kept.drewN ?_ _ | with_reducible refine Kept.set ?_ (by first | (simp; done) | (simp; omega) | omega) _)); done) | exact hk | exact (hk.alloc _) | exact ((hk.alloc _).alloc _) | exact (((hk.alloc _).alloc _).alloc _) | exact ((((hk.alloc _).alloc _).alloc _).alloc _) | exact (((((hk.alloc _).alloc _).alloc _).alloc _).alloc _) | exact ((((((hk.alloc _).alloc _).alloc _).alloc _).alloc _).alloc _) | (repeat (first | exact hk | refine Kept.alloc ?_ _ | refine Kept.drew ?_ | refine Kept.drewN ?_ _ | refine Kept.set ?_ (by first | (simp; done) | (simp; omega) | omega) _))) : Kept w X)
    replace st : Own X _ _ (badS q 2).C := eX ▸ ((((st.set 4 _).set 5 _)).is (by rfl))
    clear eX
    clear g4 f4 g5 f5
    go_wp2_with (refine here_load 42 _ rfl ?_; refine wpList_load_own rfl 42 _ rfl _ rfl st _ Tryd.underlying42 rfl (by kernel_rfl) ?_)
    go_wp2_with fail
    refine (cascadeMay_is _ false _ HB.out).mono ?_
    rintro e w1 ⟨rfl, hn⟩
    replace hk := hk.trans hn
    replace st := st.kept hn
    clear hn
    go_wp2_with fail
    refine (cascadeNew_any _).mono ?_
    rintro e w1 ⟨rfl, hn⟩
    replace hk := hk.trans hn
    replace st := st.kept hn
    clear hn
    go_wp2_with fail
    refine (cascadeMay_is newS true _ hnew.out).mono ?_
    rintro e w1 ⟨rfl, hn⟩
    replace hk := hk.trans hn
    replace st := st.kept hn
    clear hn
    go_wp2_with fail
    refine (num_any _ _).mono ?_
    rintro e w1 ⟨rfl, rfl⟩
    go_wp2_with fail
    refine (num_any _ _).mono ?_
    rintro e w1 ⟨rfl, rfl⟩
    go_wp2_with fail
    refine (num_any _ _).mono ?_
    rintro e w1 ⟨rfl, rfl⟩
    go_wp2
    go_ret
    exact ⟨rfl, hk⟩
  · skip
    have g6 := st.at 6 _ rfl
    have f6 := st.free 6
    have g7 := st.at 7 _ rfl
    have f7 := st.free 7
    go_upto_region 33 with fail
    clear px
    clear px_l px_0 px_1
    refine code_eq ?_
    intro X eX
    have hsz := hk.size
    replace hk := (eX ▸ (by first | ((repeat (first | with_reducible exact hk | with_reducible refine Kept.alloc ?_ _ | with_reducible refine Kept.drew ?_ | with_reducible refine Kept.drewN ?_ _ | with_reducible refine Kept.set ?_ (by first | (simp; done) | (simp; omega) | omega) _)); done) | exact hk | exact (hk.alloc _) | exact ((hk.alloc _).alloc _) | exact (((hk.alloc _).alloc _).alloc _) | exact ((((hk.alloc _).alloc _).alloc _).alloc _) | exact (((((hk.alloc _).alloc _).alloc _).alloc _).alloc _) | exact ((((((hk.alloc _).alloc _).alloc _).alloc _).alloc _).alloc _) | (repeat (first | exact hk | refine Kept.alloc ?_ _ | refine Kept.drew ?_ | refine Kept.drewN ?_ _ | refine Kept.set ?_ (by first | (simp; done) | (simp; omega) | omega) _))) : Kept w X)
    replace st : Own X _ _ (badS q 3).C := eX ▸ ((((st.set 6 _).set 7 _)).is (by rfl))
    clear eX
    clear g6 f6 g7 f7
    go_wp2_with (refine here_load 42 _ rfl ?_; refine wpList_load_own rfl 42 _ rfl _ rfl st _ Tryd.underlying42 rfl (by kernel_rfl) ?_)
    go_wp2_with fail
    refine (cascadeMay_is _ false _ HB.out).mono ?_
    rintro e w1 ⟨rfl, hn⟩
    replace hk := hk.trans hn
    replace st := st.kept hn
    clear hn
    go_wp2_with fail
    refine (cascadeNew_any _).mono ?_
    rintro e w1 ⟨rfl, hn⟩
    replace hk := hk.trans hn
    replace st := st.kept hn
    clear hn
    go_wp2_with fail
    refine (cascadeMay_is newS true _ hnew.out).mono ?_
    rintro e w1 ⟨rfl, hn⟩
    replace hk := hk.trans hn
    replace st := st.kept hn
    clear hn
    go_wp2_with fail
    refine (num_any _ _).mono ?_
    rintro e w1 ⟨rfl, rfl⟩
    go_wp2_with fail
    refine (num_any _ _).mono ?_
    rintro e w1 ⟨rfl, rfl⟩
    go_wp2_with fail
    refine (num_any _ _).mono ?_
    rintro e w1 ⟨rfl, rfl⟩
    go_wp2
    go_ret
    exact ⟨rfl, hk⟩
  · skip
    have g10 := st.at 10 _ rfl
    have f10 := st.free 10
    have g11 := st.at 11 _ rfl
    have f11 := st.free 11
    go_upto_region 33 with fail
    clear px
    clear px_l px_0 px_1
    refine code_eq ?_
    intro X eX
    have hsz := hk.size
    replace hk := (eX ▸ (by first | ((repeat (first | with_reducible exact hk | with_reducible refine Kept.alloc ?_ _ | with_reducible refine Kept.drew ?_ | with_reducible refine Kept.drewN ?_ _ | with_reducible refine Kept.set ?_ (by first | (simp; done) | (simp; omega) | omega) _)); done) | exact hk | exact (hk.alloc _) | exact ((hk.alloc _).alloc _) | exact (((hk.alloc _).alloc _).alloc _) | exact ((((hk.alloc _).alloc _).alloc _).alloc _) | exact (((((hk.alloc _).alloc _).alloc _).alloc _).alloc _) | exact ((((((hk.alloc _).alloc _).alloc _).alloc _).alloc _).alloc _) | (repeat (first | exact hk | refine Kept.alloc ?_ _ | refine Kept.drew ?_ | refine Kept.drewN ?_ _ | refine Kept.set ?_ (by first | (simp; done) | (simp; omega) | omega) _))) : Kept w X)
    replace st : Own X _ _ (badS q 4).C := eX ▸ ((((st.set 10 _).set 11 _)).is (by rfl))
    clear eX
    clear g10 f10 g11 f11
    go_wp2_with (refine here_load 42 _ rfl ?_; refine wpList_load_own rfl 42 _ rfl _ rfl st _ Tryd.underlying42 rfl (by kernel_rfl) ?_)
    go_wp2_with fail
    refine (cascadeMay_is _ false _ HB.out).mono ?_
    rintro e w1 ⟨rfl, hn⟩
    replace hk := hk.trans hn
    replace st := st.kept hn
    clear hn
    go_wp2_with fail
    refine (cascadeNew_any _).mono ?_
    rintro e w1 ⟨rfl, hn⟩
    replace hk := hk.trans hn
    replace st := st.kept hn
    clear hn
    go_wp2_with fail
    refine (cascadeMay_is newS true _ hnew.out).mono ?_
    rintro e w1 ⟨rfl, hn⟩
    replace hk := hk.trans hn
    replace st := st.kept hn
    clear hn
    go_wp2_with fail
    refine (num_any _ _).mono ?_
    rintro e w1 ⟨rfl, rfl⟩
    go_wp2_with fail
    refine (num_any _ _).mono ?_
    rintro e w1 ⟨rfl, rfl⟩
    go_wp2_with fail
    refine (num_any _ _).mono ?_
    rintro e w1 ⟨rfl, rfl⟩
    go_wp2
    go_ret
    exact ⟨rfl, hk⟩
  · skip
    have g20 := st.at 20 _ rfl
    have f20 := st.free 20
    have g21 := st.at 21 _ rfl
    have f21 := st.free 21
    go_upto_region 33 with fail
    clear px
    clear px_l px_0 px_1
    refine code_eq ?_
    intro X eX
    have hsz := hk.size
    replace hk := (eX ▸ (by first | ((repeat (first | with_reducible exact hk | with_reducible refine Kept.alloc ?_ _ | with_reducible refine Kept.drew ?_ | with_reducible refine Kept.drewN ?_ _ | with_reducible refine Kept.set ?_ (by first | (simp; done) | (simp; omega) | omega) _)); done) | exact hk | exact (hk.alloc _) | exact ((hk.alloc _).alloc _) | exact (((hk.alloc _).alloc _).alloc _) | exact ((((hk.alloc _).alloc _).alloc _).alloc _) | exact (((((hk.alloc _).alloc _).alloc _).alloc _).alloc _) | exact ((((((hk.alloc _).alloc _).alloc _).alloc _).alloc _).alloc _) | (repeat (first | exact hk | refine Kept.alloc ?_ _ | refine Kept.drew ?_ | refine Kept.drewN ?_ _ | refine Kept.set ?_ (by first | (simp; done) | (simp; omega) | omega) _))) : Kept w X)
    replace st : Own X _ _ (badS q 5).C := eX ▸ ((((st.set 20 _).set 21 _)).is (by rfl))
    clear eX
    clear g20 f20 g21 f21
    go_wp2_with (refine here_load 42 _ rfl ?_; refine wpList_load_own rfl 42 _ rfl _ rfl st _ Tryd.underlying42 rfl (by kernel_rfl) ?_)
    go_wp2_with fail
    refine (cascadeMay_is _ false _ HB.out).mono ?_
    rintro e w1 ⟨rfl, hn⟩
    replace hk := hk.trans hn
    replace st := st.kept hn
    clear hn
    go_wp2_with fail
    refine (cascadeNew_any _).mono ?_
    rintro e w1 ⟨rfl, hn⟩
    replace hk := hk.trans hn
    replace st := st.kept hn
    clear hn
    go_wp2_with fail
    refine (cascadeMay_is newS true _ hnew.out).mono ?_
    rintro e w1 ⟨rfl, hn⟩
    replace hk := hk.trans hn
    replace st := st.kept hn
    clear hn
    go_wp2_with fail
    refine (num_any _ _).mono ?_
    rintro e w1 ⟨rfl, rfl⟩
    go_wp2_with fail
    refine (num_any _ _).mono ?_
    rintro e w1 ⟨rfl, rfl⟩
    go_wp2_with fail
    refine (num_any _ _).mono ?_
    rintro e w1 ⟨rfl, rfl⟩
    go_wp2
    go_ret
    exact ⟨rfl, hk⟩
  · skip
    have g22 := st.at 22 _ rfl
    have f22 := st.free 22
    have g23 := st.at 23 _ rfl
    have f23 := st.free 23
    go_upto_region 33 with fail
    clear px
    clear px_l px_0 px_1
    refine code_eq ?_
    intro X eX
    have hsz := hk.size
    replace hk := (eX ▸ (by first | ((repeat (first | with_reducible exact hk | with_reducible refine Kept.alloc ?_ _ | with_reducible refine Kept.drew ?_ | with_reducible refine Kept.drewN ?_ _ | with_reducible refine Kept.set ?_ (by first | (simp; done) | (simp; omega) | omega) _)); done) | exact hk | exact (hk.alloc _) | exact ((hk.alloc _).alloc _) | exact (((hk.alloc _).alloc _).alloc _) | exact ((((hk.alloc _).alloc _).alloc _).alloc _) | exact (((((hk.alloc _).alloc _).alloc _).alloc _).alloc _) | exact ((((((hk.alloc _).alloc _).alloc _).alloc _).alloc _).alloc _) | (repeat (first | exact hk | refine Kept.alloc ?_ _ | refine Kept.drew ?_ | refine Kept.drewN ?_ _ | refine Kept.set ?_ (by first | (simp; done) | (simp; omega) | omega) _))) : Kept w X)
    replace st : Own X _ _ (badS q 6).C := eX ▸ ((((st.set 22 _).set 23 _)).is (by rfl))
    clear eX
    clear g22 f22 g23 f23
    go_wp2_with (refine here_load 42 _ rfl ?_; refine wpList_load_own rfl 42 _ rfl _ rfl st _ Tryd.underlying42 rfl (by kernel_rfl) ?_)
    go_wp2_with fail
    refine (cascadeMay_is _ false _ HB.out).mono ?_
    rintro e w1 ⟨rfl, hn⟩
    replace hk := hk.trans hn
    replace st := st.kept hn
    clear hn
    go_wp2_with fail
    refine (cascadeNew_any _).mono ?_
    rintro e w1 ⟨rfl, hn⟩
    replace hk := hk.trans hn
    replace st := st.kept hn
    clear hn
    go_wp2_with fail
    refine (cascadeMay_is newS true _ hnew.out).mono ?_
    rintro e w1 ⟨rfl, hn⟩
    replace hk := hk.trans hn
    replace st := st.kept hn
    clear hn
    go_wp2_with fail
    refine (num_any _ _).mono ?_
    rintro e w1 ⟨rfl, rfl⟩
    go_wp2_with fail
    refine (num_any _ _).mono ?_
    rintro e w1 ⟨rfl, rfl⟩
    go_wp2_with fail
    refine (num_any _ _).mono ?_
    rintro e w1 ⟨rfl, rfl⟩
    go_wp2
    go_ret
    exact ⟨rfl, hk⟩
  · skip
    have g24 := st.at 24 _ rfl
    have f24 := st.free 24
    have g25 := st.at 25 _ rfl
    have f25 := st.free 25
    go_upto_region 33 with fail
    clear px
    clear px_l px_0 px_1
    refine code_eq ?_
    intro X eX
    have hsz := hk.size
    replace hk := (eX ▸ (by first | ((repeat (first | with_reducible exact hk | with_reducible refine Kept.alloc ?_ _ | with_reducible refine Kept.drew ?_ | with_reducible refine Kept.drewN ?_ _ | with_reducible refine Kept.set ?_ (by first | (simp; done) | (simp; omega) | omega) _)); done) | exact hk | exact (hk.alloc _) | exact ((hk.alloc _).alloc _) | exact (((hk.alloc _).alloc _).alloc _) | exact ((((hk.alloc _).alloc _).alloc _).alloc _) | exact (((((hk.alloc _).alloc _).alloc _).alloc _).alloc _) | exact ((((((hk.alloc _).alloc _).alloc _).alloc _).alloc _).alloc _) | (repeat (first | exact hk | refine Kept.alloc ?_ _ | refine Kept.drew ?_ | refine Kept.drewN ?_ _ | refine Kept.set ?_ (by first | (simp; done) | (simp; omega) | omega) _))) : Kept w X)
    replace st : Own X _ _ (badS q 7).C := eX ▸ ((((st.set 24 _).set 25 _)).is (by rfl))
    clear eX
    clear g24 f24 g25 f25
    go_wp2_with (refine here_load 42 _ rfl ?_; refine wpList_load_own rfl 42 _ rfl _ rfl st _ Tryd.underlying42 rfl (by kernel_rfl) ?_)
    go_wp2_with fail
    refine (cascadeMay_is _ false _ HB.out).mono ?_
    rintro e w1 ⟨rfl, hn⟩
    replace hk := hk.trans hn
    replace st := st.kept hn
    clear hn
    go_wp2_with fail
    refine (cascadeNew_any _).mono ?_
    rintro e w1 ⟨rfl, hn⟩
    replace hk := hk.trans hn
    replace st := st.kept hn
    clear hn
    go_wp2_with fail
    refine (cascadeMay_is newS true _ hnew.out).mono ?_
    rintro e w1 ⟨rfl, hn⟩
    replace hk := hk.trans hn
    replace st := st.kept hn
    clear hn
    go_wp2_with fail
    refine (num_any _ _).mono ?_
    rintro e w1 ⟨rfl, rfl⟩
    go_wp2_with fail
    refine (num_any _ _).mono ?_
    rintro e w1 ⟨rfl, rfl⟩
    go_wp2_with fail
    refine (num_any _ _).mono ?_
    rintro e w1 ⟨rfl, rfl⟩
    go_wp2
    go_ret
    exact ⟨rfl, hk⟩
  · skip
    have g26 := st.at 26 _ rfl
    have f26 := st.free 26
    go_upto_region 33 with fail
    clear px
    clear px_l px_0 px_1
    refine code_eq ?_
    intro X eX
    have hsz := hk.size
    replace hk := (eX ▸ (by first | ((repeat (first | with_reducible exact hk | with_reducible refine Kept.alloc ?_ _ | with_reducible refine Kept.drew ?_ | with_reducible refine Kept.drewN ?_ _ | with_reducible refine Kept.set ?_ (by first | (simp; done) | (simp; omega) | omega) _)); done) | exact hk | exact (hk.alloc _) | exact ((hk.alloc _).alloc _) | exact (((hk.alloc _).alloc _).alloc _) | exact ((((hk.alloc _).alloc _).alloc _).alloc _) | exact (((((hk.alloc _).alloc _).alloc _).alloc _).alloc _) | exact ((((((hk.alloc _).alloc _).alloc _).alloc _).alloc _).alloc _) | (repeat (first | exact hk | refine Kept.alloc ?_ _ | refine Kept.drew ?_ | refine Kept.drewN ?_ _ | refine Kept.set ?_ (by first | (simp; done) | (simp; omega) | omega) _))) : Kept w X)
    replace st : Own X _ _ (badS q 8).C := eX ▸ (((st.set 26 _)).is (by rfl))
    clear eX
    clear g26 f26
    go_wp2_with (refine here_load 42 _ rfl ?_; refine wpList_load_own rfl 42 _ rfl _ rfl st _ Tryd.underlying42 rfl (by kernel_rfl) ?_)
    go_wp2_with fail
    refine (cascadeMay_is _ false _ HB.out).mono ?_
    rintro e w1 ⟨rfl, hn⟩
    replace hk := hk.trans hn
    replace st := st.kept hn
    clear hn
    go_wp2_with fail
    refine (cascadeNew_any _).mono ?_
    rintro e w1 ⟨rfl, hn⟩
    replace hk := hk.trans hn
    replace st := st.kept hn
    clear hn
    go_wp2_with fail
    refine (cascadeMay_is newS true _ hnew.out).mono ?_
    rintro e w1 ⟨rfl, hn⟩
    replace hk := hk.trans hn
    replace st := st.kept hn
    clear hn
    go_wp2_with fail
    refine (num_any _ _).mono ?_
    rintro e w1 ⟨rfl, rfl⟩
    go_wp2_with fail
    refine (num_any _ _).mono ?_
    rintro e w1 ⟨rfl, rfl⟩
    go_wp2_with fail
    refine (num_any _ _).mono ?_
    rintro e w1 ⟨rfl, rfl⟩
    go_wp2
    go_ret
    exact ⟨rfl, hk⟩
  · skip
    have g27 := st.at 27 _ rfl
    have f27 := st.free 27
    go_upto_region 33 with fail
    clear px
    clear px_l px_0 px_1
    refine code_eq ?_
    intro X eX
    have hsz := hk.size
    replace hk := (eX ▸ (by first | ((repeat (first | with_reducible exact hk | with_reducible refine Kept.alloc ?_ _ | with_reducible refine Kept.drew ?_ | with_reducible refine Kept.drewN ?_ _ | with_reducible refine Kept.set ?_ (by first | (simp; done) | (simp; omega) | omega) _)); done) | exact hk | exact (hk.alloc _) | exact ((hk.alloc _).alloc _) | exact (((hk.alloc _).alloc _).alloc _) | exact ((((hk.alloc _).alloc _).alloc _).alloc _) | exact (((((hk.alloc _).alloc _).alloc _).alloc _).alloc _) | exact ((((((hk.alloc _).alloc _).alloc _).alloc _).alloc _).alloc _) | (repeat (first | exact hk | refine Kept.alloc ?_ _ | refine Kept.drew ?_ | refine Kept.drewN ?_ _ | refine Kept.set ?_ (by first | (simp; done) | (simp; omega) | omega) _))) : Kept w X)
    replace st : Own X _ _ (badS q 9).C := eX ▸ (((st.set 27 _)).is (by rfl))
    clear eX
    clear g27 f27
    go_wp2_with (refine here_load 42 _ rfl ?_; refine wpList_load_own rfl 42 _ rfl _ rfl st _ Tryd.underlying42 rfl (by kernel_rfl) ?_)
    go_wp2_with fail
    refine (cascadeMay_is _ false _ HB.out).mono ?_
    rintro e w1 ⟨rfl, hn⟩
    replace hk := hk.trans hn
    replace st := st.kept hn
    clear hn
    go_wp2_with fail
    refine (cascadeNew_any _).mono ?_
    rintro e w1 ⟨rfl, hn⟩
    replace hk := hk.trans hn
    replace st := st.kept hn
    clear hn
    go_wp2_with fail
    refine (cascadeMay_is newS true _ hnew.out).mono ?_
    rintro e w1 ⟨rfl, hn⟩
    replace hk := hk.trans hn
    replace st := st.kept hn
    clear hn
    go_wp2_with fail
    refine (num_any _ _).mono ?_
    rintro e w1 ⟨rfl, rfl⟩
    go_wp2_with fail
    refine (num_any _ _).mono ?_
    rintro e w1 ⟨rfl, rfl⟩
    go_wp2_with fail
    refine (num_any _ _).mono ?_
    rintro e w1 ⟨rfl, rfl⟩
    go_wp2
    go_ret
    exact ⟨rfl, hk⟩
  · skip
    have g28 := st.at 28 _ rfl
    have f28 := st.free 28
    go_upto_region 33 with fail
    clear px
    clear px_l px_0 px_1
    refine code_eq ?_
    intro X eX
    have hsz := hk.size
    replace hk := (eX ▸ (by first | ((repeat (first | with_reducible exact hk | with_reducible refine Kept.alloc ?_ _ | with_reducible refine Kept.drew ?_ | with_reducible refine Kept.drewN ?_ _ | with_reducible refine Kept.set ?_ (by first | (simp; done) | (simp; omega) | omega) _)); done) | exact hk | exact (hk.alloc _) | exact ((hk.alloc _).alloc _) | exact (((hk.alloc _).alloc _).alloc _) | exact ((((hk.alloc _).alloc _).alloc _).alloc _) | exact (((((hk.alloc _).alloc _).alloc _).alloc _).alloc _) | exact ((((((hk.alloc _).alloc _).alloc _).alloc _).alloc _).alloc _) | (repeat (first | exact hk | refine Kept.alloc ?_ _ | refine Kept.drew ?_ | refine Kept.drewN ?_ _ | refine Kept.set ?_ (by first | (simp; done) | (simp; omega) | omega) _))) : Kept w X)
    replace st : Own X _ _ (badS q 10).C := eX ▸ (((st.set 28 _)).is (by rfl))
    clear eX
    clear g28 f28
    go_wp2_with (refine here_load 42 _ rfl ?_; refine wpList_load_own rfl 42 _ rfl _ rfl st _ Tryd.underlying42 rfl (by kernel_rfl) ?_)
    go_wp2_with fail
    refine (cascadeMay_is _ false _ HB.out).mono ?_
    rintro e w1 ⟨rfl, hn⟩
    replace hk := hk.trans hn
    replace st := st.kept hn
    clear hn
    go_wp2_with fail
    refine (cascadeNew_any _).mono ?_
    rintro e w1 ⟨rfl, hn⟩
    replace hk := hk.trans hn
    replace st := st.kept hn
    clear hn
    go_wp2_with fail
    refine (cascadeMay_is newS true _ hnew.out).mono ?_
    rintro e w1 ⟨rfl, hn⟩
    replace hk := hk.trans hn
    replace st := st.kept hn
    clear hn
    go_wp2_with fail
    refine (num_any _ _).mono ?_
    rintro e w1 ⟨rfl, rfl⟩
    go_wp2_with fail
    refine (num_any _ _).mono ?_
    rintro e w1 ⟨rfl, rfl⟩
    go_wp2_with fail
    refine (num_any _ _).mono ?_
    rintro e w1 ⟨rfl, rfl⟩
    go_wp2
    go_ret
    exact ⟨rfl, hk⟩
  · skip
    have g30 := st.at 30 _ rfl
    have f30 := st.free 30
    go_upto_region 33 with fail
    clear px
    clear px_l px_0 px_1
    refine code_eq ?_
    intro X eX
    have hsz := hk.size
    replace hk := (eX ▸ (by first | ((repeat (first | with_reducible exact hk | with_reducible refine Kept.alloc ?_ _ | with_reducible refine Kept.drew ?_ | with_reducible refine Kept.drewN ?_ _ | with_reducible refine Kept.set ?_ (by first | (simp; done) | (simp; omega) | omega) _)); done) | exact hk | exact (hk.alloc _) | exact ((hk.alloc _).alloc _) | exact (((hk.alloc _).alloc _).alloc _) | exact ((((hk.alloc _).alloc _).alloc _).alloc _) | exact (((((hk.alloc _).alloc _).alloc _).alloc _).alloc _) | exact ((((((hk.alloc _).alloc _).alloc _).alloc _).alloc _).alloc _) | (repeat (first | exact hk | refine Kept.alloc ?_ _ | refine Kept.drew ?_ | refine Kept.drewN ?_ _ | refine Kept.set ?_ (by first | (simp; done) | (simp; omega) | omega) _))) : Kept w X)
    replace st : Own X _ _ (badS q 11).C := eX ▸ (((st.set 30 _)).is (by rfl))
    clear eX
    clear g30 f30
    go_wp2_with (refine here_load 42 _ rfl ?_; refine wpList_load_own rfl 42 _ rfl _ rfl st _ Tryd.underlying42 rfl (by kernel_rfl) ?_)
    go_wp2_with fail
    refine (cascadeMay_is _ false _ HB.out).mono ?_
    rintro e w1 ⟨rfl, hn⟩
    replace hk := hk.trans hn
    replace st := st.kept hn
    clear hn
    go_wp2_with fail
    refine (cascadeNew_any _).mono ?_
    rintro e w1 ⟨rfl, hn⟩
    replace hk := hk.trans hn
    replace st := st.kept hn
    clear hn
    go_wp2_with fail
    refine (cascadeMay_is newS true _ hnew.out).mono ?_
    rintro e w1 ⟨rfl, hn⟩
    replace hk := hk.trans hn
    replace st := st.kept hn
    clear hn
    go_wp2_with fail
    refine (num_any _ _).mono ?_
    rintro e w1 ⟨rfl, rfl⟩
    go_wp2_with fail
    refine (num_any _ _).mono ?_
    rintro e w1 ⟨rfl, rfl⟩
    go_wp2_with fail
    refine (num_any _ _).mono ?_
    rintro e w1 ⟨rfl, rfl⟩
    go_wp2
    go_ret
    exact ⟨rfl, hk⟩

theorem cascadeForms_main1 (a q b : Int) (n : Nat) (hq : bits .and .i64 b 1023 = q) (q0 : 0 ≤ q) (q1 : q ≤ 1023) (hj : bits .and .i64 a 1 = 1) (hm : (IntKind.u64.wrap a).tmod 12 = (n : Int)) (hn : n < 12) (w : World) (ht : TabN w) (hp : Pow w) :
    Calls Tryd.prog 7 #[.int .i64 a, .int .i64 b] w fun e w' => e = .returned (.bool true) ∧ Kept w w' := by
  have HB := Lib.hid (bad_mayS q0 q1 n hn)
  have hbm : modeMayB 0 (1 + (1 + q)) = false := by
    cases hb : modeMayB 0 (1 + (1 + q)) with
    | false => rfl
    | true => have := (modeMayB_true.1 hb).2; omega
  have H1 := Lib.hid (fun wx => apply_mode 0 (1 + (1 + q)) none 0 0 wx hbm)
  obtain ⟨M, hM⟩ : ∃ M, (16 + (1 + q)).toNat = M := ⟨_, rfl⟩
  have hmk := fun wx => makeDecls (16 + (1 + q)) M (by omega) (by omega) hM wx
  have H2 := Lib.hid (fun wx b => apply_long 0 0 (some ⟨b, 0, none⟩) M M wx rfl (by omega))
  have hpo : inB 0 28 (28 + (1 + q)) = false := inB_false.2 (by omega)
  have h3 : applyS 0 0 2 (litP [(0, ⟨#[53]⟩), (28 + (1 + q), ⟨#[53]⟩)]) (litT [(0, ⟨#[53]⟩), (28 + (1 + q), ⟨#[53]⟩)]) = (zeroS, 1000) := if_neg (by
    unfold declsB
    rw [propsB_no (k := 1) (by decide) hpo]
    simp)
  have H3 := Lib.hid (fun wx u (hu : RV 2 wx u 2 (declC (litP [(0, ⟨#[53]⟩), (28 + (1 + q), ⟨#[53]⟩)]) (litT [(0, ⟨#[53]⟩), (28 + (1 + q), ⟨#[53]⟩)]))) (hx : TabN wx) (hy : Pow wx) => apply_is 0 0 u 2 (litP [(0, ⟨#[53]⟩), (28 + (1 + q), ⟨#[53]⟩)]) (litT [(0, ⟨#[53]⟩), (28 + (1 + q), ⟨#[53]⟩)]) zeroS 1000 wx hu (by decide) hx hy (fun i _ => litT_size rfl i) h3)
  clear hbm hM hpo h3
  have hnew := Lib.hid (show mayS newS = true by kernel_rfl)
  have hk : Kept w w := Kept.refl w
  go_enter Tryd.func7, Tryd.ntmps7
  go_wp2_with fail
  refine (awake10_any _ (ht.kept hk) (hp.kept hk)).mono ?_
  rintro e w1 ⟨rfl, hn⟩
  replace hk := hk.trans hn
  clear hn
  go_wp2_with fail
  refine (H1.out _).mono ?_
  rintro e w1 ⟨rfl, hn⟩
  replace hk := hk.trans hn
  clear hn
  go_wp2_with (first | (refine here_store 42 _ _ rfl ?_; refine wpList_store_own rfl 42 _ _ rfl _ _ rfl rfl (Own.new _ _ _) (by rfl) (by kernel_rfl) (by rfl) ?_; intro X e1 hoX hkX; have hsz := hk.size; replace hk := hkX _ (hk.alloc _) (by first | omega | (simp; omega)); clear hoX hkX))
  go_wp2_with fail
  refine with_boxes1 ?_
  intro X hX B0
  have hsz := hk.size
  replace hk := hk.trans hX
  replace e1 := e1.kept hX
  clear hX B0
  refine (H2.out _ _).mono ?_
  rintro e w1 ⟨rfl, hn⟩
  replace hk := hk.trans hn
  replace e1 := e1.kept hn
  clear hn
  go_wp2_with (first | (refine here_store 42 _ _ rfl ?_; refine wpList_store_own rfl 42 _ _ rfl _ _ rfl rfl (Own.new _ _ _) (by rfl) (by kernel_rfl) (by rfl) ?_; intro X e2 hoX hkX; have hsz := hk.size; replace hk := hkX _ (hk.alloc _) (by first | omega | (simp; omega)); have e1_l := e1.lt; replace e1 := (e1.alloc _).same (hoX _ (by first | omega | (simp; omega))); clear hoX hkX))
  clear hmk
  go_wp2_with fail
  refine with_boxes2 ?_
  intro X hX B0 e
  have hsz := hk.size
  replace hk := hk.trans hX
  replace e1 := e1.kept hX
  replace e2 := e2.kept hX
  clear hX B0
  refine (H3.out _ _ (rv_lit e 2 2 (by decide) (declC (litP [(0, ⟨#[53]⟩), (28 + (1 + q), ⟨#[53]⟩)]) (litT [(0, ⟨#[53]⟩), (28 + (1 + q), ⟨#[53]⟩)])) rfl) (ht.kept hk) (hp.kept hk)).mono ?_
  rintro e w1 ⟨rfl, hn⟩
  replace hk := hk.trans hn
  replace e1 := e1.kept hn
  replace e2 := e2.kept hn
  replace e := e.kept hn
  clear hn
  clear e
  go_wp2_with (first | (refine here_store 42 _ _ rfl ?_; refine wpList_store_own rfl 42 _ _ rfl _ _ rfl rfl (Own.new _ _ _) (by rfl) (by kernel_rfl) (by rfl) ?_; intro X e3 hoX hkX; have hsz := hk.size; replace hk := hkX _ (hk.alloc _) (by first | omega | (simp; omega)); have e1_l := e1.lt; replace e1 := (e1.alloc _).same (hoX _ (by first | omega | (simp; omega))); have e2_l := e2.lt; replace e2 := (e2.alloc _).same (hoX _ (by first | omega | (simp; omega))); clear hoX hkX))
  go_wp2_with fail
  refine (cascadeNew_any _).mono ?_
  rintro e w1 ⟨rfl, hn⟩
  replace hk := hk.trans hn
  replace e1 := e1.kept hn
  replace e2 := e2.kept hn
  replace e3 := e3.kept hn
  clear hn
  clear e1 e2 e3
  go_upto_region 9 with (first | (refine here_store 42 _ _ rfl ?_; refine wpList_store_own rfl 42 _ _ rfl _ _ rfl rfl (Own.new _ _ _) (by rfl) (by kernel_rfl) (by rfl) ?_; intro X st hoX hkX; have hsz := hk.size; replace hk := hkX _ (hk.alloc _) (by first | omega | (simp; omega)); clear hoX hkX))
  refine code_boxes1 ?_
  intro X hX px
  have hsz := hk.size
  replace hk := hk.trans hX
  replace st := st.kept hX
  clear hX
  replace px_l := px.lt
  replace px_0 := px.at 0 _ rfl
  replace px_1 := px.at 1 _ rfl
  have st_l := st.lt
  rcases (by omega : n = 0 ∨ n = 1 ∨ n = 2 ∨ n = 3 ∨ n = 4 ∨ n = 5 ∨ n = 6 ∨ n = 7 ∨ n = 8 ∨ n = 9 ∨ n = 10 ∨ n = 11) with rfl | rfl | rfl | rfl | rfl | rfl | rfl | rfl | rfl | rfl | rfl | rfl
  · skip
    have g0 := st.at 0 _ rfl
    have f0 := st.free 0
    have g1 := st.at 1 _ rfl
    have f1 := st.free 1
    go_upto_region 33 with fail
    clear px
    clear px_l px_0 px_1
    refine code_eq ?_
    intro X eX
    have hsz := hk.size
    replace hk := (eX ▸ (by first | ((repeat (first | with_reducible exact hk | with_reducible refine Kept.alloc ?_ _ | with_reducible refine Kept.drew ?_ | with_reducible refine Kept.drewN ?_ _ | with_reducible refine Kept.set ?_ (by first | (simp; done) | (simp; omega) | omega) _)); done) | exact hk | exact (hk.alloc _) | exact ((hk.alloc _).alloc _) | exact (((hk.alloc _).alloc _).alloc _) | exact ((((hk.alloc _).alloc _).alloc _).alloc _) | exact (((((hk.alloc _).alloc _).alloc _).alloc _).alloc _) | exact ((((((hk.alloc _).alloc _).alloc _).alloc _).alloc _).alloc _) | (repeat (first | exact hk | refine Kept.alloc ?_ _ | refine Kept.drew ?_ | refine Kept.drewN ?_ _ | refine Kept.set ?_ (by first | (simp; done) | (simp; omega) | omega) _))) : Kept w X)
    replace st : Own X _ _ (badS q 0).C := eX ▸ ((((st.set 0 _).set 1 _)).is (by rfl))
    clear eX
    clear g0 f0 g1 f1
    go_wp2_with (refine here_load 42 _ rfl ?_; refine wpList_load_own rfl 42 _ rfl _ rfl st _ Tryd.underlying42 rfl (by kernel_rfl) ?_)
    go_wp2_with fail
    refine (cascadeMay_is _ false _ HB.out).mono ?_
    rintro e w1 ⟨rfl, hn⟩
    replace hk := hk.trans hn
    replace st := st.kept hn
    clear hn
    go_wp2_with fail
    refine (cascadeNew_any _).mono ?_
    rintro e w1 ⟨rfl, hn⟩
    replace hk := hk.trans hn
    replace st := st.kept hn
    clear hn
    go_wp2_with fail
    refine (cascadeMay_is newS true _ hnew.out).mono ?_
    rintro e w1 ⟨rfl, hn⟩
    replace hk := hk.trans hn
    replace st := st.kept hn
    clear hn
    go_wp2_with fail
    refine (num_any _ _).mono ?_
    rintro e w1 ⟨rfl, rfl⟩
    go_wp2_with fail
    refine (num_any _ _).mono ?_
    rintro e w1 ⟨rfl, rfl⟩
    go_wp2_with fail
    refine (num_any _ _).mono ?_
    rintro e w1 ⟨rfl, rfl⟩
    go_wp2
    go_ret
    exact ⟨rfl, hk⟩
  · skip
    have g2 := st.at 2 _ rfl
    have f2 := st.free 2
    have g3 := st.at 3 _ rfl
    have f3 := st.free 3
    go_upto_region 33 with fail
    clear px
    clear px_l px_0 px_1
    refine code_eq ?_
    intro X eX
    have hsz := hk.size
    replace hk := (eX ▸ (by first | ((repeat (first | with_reducible exact hk | with_reducible refine Kept.alloc ?_ _ | with_reducible refine Kept.drew ?_ | with_reducible refine Kept.drewN ?_ _ | with_reducible refine Kept.set ?_ (by first | (simp; done) | (simp; omega) | omega) _)); done) | exact hk | exact (hk.alloc _) | exact ((hk.alloc _).alloc _) | exact (((hk.alloc _).alloc _).alloc _) | exact ((((hk.alloc _).alloc _).alloc _).alloc _) | exact (((((hk.alloc _).alloc _).alloc _).alloc _).alloc _) | exact ((((((hk.alloc _).alloc _).alloc _).alloc _).alloc _).alloc _) | (repeat (first | exact hk | refine Kept.alloc ?_ _ | refine Kept.drew ?_ | refine Kept.drewN ?_ _ | refine Kept.set ?_ (by first | (simp; done) | (simp; omega) | omega) _))) : Kept w X)
    replace st : Own X _ _ (badS q 1).C := eX ▸ ((((st.set 2 _).set 3 _)).is (by rfl))
    clear eX
    clear g2 f2 g3 f3
    go_wp2_with (refine here_load 42 _ rfl ?_; refine wpList_load_own rfl 42 _ rfl _ rfl st _ Tryd.underlying42 rfl (by kernel_rfl) ?_)
    go_wp2_with fail
    refine (cascadeMay_is _ false _ HB.out).mono ?_
    rintro e w1 ⟨rfl, hn⟩
    replace hk := hk.trans hn
    replace st := st.kept hn
    clear hn
    go_wp2_with fail
    refine (cascadeNew_any _).mono ?_
    rintro e w1 ⟨rfl, hn⟩
    replace hk := hk.trans hn
    replace st := st.kept hn
    clear hn
    go_wp2_with fail
    refine (cascadeMay_is newS true _ hnew.out).mono ?_
    rintro e w1 ⟨rfl, hn⟩
    replace hk := hk.trans hn
    replace st := st.kept hn
    clear hn
    go_wp2_with fail
    refine (num_any _ _).mono ?_
    rintro e w1 ⟨rfl, rfl⟩
    go_wp2_with fail
    refine (num_any _ _).mono ?_
    rintro e w1 ⟨rfl, rfl⟩
    go_wp2_with fail
    refine (num_any _ _).mono ?_
    rintro e w1 ⟨rfl, rfl⟩
    go_wp2
    go_ret
    exact ⟨rfl, hk⟩
  · skip
    have g4 := st.at 4 _ rfl
    have f4 := st.free 4
    have g5 := st.at 5 _ rfl
    have f5 := st.free 5
    go_upto_region 33 with fail
    clear px
    clear px_l px_0 px_1
    refine code_eq ?_
    intro X eX
    have hsz := hk.size
    replace hk := (eX ▸ (by first | ((repeat (first | with_reducible exact hk | with_reducible refine Kept.alloc ?_ _ | with_reducible refine Kept.drew ?_ | with_reducible refine Kept.drewN ?_ _ | with_reducible refine Kept.set ?_ (by first | (simp; done) | (simp; omega) | omega) _)); done) | exact hk | exact (hk.alloc _) | exact ((hk.alloc _).alloc _) | exact (((hk.alloc _).alloc _).alloc _) | exact ((((hk.alloc _).alloc _).alloc _).alloc _) | exact (((((hk.alloc _).alloc _).alloc _).alloc _).alloc _) | exact ((((((hk.alloc _).alloc _).alloc _).alloc _).alloc _).alloc _) | (repeat (first | exact hk | refine Kept.alloc ?_ _ | refine Kept.drew ?_ | refine Kept.drewN ?_ _ | refine Kept.set ?_ (by first | (simp; done) | (simp; omega) | omega) _))) : Kept w X)
    replace st : Own X _ _ (badS q 2).C := eX ▸ ((((st.set 4 _).set 5 _)).is (by rfl))
    clear eX
    clear g4 f4 g5 f5
    go_wp2_with (refine here_load 42 _ rfl ?_; refine wpList_load_own rfl 42 _ rfl _ rfl st _ Tryd.underlying42 rfl (by kernel_rfl) ?_)
    go_wp2_with fail
    refine (cascadeMay_is _ false _ HB.out).mono ?_
    rintro e w1 ⟨rfl, hn⟩
    replace hk := hk.trans hn
    replace st := st.kept hn
    clear hn
    go_wp2_with fail
    refine (cascadeNew_any _).mono ?_
    rintro e w1 ⟨rfl, hn⟩
    replace hk := hk.trans hn
    replace st := st.kept hn
    clear hn
    go_wp2_with fail
    refine (cascadeMay_is newS true _ hnew.out).mono ?_
    rintro e w1 ⟨rfl, hn⟩
    replace hk := hk.trans hn
    replace st := st.kept hn
    clear hn
    go_wp2_with fail
    refine (num_any _ _).mono ?_
    rintro e w1 ⟨rfl, rfl⟩
    go_wp2_with fail
    refine (num_any _ _).mono ?_
    rintro e w1 ⟨rfl, rfl⟩
    go_wp2_with fail
    refine (num_any _ _).mono ?_
    rintro e w1 ⟨rfl, rfl⟩
    go_wp2
    go_ret
    exact ⟨rfl, hk⟩
  · skip
    have g6 := st.at 6 _ rfl
    have f6 := st.free 6
    have g7 := st.at 7 _ rfl
    have f7 := st.free 7
    go_upto_region 33 with fail
    clear px
    clear px_l px_0 px_1
    refine code_eq ?_
    intro X eX
    have hsz := hk.size
    replace hk := (eX ▸ (by first | ((repeat (first | with_reducible exact hk | with_reducible refine Kept.alloc ?_ _ | with_reducible refine Kept.drew ?_ | with_reducible refine Kept.drewN ?_ _ | with_reducible refine Kept.set ?_ (by first | (simp; done) | (simp; omega) | omega) _)); done) | exact hk | exact (hk.alloc _) | exact ((hk.alloc _).alloc _) | exact (((hk.alloc _).alloc _).alloc _) | exact ((((hk.alloc _).alloc _).alloc _).alloc _) | exact (((((hk.alloc _).alloc _).alloc _).alloc _).alloc _) | exact ((((((hk.alloc _).alloc _).alloc _).alloc _).alloc _).alloc _) | (repeat (first | exact hk | refine Kept.alloc ?_ _ | refine Kept.drew ?_ | refine Kept.drewN ?_ _ | refine Kept.set ?_ (by first | (simp; done) | (simp; omega) | omega) _))) : Kept w X)
    replace st : Own X _ _ (badS q 3).C := eX ▸ ((((st.set 6 _).set 7 _)).is (by rfl))
    clear eX
    clear g6 f6 g7 f7
    go_wp2_with (refine here_load 42 _ rfl ?_; refine wpList_load_own rfl 42 _ rfl _ rfl st _ Tryd.underlying42 rfl (by kernel_rfl) ?_)
    go_wp2_with fail
    refine (cascadeMay_is _ false _ HB.out).mono ?_
    rintro e w1 ⟨rfl, hn⟩
    replace hk := hk.trans hn
    replace st := st.kept hn
    clear hn
    go_wp2_with fail
    refine (cascadeNew_any _).mono ?_
    rintro e w1 ⟨rfl, hn⟩
    replace hk := hk.trans hn
    replace st := st.kept hn
    clear hn
    go_wp2_with fail
    refine (cascadeMay_is newS true _ hnew.out).mono ?_
    rintro e w1 ⟨rfl, hn⟩
    replace hk := hk.trans hn
    replace st := st.kept hn
    clear hn
    go_wp2_with fail
    refine (num_any _ _).mono ?_
    rintro e w1 ⟨rfl, rfl⟩
    go_wp2_with fail
    refine (num_any _ _).mono ?_
    rintro e w1 ⟨rfl, rfl⟩
    go_wp2_with fail
    refine (num_any _ _).mono ?_
    rintro e w1 ⟨rfl, rfl⟩
    go_wp2
    go_ret
    exact ⟨rfl, hk⟩
  · skip
    have g10 := st.at 10 _ rfl
    have f10 := st.free 10
    have g11 := st.at 11 _ rfl
    have f11 := st.free 11
    go_upto_region 33 with fail
    clear px
    clear px_l px_0 px_1
    refine code_eq ?_
    intro X eX
    have hsz := hk.size
    replace hk := (eX ▸ (by first | ((repeat (first | with_reducible exact hk | with_reducible refine Kept.alloc ?_ _ | with_reducible refine Kept.drew ?_ | with_reducible refine Kept.drewN ?_ _ | with_reducible refine Kept.set ?_ (by first | (simp; done) | (simp; omega) | omega) _)); done) | exact hk | exact (hk.alloc _) | exact ((hk.alloc _).alloc _) | exact (((hk.alloc _).alloc _).alloc _) | exact ((((hk.alloc _).alloc _).alloc _).alloc _) | exact (((((hk.alloc _).alloc _).alloc _).alloc _).alloc _) | exact ((((((hk.alloc _).alloc _).alloc _).alloc _).alloc _).alloc _) | (repeat (first | exact hk | refine Kept.alloc ?_ _ | refine Kept.drew ?_ | refine Kept.drewN ?_ _ | refine Kept.set ?_ (by first | (simp; done) | (simp; omega) | omega) _))) : Kept w X)
    replace st : Own X _ _ (badS q 4).C := eX ▸ ((((st.set 10 _).set 11 _)).is (by rfl))
    clear eX
    clear g10 f10 g11 f11
    go_wp2_with (refine here_load 42 _ rfl ?_; refine wpList_load_own rfl 42 _ rfl _ rfl st _ Tryd.underlying42 rfl (by kernel_rfl) ?_)
    go_wp2_with fail
    refine (cascadeMay_is _ false _ HB.out).mono ?_
    rintro e w1 ⟨rfl, hn⟩
    replace hk := hk.trans hn
    replace st := st.kept hn
    clear hn
    go_wp2_with fail
    refine (cascadeNew_any _).mono ?_
    rintro e w1 ⟨rfl, hn⟩
    replace hk := hk.trans hn
    replace st := st.kept hn
    clear hn
    go_wp2_with fail
    refine (cascadeMay_is newS true _ hnew.out).mono ?_
    rintro e w1 ⟨rfl, hn⟩
    replace hk := hk.trans hn
    replace st := st.kept hn
    clear hn
    go_wp2_with fail
    refine (num_any _ _).mono ?_
    rintro e w1 ⟨rfl, rfl⟩
    go_wp2_with fail
    refine (num_any _ _).mono ?_
    rintro e w1 ⟨rfl, rfl⟩
    go_wp2_with fail
    refine (num_any _ _).mono ?_
    rintro e w1 ⟨rfl, rfl⟩
    go_wp2
    go_ret
    exact ⟨rfl, hk⟩
  · skip
    have g20 := st.at 20 _ rfl
    have f20 := st.free 20
    have g21 := st.at 21 _ rfl
    have f21 := st.free 21
    go_upto_region 33 with fail
    clear px
    clear px_l px_0 px_1
    refine code_eq ?_
    intro X eX
    have hsz := hk.size
    replace hk := (eX ▸ (by first | ((repeat (first | with_reducible exact hk | with_reducible refine Kept.alloc ?_ _ | with_reducible refine Kept.drew ?_ | with_reducible refine Kept.drewN ?_ _ | with_reducible refine Kept.set ?_ (by first | (simp; done) | (simp; omega) | omega) _)); done) | exact hk | exact (hk.alloc _) | exact ((hk.alloc _).alloc _) | exact (((hk.alloc _).alloc _).alloc _) | exact ((((hk.alloc _).alloc _).alloc _).alloc _) | exact (((((hk.alloc _).alloc _).alloc _).alloc _).alloc _) | exact ((((((hk.alloc _).alloc _).alloc _).alloc _).alloc _).alloc _) | (repeat (first | exact hk | refine Kept.alloc ?_ _ | refine Kept.drew ?_ | refine Kept.drewN ?_ _ | refine Kept.set ?_ (by first | (simp; done) | (simp; omega) | omega) _))) : Kept w X)
    replace st : Own X _ _ (badS q 5).C := eX ▸ ((((st.set 20 _).set 21 _)).is (by rfl))
    clear eX
    clear g20 f20 g21 f21
    go_wp2_with (refine here_load 42 _ rfl ?_; refine wpList_load_own rfl 42 _ rfl _ rfl st _ Tryd.underlying42 rfl (by kernel_rfl) ?_)
    go_wp2_with fail
    refine (cascadeMay_is _ false _ HB.out).mono ?_
    rintro e w1 ⟨rfl, hn⟩
    replace hk := hk.trans hn
    replace st := st.kept hn
    clear hn
    go_wp2_with fail
    refine (cascadeNew_any _).mono ?_
    rintro e w1 ⟨rfl, hn⟩
    replace hk := hk.trans hn
    replace st := st.kept hn
    clear hn
    go_wp2_with fail
    refine (cascadeMay_is newS true _ hnew.out).mono ?_
    rintro e w1 ⟨rfl, hn⟩
    replace hk := hk.trans hn
    replace st := st.kept hn
    clear hn
    go_wp2_with fail
    refine (num_any _ _).mono ?_
    rintro e w1 ⟨rfl, rfl⟩
    go_wp2_with fail
    refine (num_any _ _).mono ?_
    rintro e w1 ⟨rfl, rfl⟩
    go_wp2_with fail
    refine (num_any _ _).mono ?_
    rintro e w1 ⟨rfl, rfl⟩
    go_wp2
    go_ret
    exact ⟨rfl, hk⟩
  · skip
    have g22 := st.at 22 _ rfl
    have f22 := st.free 22
    have g23 := st.at 23 _ rfl
    have f23 := st.free 23
    go_upto_region 33 with fail
    clear px
    clear px_l px_0 px_1
    refine code_eq ?_
    intro X eX
    have hsz := hk.size
    replace hk := (eX ▸ (by first | ((repeat (first | with_reducible exact hk | with_reducible refine Kept.alloc ?_ _ | with_reducible refine Kept.drew ?_ | with_reducible refine Kept.drewN ?_ _ | with_reducible refine Kept.set ?_ (by first | (simp; done) | (simp; omega) | omega) _)); done) | exact hk | exact (hk.alloc _) | exact ((hk.alloc _).alloc _) | exact (((hk.alloc _).alloc _).alloc _) | exact ((((hk.alloc _).alloc _).alloc _).alloc _) | exact (((((hk.alloc _).alloc _).alloc _).alloc _).alloc _) | exact ((((((hk.alloc _).alloc _).alloc _).alloc _).alloc _).alloc _) | (repeat (first | exact hk | refine Kept.alloc ?_ _ | refine Kept.drew ?_ | refine Kept.drewN ?_ _ | refine Kept.set ?_ (by first | (simp; done) | (simp; omega) | omega) _))) : Kept w X)
    replace st : Own X _ _ (badS q 6).C := eX ▸ ((((st.set 22 _).set 23 _)).is (by rfl))
    clear eX
    clear g22 f22 g23 f23
    go_wp2_with (refine here_load 42 _ rfl ?_; refine wpList_load_own rfl 42 _ rfl _ rfl st _ Tryd.underlying42 rfl (by kernel_rfl) ?_)
    go_wp2_with fail
    refine (cascadeMay_is _ false _ HB.out).mono ?_
    rintro e w1 ⟨rfl, hn⟩
    replace hk := hk.trans hn
    replace st := st.kept hn
    clear hn
    go_wp2_with fail
    refine (cascadeNew_any _).mono ?_
    rintro e w1 ⟨rfl, hn⟩
    replace hk := hk.trans hn
    replace st := st.kept hn
    clear hn
    go_wp2_with fail
    refine (cascadeMay_is newS true _ hnew.out).mono ?_
    rintro e w1 ⟨rfl, hn⟩
    replace hk := hk.trans hn
    replace st := st.kept hn
    clear hn
    go_wp2_with fail
    refine (num_any _ _).mono ?_
    rintro e w1 ⟨rfl, rfl⟩
    go_wp2_with fail
    refine (num_any _ _).mono ?_
    rintro e w1 ⟨rfl, rfl⟩
    go_wp2_with fail
    refine (num_any _ _).mono ?_
    rintro e w1 ⟨rfl, rfl⟩
    go_wp2
    go_ret
    exact ⟨rfl, hk⟩
  · skip
    have g24 := st.at 24 _ rfl
    have f24 := st.free 24
    have g25 := st.at 25 _ rfl
    have f25 := st.free 25
    go_upto_region 33 with fail
    clear px
    clear px_l px_0 px_1
    refine code_eq ?_
    intro X eX
    have hsz := hk.size
    replace hk := (eX ▸ (by first | ((repeat (first | with_reducible exact hk | with_reducible refine Kept.alloc ?_ _ | with_reducible refine Kept.drew ?_ | with_reducible refine Kept.drewN ?_ _ | with_reducible refine Kept.set ?_ (by first | (simp; done) | (simp; omega) | omega) _)); done) | exact hk | exact (hk.alloc _) | exact ((hk.alloc _).alloc _) | exact (((hk.alloc _).alloc _).alloc _) | exact ((((hk.alloc _).alloc _).alloc _).alloc _) | exact (((((hk.alloc _).alloc _).alloc _).alloc _).alloc _) | exact ((((((hk.alloc _).alloc _).alloc _).alloc _).alloc _).alloc _) | (repeat (first | exact hk | refine Kept.alloc ?_ _ | refine Kept.drew ?_ | refine Kept.drewN ?_ _ | refine Kept.set ?_ (by first | (simp; done) | (simp; omega) | omega) _))) : Kept w X)
    replace st : Own X _ _ (badS q 7).C := eX ▸ ((((st.set 24 _).set 25 _)).is (by rfl))
    clear eX
    clear g24 f24 g25 f25
    go_wp2_with (refine here_load 42 _ rfl ?_; refine wpList_load_own rfl 42 _ rfl _ rfl st _ Tryd.underlying42 rfl (by kernel_rfl) ?_)
    go_wp2_with fail
    refine (cascadeMay_is _ false _ HB.out).mono ?_
    rintro e w1 ⟨rfl, hn⟩
    replace hk := hk.trans hn
    replace st := st.kept hn
    clear hn
    go_wp2_with fail
    refine (cascadeNew_any _).mono ?_
    rintro e w1 ⟨rfl, hn⟩
    replace hk := hk.trans hn
    replace st := st.kept hn
    clear hn
    go_wp2_with fail
    refine (cascadeMay_is newS true _ hnew.out).mono ?_
    rintro e w1 ⟨rfl, hn⟩
    replace hk := hk.trans hn
    replace st := st.kept hn
    clear hn
    go_wp2_with fail
    refine (num_any _ _).mono ?_
    rintro e w1 ⟨rfl, rfl⟩
    go_wp2_with fail
    refine (num_any _ _).mono ?_
    rintro e w1 ⟨rfl, rfl⟩
    go_wp2_with fail
    refine (num_any _ _).mono ?_
    rintro e w1 ⟨rfl, rfl⟩
    go_wp2
    go_ret
    exact ⟨rfl, hk⟩
  · skip
    have g26 := st.at 26 _ rfl
    have f26 := st.free 26
    go_upto_region 33 with fail
    clear px
    clear px_l px_0 px_1
    refine code_eq ?_
    intro X eX
    have hsz := hk.size
    replace hk := (eX ▸ (by first | ((repeat (first | with_reducible exact hk | with_reducible refine Kept.alloc ?_ _ | with_reducible refine Kept.drew ?_ | with_reducible refine Kept.drewN ?_ _ | with_reducible refine Kept.set ?_ (by first | (simp; done) | (simp; omega) | omega) _)); done) | exact hk | exact (hk.alloc _) | exact ((hk.alloc _).alloc _) | exact (((hk.alloc _).alloc _).alloc _) | exact ((((hk.alloc _).alloc _).alloc _).alloc _) | exact (((((hk.alloc _).alloc _).alloc _).alloc _).alloc _) | exact ((((((hk.alloc _).alloc _).alloc _).alloc _).alloc _).alloc _) | (repeat (first | exact hk | refine Kept.alloc ?_ _ | refine Kept.drew ?_ | refine Kept.drewN ?_ _ | refine Kept.set ?_ (by first | (simp; done) | (simp; omega) | omega) _))) : Kept w X)
    replace st : Own X _ _ (badS q 8).C := eX ▸ (((st.set 26 _)).is (by rfl))
    clear eX
    clear g26 f26
    go_wp2_with (refine here_load 42 _ rfl ?_; refine wpList_load_own rfl 42 _ rfl _ rfl st _ Tryd.underlying42 rfl (by kernel_rfl) ?_)
    go_wp2_with fail
    refine (cascadeMay_is _ false _ HB.out).mono ?_
    rintro e w1 ⟨rfl, hn⟩
    replace hk := hk.trans hn
    replace st := st.kept hn
    clear hn
    go_wp2_with fail
    refine (cascadeNew_any _).mono ?_
    rintro e w1 ⟨rfl, hn⟩
    replace hk := hk.trans hn
    replace st := st.kept hn
    clear hn
    go_wp2_with fail
    refine (cascadeMay_is newS true _ hnew.out).mono ?_
    rintro e w1 ⟨rfl, hn⟩
    replace hk := hk.trans hn
    replace st := st.kept hn
    clear hn
    go_wp2_with fail
    refine (num_any _ _).mono ?_
    rintro e w1 ⟨rfl, rfl⟩
    go_wp2_with fail
    refine (num_any _ _).mono ?_
    rintro e w1 ⟨rfl, rfl⟩
    go_wp2_with fail
    refine (num_any _ _).mono ?_
    rintro e w1 ⟨rfl, rfl⟩
    go_wp2
    go_ret
    exact ⟨rfl, hk⟩
  · skip
    have g27 := st.at 27 _ rfl
    have f27 := st.free 27
    go_upto_region 33 with fail
    clear px
    clear px_l px_0 px_1
    refine code_eq ?_
    intro X eX
    have hsz := hk.size
    replace hk := (eX ▸ (by first | ((repeat (first | with_reducible exact hk | with_reducible refine Kept.alloc ?_ _ | with_reducible refine Kept.drew ?_ | with_reducible refine Kept.drewN ?_ _ | with_reducible refine Kept.set ?_ (by first | (simp; done) | (simp; omega) | omega) _)); done) | exact hk | exact (hk.alloc _) | exact ((hk.alloc _).alloc _) | exact (((hk.alloc _).alloc _).alloc _) | exact ((((hk.alloc _).alloc _).alloc _).alloc _) | exact (((((hk.alloc _).alloc _).alloc _).alloc _).alloc _) | exact ((((((hk.alloc _).alloc _).alloc _).alloc _).alloc _).alloc _) | (repeat (first | exact hk | refine Kept.alloc ?_ _ | refine Kept.drew ?_ | refine Kept.drewN ?_ _ | refine Kept.set ?_ (by first | (simp; done) | (simp; omega) | omega) _))) : Kept w X)
    replace st : Own X _ _ (badS q 9).C := eX ▸ (((st.set 27 _)).is (by rfl))
    clear eX
    clear g27 f27
    go_wp2_with (refine here_load 42 _ rfl ?_; refine wpList_load_own rfl 42 _ rfl _ rfl st _ Tryd.underlying42 rfl (by kernel_rfl) ?_)
    go_wp2_with fail
    refine (cascadeMay_is _ false _ HB.out).mono ?_
    rintro e w1 ⟨rfl, hn⟩
    replace hk := hk.trans hn
    replace st := st.kept hn
    clear hn
    go_wp2_with fail
    refine (cascadeNew_any _).mono ?_
    rintro e w1 ⟨rfl, hn⟩
    replace hk := hk.trans hn
    replace st := st.kept hn
    clear hn
    go_wp2_with fail
    refine (cascadeMay_is newS true _ hnew.out).mono ?_
    rintro e w1 ⟨rfl, hn⟩
    replace hk := hk.trans hn
    replace st := st.kept hn
    clear hn
    go_wp2_with fail
    refine (num_any _ _).mono ?_
    rintro e w1 ⟨rfl, rfl⟩
    go_wp2_with fail
    refine (num_any _ _).mono ?_
    rintro e w1 ⟨rfl, rfl⟩
    go_wp2_with fail
    refine (num_any _ _).mono ?_
    rintro e w1 ⟨rfl, rfl⟩
    go_wp2
    go_ret
    exact ⟨rfl, hk⟩
  · skip
    have g28 := st.at 28 _ rfl
    have f28 := st.free 28
    go_upto_region 33 with fail
    clear px
    clear px_l px_0 px_1
    refine code_eq ?_
    intro X eX
    have hsz := hk.size
    replace hk := (eX ▸ (by first | ((repeat (first | with_reducible exact hk | with_reducible refine Kept.alloc ?_ _ | with_reducible refine Kept.drew ?_ | with_reducible refine Kept.drewN ?_ _ | with_reducible refine Kept.set ?_ (by first | (simp; done) | (simp; omega) | omega) _)); done) | exact hk | exact (hk.alloc _) | exact ((hk.alloc _).alloc _) | exact (((hk.alloc _).alloc _).alloc _) | exact ((((hk.alloc _).alloc _).alloc _).alloc _) | exact (((((hk.alloc _).alloc _).alloc _).alloc _).alloc _) | exact ((((((hk.alloc _).alloc _).alloc _).alloc _).alloc _).alloc _) | (repeat (first | exact hk | refine Kept.alloc ?_ _ | refine Kept.drew ?_ | refine Kept.drewN ?_ _ | refine Kept.set ?_ (by first | (simp; done) | (simp; omega) | omega) _))) : Kept w X)
    replace st : Own X _ _ (badS q 10).C := eX ▸ (((st.set 28 _)).is (by rfl))
    clear eX
    clear g28 f28
    go_wp2_with (refine here_load 42 _ rfl ?_; refine wpList_load_own rfl 42 _ rfl _ rfl st _ Tryd.underlying42 rfl (by kernel_rfl) ?_)
    go_wp2_with fail
    refine (cascadeMay_is _ false _ HB.out).mono ?_
    rintro e w1 ⟨rfl, hn⟩
    replace hk := hk.trans hn
    replace st := st.kept hn
    clear hn
    go_wp2_with fail
    refine (cascadeNew_any _).mono ?_
    rintro e w1 ⟨rfl, hn⟩
    replace hk := hk.trans hn
    replace st := st.kept hn
    clear hn
    go_wp2_with fail
    refine (cascadeMay_is newS true _ hnew.out).mono ?_
    rintro e w1 ⟨rfl, hn⟩
    replace hk := hk.trans hn
    replace st := st.kept hn
    clear hn
    go_wp2_with fail
    refine (num_any _ _).mono ?_
    rintro e w1 ⟨rfl, rfl⟩
    go_wp2_with fail
    refine (num_any _ _).mono ?_
    rintro e w1 ⟨rfl, rfl⟩
    go_wp2_with fail
    refine (num_any _ _).mono ?_
    rintro e w1 ⟨rfl, rfl⟩
    go_wp2
    go_ret
    exact ⟨rfl, hk⟩
  · skip
    have g30 := st.at 30 _ rfl
    have f30 := st.free 30
    go_upto_region 33 with fail
    clear px
    clear px_l px_0 px_1
    refine code_eq ?_
    intro X eX
    have hsz := hk.size
    replace hk := (eX ▸ (by first | ((repeat (first | with_reducible exact hk | with_reducible refine Kept.alloc ?_ _ | with_reducible refine Kept.drew ?_ | with_reducible refine Kept.drewN ?_ _ | with_reducible refine Kept.set ?_ (by first | (simp; done) | (simp; omega) | omega) _)); done) | exact hk | exact (hk.alloc _) | exact ((hk.alloc _).alloc _) | exact (((hk.alloc _).alloc _).alloc _) | exact ((((hk.alloc _).alloc _).alloc _).alloc _) | exact (((((hk.alloc _).alloc _).alloc _).alloc _).alloc _) | exact ((((((hk.alloc _).alloc _).alloc _).alloc _).alloc _).alloc _) | (repeat (first | exact hk | refine Kept.alloc ?_ _ | refine Kept.drew ?_ | refine Kept.drewN ?_ _ | refine Kept.set ?_ (by first | (simp; done) | (simp; omega) | omega) _))) : Kept w X)
    replace st : Own X _ _ (badS q 11).C := eX ▸ (((st.set 30 _)).is (by rfl))
    clear eX
    clear g30 f30
    go_wp2_with (refine here_load 42 _ rfl ?_; refine wpList_load_own rfl 42 _ rfl _ rfl st _ Tryd.underlying42 rfl (by kernel_rfl) ?_)
    go_wp2_with fail
    refine (cascadeMay_is _ false _ HB.out).mono ?_
    rintro e w1 ⟨rfl, hn⟩
    replace hk := hk.trans hn
    replace st := st.kept hn
    clear hn
    go_wp2_with fail
    refine (cascadeNew_any _).mono ?_
    rintro e w1 ⟨rfl, hn⟩
    replace hk := hk.trans hn
    replace st := st.kept hn
    clear hn
    go_wp2_with fail
    refine (cascadeMay_is newS true _ hnew.out).mono ?_
    rintro e w1 ⟨rfl, hn⟩
    replace hk := hk.trans hn
    replace st := st.kept hn
    clear hn
    go_wp2_with fail
    refine (num_any _ _).mono ?_
    rintro e w1 ⟨rfl, rfl⟩
    go_wp2_with fail
    refine (num_any _ _).mono ?_
    rintro e w1 ⟨rfl, rfl⟩
    go_wp2_with fail
    refine (num_any _ _).mono ?_
    rintro e w1 ⟨rfl, rfl⟩
    go_wp2
    go_ret
    exact ⟨rfl, hk⟩

theorem cascadeForms_walk (a b : Int) (w : World) (ht : TabN w) (hp : Pow w) :
    Calls Tryd.prog 7 #[.int .i64 a, .int .i64 b] w fun e w' => e = .returned (.bool true) ∧ Kept w w' := by
  obtain ⟨q, hq, q0, q1⟩ := masked b 10 1023 rfl (by decide)
  obtain ⟨j, hj, j0, j1⟩ := masked a 1 1 rfl (by decide)
  obtain ⟨k, hk, k0, k1⟩ := urest2 a 12 (by decide)
  obtain ⟨n, rfl⟩ := Int.eq_ofNat_of_zero_le k0
  rcases (by omega : j = 0 ∨ j = 1) with rfl | rfl
  · exact cascadeForms_main0 a q b n hq q0 q1 hj hk (by omega) w ht hp
  · exact cascadeForms_main1 a q b n hq q0 q1 hj hk (by omega) w ht hp
end Go.Proofs.YtnbagilcbngdcaaDoor
