/- Layer 10: what declarations come to, by the program. -/
import Derived.Test.YtnbagilcbngdcaaDoorDecls10
import Derived.Test.YtnbagilcbngdcaaDoorNewC
import Derived.Test.YtnbagilcbngdcaaDoorOwnIf
namespace Go.Proofs.YtnbagilcbngdcaaDoor
open Go.RowKit
set_option linter.unusedSimpArgs false
set_option linter.unusedVariables false
set_option maxHeartbeats 4000000
set_option maxRecDepth 20000
theorem modeMay10_is (wr di : Int) (b : Bool) (w : World) (h : modeMayB wr di = b) :
    Calls Tryd.prog 36 #[modeV wr di] w fun e w' => e = .returned (.bool b) ∧ Kept w w' := h ▸ modeMay_any wr di w
theorem cascadeMay_is (s : Sty) (b : Bool) (w : World) (h : mayS s = b) :
    Calls Tryd.prog 20 #[s.V] w fun e w' => e = .returned (.bool b) ∧ Kept w w' := h ▸ cascadeMay_any s w
theorem apply_bad (wr di : Int) (o : Option Addr) (n cap : Nat) (P : Nat → Int) (T : Nat → ByteArray) (w : World) (hv : RV 2 w (.slice o n cap) n (declC P T)) (hn : n ≤ 4611686018427387904) (ht : TabN w) (hb : declsB wr di n P = false) :
    Calls Tryd.prog 18 #[modeV wr di, .slice o n cap] w fun e w' => e = .returned (.tuple #[zeroS.V, .int .i64 1000]) ∧ Kept w w' := by
  cases hm : modeMayB wr di with
  | false =>
    have HM := Lib.hid (fun wx => modeMay10_is wr di false wx hm)
    clear hm hb
    have hk : Kept w w := Kept.refl w
    go_enter Tryd.func18, Tryd.ntmps18
    go_wp2_with fail
    refine with_boxes2 ?_
    intro X hX m r
    have hsz := hk.size
    replace hk := hk.trans hX
    clear hX
    replace m_l := m.lt
    replace m_0 := m.at 0 _ rfl
    replace m_1 := m.at 1 _ rfl
    refine (HM.out _).mono ?_
    rintro e w1 ⟨rfl, hn⟩
    replace hk := hk.trans hn
    replace m := m.kept hn
    replace r := r.kept hn
    clear hn
    replace m_l := m.lt
    replace m_0 := m.at 0 _ rfl
    replace m_1 := m.at 1 _ rfl
    go_upto_region 3 with fail
    go_wp2_with (refine here_store 42 _ _ rfl ?_; refine wpList_store_own rfl 42 _ _ rfl _ _ rfl rfl r (by rfl) (by kernel_rfl) (by rfl) ?_; intro X oX hoX hkX; replace hk := hkX _ hk (by first | omega | (simp; omega)); replace r := oX; replace m := m.same (hoX _ (by first | omega | (simp; omega))); clear oX hoX hkX; replace m_l := m.lt; replace m_0 := m.at 0 _ rfl; replace m_1 := m.at 1 _ rfl)
    exact bodyPost_ret (results_own_tmp 42 _ Tryd.results18 rfl r Tryd.underlying42 rfl (by kernel_rfl)) rfl ⟨rfl, hk⟩
  | true =>
    have HM := Lib.hid (fun wx => modeMay10_is wr di true wx hm)
    by_cases h16 : n ≤ 16
    · have hp : propsB P n = false := by unfold declsB at hb; rw [hm, decide_eq_true h16] at hb; exact hb
      have HP := Lib.hid (fun wx (hx : RV 2 wx (.slice o n cap) n (declC P T)) (hy : TabN wx) => (show Calls Tryd.prog 37 #[.slice o n cap, .func (.func 34) #[] #[]] wx (fun e w' => e = .returned (.bool true) ∧ Kept wx w') from by have := containsDecls_any o n cap P T wx hx hn hy; rw [hp] at this; exact this))
      have h16' : ¬ (16 : Int) < (n : Int) := by omega
      clear hm hb hp h16
      have hk : Kept w w := Kept.refl w
      go_enter Tryd.func18, Tryd.ntmps18
      go_wp2_with fail
      refine with_boxes2 ?_
      intro X hX m r
      have hsz := hk.size
      replace hk := hk.trans hX
      clear hX
      replace m_l := m.lt
      replace m_0 := m.at 0 _ rfl
      replace m_1 := m.at 1 _ rfl
      refine (HM.out _).mono ?_
      rintro e w1 ⟨rfl, hn⟩
      replace hk := hk.trans hn
      replace m := m.kept hn
      replace r := r.kept hn
      clear hn
      replace m_l := m.lt
      replace m_0 := m.at 0 _ rfl
      replace m_1 := m.at 1 _ rfl
      go_wp2_with fail
      refine (HP.out _ (hv.kept hk) (ht.kept hk)).mono ?_
      rintro e w1 ⟨rfl, hn⟩
      replace hk := hk.trans hn
      replace m := m.kept hn
      replace r := r.kept hn
      clear hn
      replace m_l := m.lt
      replace m_0 := m.at 0 _ rfl
      replace m_1 := m.at 1 _ rfl
      go_upto_region 3 with fail
      go_wp2_with (refine here_store 42 _ _ rfl ?_; refine wpList_store_own rfl 42 _ _ rfl _ _ rfl rfl r (by rfl) (by kernel_rfl) (by rfl) ?_; intro X oX hoX hkX; replace hk := hkX _ hk (by first | omega | (simp; omega)); replace r := oX; replace m := m.same (hoX _ (by first | omega | (simp; omega))); clear oX hoX hkX; replace m_l := m.lt; replace m_0 := m.at 0 _ rfl; replace m_1 := m.at 1 _ rfl)
      exact bodyPost_ret (results_own_tmp 42 _ Tryd.results18 rfl r Tryd.underlying42 rfl (by kernel_rfl)) rfl ⟨rfl, hk⟩
    · have h16' : (16 : Int) < (n : Int) := by omega
      clear hm hb h16
      have hk : Kept w w := Kept.refl w
      go_enter Tryd.func18, Tryd.ntmps18
      go_wp2_with fail
      refine with_boxes2 ?_
      intro X hX m r
      have hsz := hk.size
      replace hk := hk.trans hX
      clear hX
      replace m_l := m.lt
      replace m_0 := m.at 0 _ rfl
      replace m_1 := m.at 1 _ rfl
      refine (HM.out _).mono ?_
      rintro e w1 ⟨rfl, hn⟩
      replace hk := hk.trans hn
      replace m := m.kept hn
      replace r := r.kept hn
      clear hn
      replace m_l := m.lt
      replace m_0 := m.at 0 _ rfl
      replace m_1 := m.at 1 _ rfl
      go_upto_region 3 with fail
      go_wp2_with (refine here_store 42 _ _ rfl ?_; refine wpList_store_own rfl 42 _ _ rfl _ _ rfl rfl r (by rfl) (by kernel_rfl) (by rfl) ?_; intro X oX hoX hkX; replace hk := hkX _ hk (by first | omega | (simp; omega)); replace r := oX; replace m := m.same (hoX _ (by first | omega | (simp; omega))); clear oX hoX hkX; replace m_l := m.lt; replace m_0 := m.at 0 _ rfl; replace m_1 := m.at 1 _ rfl)
      exact bodyPost_ret (results_own_tmp 42 _ Tryd.results18 rfl r Tryd.underlying42 rfl (by kernel_rfl)) rfl ⟨rfl, hk⟩
end Go.Proofs.YtnbagilcbngdcaaDoor
