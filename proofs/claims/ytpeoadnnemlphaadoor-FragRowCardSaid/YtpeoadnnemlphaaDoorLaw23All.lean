/- Layer 23: what every program answers that is one; any mode, size, pieces; they stay. -/
import Derived.Test.YtpeoadnnemlphaaDoorRefPieces
import Derived.Test.YtpeoadnnemlphaaDoorNum
import Derived.Test.YtpeoadnnemlphaaDoorCells
namespace Go.Proofs.YtpeoadnnemlphaaDoor
open Go.RowKit Go.Deep
set_option linter.unusedSimpArgs false
set_option linter.unusedVariables false
theorem piecesN_le {wm di ia ib : Int} {n : Nat} {Z : Nat → Nat → Int} : piecesN wm di ia ib n Z ≤ 4096 := by
  unfold piecesN
  split
  · rename_i h
    unfold piecesB at h
    simp only [Bool.and_eq_true] at h
    exact (mayF_true.1 h.1.1).1
  · omega
def f23 : Nat → Nat → Int := fun _ j => [3, -1, 5, 2, 10, 4].getD j 0
def p23 : Nat → Nat → Int := fun _ j => [3, -1, 35, 2, 10, 4].getD j 0
theorem yes23 : piecesB 0 1 50 30 1 f23 = true := by decide
theorem no23 : piecesB 0 2 0 0 1 f23 = false := by decide
theorem z23 : ∀ i j, i < 1 → j < 6 → pieceZ 0 1 50 30 f23 i j = p23 i j := by
  intro i j hi hj
  have h6 : j = 0 ∨ j = 1 ∨ j = 2 ∨ j = 3 ∨ j = 4 ∨ j = 5 := by omega
  obtain rfl : i = 0 := by omega
  rcases h6 with rfl | rfl | rfl | rfl | rfl | rfl <;> decide +kernel
theorem newRow_same {t : TypeId} {k : Nat} {a w : World} {v : Value} {m : Nat} {C D : Nat → Nat → Value} (h : NewRow t k a w v m C) (e : ∀ i j, i < m → j < k → C i j = D i j) : NewRow t k a w v m D := by
  rcases h with h | ⟨b, cap, cur, h1, h2, h3, h4, h5, h6, h7, h8⟩
  · exact .inl h
  · exact .inr ⟨b, cap, cur, h1, h2, h3, h4, h5, h6, h7, fun i j hi hj => (h8 i j hi hj).trans (by rw [e i j hi hj])⟩
theorem pieces23_yes (v : Value) (w : World) (hv : RV 6 w v 1 (intC f23)) (ht : Tab w) :
    Calls Tryd.prog 22 #[modeV 0 1, sizeV 50 30, v] w fun e w' => ∃ u, e = .returned (.tuple #[u, .int .i64 0]) ∧ RV 6 w' u 1 (intC p23) ∧ Kept w w' :=
  (fragPieces_any 0 1 50 30 v 1 f23 w hv (by decide) ht).mono fun e w' ⟨u, he, hr, hk⟩ => by
    rw [show piecesE 0 1 50 30 1 f23 = 0 from if_pos yes23] at he
    rw [show piecesN 0 1 50 30 1 f23 = 1 from if_pos yes23] at hr
    exact ⟨u, he, (newRow_same hr fun i j hi hj => by unfold intC; rw [z23 i j hi hj]).rv, hk⟩
theorem pieces_is_no (wm di ia ib : Int) (v : Value) (n : Nat) (Z : Nat → Nat → Int) (w : World) (hv : RV 6 w v n (intC Z)) (hn : n ≤ 4611686018427387904) (ht : Tab w) (hb : piecesB wm di ia ib n Z = false) :
    Calls Tryd.prog 22 #[modeV wm di, sizeV ia ib, v] w fun e w' => ∃ o cap, e = .returned (.tuple #[.slice o 0 cap, .int .i64 2300]) ∧ Kept w w' :=
  (fragPieces_any wm di ia ib v n Z w hv hn ht).mono fun e w' ⟨u, he, hr, hk⟩ => by
    rw [show piecesE wm di ia ib n Z = 2300 from if_neg (by rw [hb]; decide)] at he
    rw [show piecesN wm di ia ib n Z = 0 from if_neg (by rw [hb]; decide)] at hr
    obtain ⟨o, cap, rfl⟩ := hr.rv.shape
    exact ⟨o, cap, he, hk⟩
theorem fragMay_is (v : Value) (n : Nat) (Z : Nat → Nat → Int) (b : Bool) (w : World) (h : RV 6 w v n (intC Z)) (hn : n ≤ 4611686018427387904) (hb : mayF n Z = b) :
    Calls Tryd.prog 25 #[v] w fun e w' => e = .returned (.bool b) ∧ Kept w w' := by subst hb; exact fragMay_any v n Z w h hn
theorem may23 : mayF 1 f23 = true := by decide
set_option maxRecDepth 20000 in
set_option maxHeartbeats 2000000 in
theorem awake23_any (w : World) (ht : Tab w) :
    Calls Tryd.prog 29 #[] w fun e w' => e = .returned (.bool true) ∧ Kept w w' := by
  have hk : Kept w w := Kept.refl w
  go_enter Tryd.func29, Tryd.ntmps29
  go_wp2_with fail
  refine with_boxes1 ?_
  intro X hX a
  have hsz := hk.size
  replace hk := hk.trans hX
  clear hX
  have ha : RV 6 X _ 1 (intC f23) := rv_lit a 6 1 (by decide) (intC f23) rfl
  clear a
  go_wp2_with fail
  refine (pieces23_yes _ _ ha (ht.kept hk)).mono ?_
  rintro e w1 ⟨v, rfl, hr, hn⟩
  replace hk := hk.trans hn
  replace ha := ha.kept hn
  clear hn
  go_wp2_with fail
  refine (pieces_is_no _ _ _ _ _ 1 f23 _ ha (by decide) (ht.kept hk) no23).mono ?_
  rintro e w1 ⟨o1, cap1, rfl, hn⟩
  replace hk := hk.trans hn
  replace ha := ha.kept hn
  replace hr := hr.kept hn
  clear hn
  go_wp2_with fail
  refine (fragMay_is _ 1 f23 _ _ ha (by decide) may23).mono ?_
  rintro e w1 ⟨rfl, hn⟩
  replace hk := hk.trans hn
  replace ha := ha.kept hn
  replace hr := hr.kept hn
  clear hn
  go_wp2_with fail
  refine with_boxes1 ?_
  intro X hX l
  have hsz := hk.size
  replace hk := hk.trans hX
  replace ha := ha.kept hX
  replace hr := hr.kept hX
  clear hX
  have hl : RV 6 X _ 1 (intC p23) := rv_lit l 6 1 (by decide) (intC p23) rfl
  clear l
  go_wp2_with fail
  refine (samePieces_yes hr hl (by decide)).mono ?_
  rintro e w1 ⟨rfl, hn⟩
  replace hk := hk.trans hn
  replace ha := ha.kept hn
  replace hr := hr.kept hn
  replace hl := hl.kept hn
  clear hn
  go_wp2_with fail
  refine (num_any _ _).mono ?_
  rintro e w1 ⟨rfl, rfl⟩
  go_wp2_with fail
  refine (num_any _ _).mono ?_
  rintro e w1 ⟨rfl, rfl⟩
  go_wp2
  go_ret
  exact ⟨rfl, hk⟩
set_option maxRecDepth 20000 in
set_option maxHeartbeats 4000000 in
theorem frags_main (wm di ia ib : Int) (o : Option Addr) (n cap : Nat) (Z : Nat → Nat → Int) (w : World) (hv : RV 6 w (.slice o n cap) n (intC Z)) (hb : n ≤ 2932031007317) (ht : Tab w) :
    Calls Tryd.prog 7 #[modeV wm di, sizeV ia ib, .slice o n cap] w fun e w' => e = .returned (.bool true) ∧ Kept w w' := by
  have H1 := Lib.hid (fun wx u (hu : RV 6 wx u n (intC Z)) (hx : Tab wx) => fragPieces_any wm di ia ib u n Z wx hu (by omega) hx)
  have H2 := Lib.hid (fun wx u (hu : RV 6 wx u n (intC Z)) => refPieces_any wm di ia ib u n Z wx hu (by omega))
  have hN := piecesN_le (wm := wm) (di := di) (ia := ia) (ib := ib) (n := n) (Z := Z)
  unfold PiecesAll at H1 H2
  generalize piecesN wm di ia ib n Z = N at *
  generalize piecesE wm di ia ib n Z = E at *
  generalize pieceZ wm di ia ib Z = R at *
  have hk : Kept w w := Kept.refl w
  go_enter Tryd.func7, Tryd.ntmps7
  go_wp2_with fail
  refine with_boxes2 ?_
  intro X hX m i
  have hsz := hk.size
  replace hk := hk.trans hX
  clear hX
  replace m_l := m.lt
  replace m_0 := m.at 0 _ rfl
  replace m_1 := m.at 1 _ rfl
  replace i_l := i.lt
  replace i_0 := i.at 0 _ rfl
  replace i_1 := i.at 1 _ rfl
  refine (lendFrags_any o n cap _ (intC_one Z) _ (hv.kept hk) hb).mono ?_
  rintro e w1 ⟨u, rfl, lu, hn⟩
  replace hk := hk.trans hn
  replace m := m.kept hn
  replace i := i.kept hn
  clear hn
  replace m_l := m.lt
  replace m_0 := m.at 0 _ rfl
  replace m_1 := m.at 1 _ rfl
  replace i_l := i.lt
  replace i_0 := i.at 0 _ rfl
  replace i_1 := i.at 1 _ rfl
  go_wp2_with fail
  obtain ⟨wq, hwq⟩ : ∃ wq : World, wq = w1 := ⟨_, rfl⟩
  have hkq : Since wq w1 := ⟨hwq ▸ Kept.refl wq⟩
  have hk0 : Kept w wq := hwq ▸ hk
  have lu0 := hwq ▸ lu
  refine (H1.out _ _ lu.rv (ht.kept hk)).mono ?_
  rintro e w1 ⟨u1, rfl, hu1, hn⟩
  rw [← hwq] at hu1
  replace hkq := hkq.kept hn
  replace hk := hk.trans hn
  replace lu := lu.kept hn
  replace m := m.kept hn
  replace i := i.kept hn
  clear hn
  replace m_l := m.lt
  replace m_0 := m.at 0 _ rfl
  replace m_1 := m.at 1 _ rfl
  replace i_l := i.lt
  replace i_0 := i.at 0 _ rfl
  replace i_1 := i.at 1 _ rfl
  go_wp2_with fail
  refine (H2.out _ _ (hv.kept hk)).mono ?_
  rintro e w1 ⟨u2, rfl, hu2, hn⟩
  replace hk := hk.trans hn
  replace m := m.kept hn
  replace i := i.kept hn
  replace lu := lu.kept hn
  replace hu1 := hu1.kept hn
  replace hkq := hkq.kept hn
  clear hn
  replace m_l := m.lt
  replace m_0 := m.at 0 _ rfl
  replace m_1 := m.at 1 _ rfl
  replace i_l := i.lt
  replace i_0 := i.at 0 _ rfl
  replace i_1 := i.at 1 _ rfl
  go_wp2_with fail
  refine (samePieces_yes hu1.rv hu2.rv (by omega)).mono ?_
  rintro e w1 ⟨rfl, hn⟩
  replace hk := hk.trans hn
  replace m := m.kept hn
  replace i := i.kept hn
  replace lu := lu.kept hn
  replace hu1 := hu1.kept hn
  replace hkq := hkq.kept hn
  replace hu2 := hu2.kept hn
  clear hn
  replace m_l := m.lt
  replace m_0 := m.at 0 _ rfl
  replace m_1 := m.at 1 _ rfl
  replace i_l := i.lt
  replace i_0 := i.at 0 _ rfl
  replace i_1 := i.at 1 _ rfl
  go_wp2_with fail
  refine (num_any _ _).mono ?_
  rintro e w1 ⟨rfl, rfl⟩
  go_wp2_with fail
  refine (fragMay_any _ n Z _ lu.rv (by omega)).mono ?_
  rintro e w1 ⟨rfl, hn⟩
  replace hk := hk.trans hn
  replace m := m.kept hn
  replace i := i.kept hn
  replace lu := lu.kept hn
  replace hu1 := hu1.kept hn
  replace hkq := hkq.kept hn
  replace hu2 := hu2.kept hn
  clear hn
  replace m_l := m.lt
  replace m_0 := m.at 0 _ rfl
  replace m_1 := m.at 1 _ rfl
  replace i_l := i.lt
  replace i_0 := i.at 0 _ rfl
  replace i_1 := i.at 1 _ rfl
  go_wp2_with fail
  refine (refFragsMay_any _ n Z _ (hv.kept hk) (by omega)).mono ?_
  rintro e w1 ⟨rfl, hn⟩
  replace hk := hk.trans hn
  replace m := m.kept hn
  replace i := i.kept hn
  replace lu := lu.kept hn
  replace hu1 := hu1.kept hn
  replace hkq := hkq.kept hn
  replace hu2 := hu2.kept hn
  clear hn
  replace m_l := m.lt
  replace m_0 := m.at 0 _ rfl
  replace m_1 := m.at 1 _ rfl
  replace i_l := i.lt
  replace i_0 := i.at 0 _ rfl
  replace i_1 := i.at 1 _ rfl
  go_wp2_with fail
  refine (spoilPieces_any hkq.k (by omega) hu1).mono ?_
  rintro e w9 ⟨rfl, hn⟩
  replace hk := hk0.trans hn
  replace lu := lu0.kept hn
  clear lu0 hk0 hu1 hu2 hkq hwq m i m_l m_0 m_1 i_l i_0 i_1
  go_wp2_with fail
  refine (keptFrags_yes lu (hv.kept hk) hb).mono ?_
  rintro e w10 ⟨rfl, hn⟩
  replace hk := hk.trans hn
  go_wp2_with fail
  refine (awake23_any _ (ht.kept hk)).mono ?_
  rintro e w11 ⟨rfl, hn⟩
  replace hk := hk.trans hn
  go_wp2
  go_ret
  exact ⟨rfl, hk⟩
theorem frags_walk (wm di ia ib : Int) (v : Value) (n : Nat) (Z : Nat → Nat → Int) (w : World) (h : RV 6 w v n (intC Z)) (hb : n ≤ 2932031007317) (_hz : ∀ i j, inInt (Z i j)) (ht : Tab w) :
    Calls Tryd.prog 7 #[modeV wm di, sizeV ia ib, v] w fun e w' => e = .returned (.bool true) ∧ Kept w w' := by
  obtain ⟨o, cap, rfl⟩ := h.shape
  exact frags_main wm di ia ib o n cap Z w h hb ht
end Go.Proofs.YtpeoadnnemlphaaDoor
