/- Layer 23: pieces are mapped one by one, and back they are what they were. -/
import Derived.Test.YtpeoadnnemlphaaDoorLaw23All
import Derived.Test.YtpeoadnnemlphaaDoorGeomRefB2
import Derived.Test.YtpeoadnnemlphaaDoorMask
namespace Go.Proofs.YtpeoadnnemlphaaDoor
open Go.RowKit Go.Deep
set_option linter.unusedSimpArgs false
set_option linter.unusedVariables false
theorem turn_twice (F : Bool) {i a s : Int} (h1 : 0 ≤ i ∧ i ≤ 1073741824) (h2 : -1073741824 ≤ a ∧ a ≤ 1073741824) (h3 : 0 ≤ s ∧ s ≤ 1073741824) :
    turnS F i (turnS F i a s) s = a ∧ -4294967296 ≤ turnS F i a s ∧ turnS F i a s ≤ 4294967296 := by
  unfold turnS
  cases F
  · exact ⟨rfl, by rw [if_neg (by decide)]; omega, by rw [if_neg (by decide)]; omega⟩
  · simp only [if_true]
    have e1 : wrap64 (i - a) = i - a := by unfold wrap64; omega
    have e2 : wrap64 (i - a - s) = i - a - s := by unfold wrap64; omega
    have e3 : wrap64 (i - (i - a - s)) = a + s := by unfold wrap64; omega
    have e4 : wrap64 (a + s - s) = a := by unfold wrap64; omega
    rw [e1, e2, e3, e4]
    exact ⟨rfl, by omega, by omega⟩
theorem back_phys {wm di ia ib ra rb sa sb : Int} (h : physOkB wm di ia ib ra rb sa sb = true) : ∃ x y bw bh, physS wm di ia ib ra rb sa sb = ((x, y, bw, bh), 0) ∧ backS wm di ia ib x y bw bh = ((ra, rb, sa, sb), 0) ∧ (-4294967296 ≤ x ∧ x ≤ 4294967296) ∧ (-4294967296 ≤ y ∧ y ≤ 4294967296) := by
  have h' := h
  unfold physOkB at h'
  simp only [Bool.and_eq_true] at h'
  obtain ⟨⟨⟨⟨hm, hi⟩, hs⟩, ha⟩, hb⟩ := h'
  have i2 := sizedB_true.1 hi
  have s2 := sizedB_true.1 hs
  have a2 := mayB_true.1 ha
  have b2 := mayB_true.1 hb
  have t0 := turn_twice (farB wm di 0) (i := ia) (a := ra) (s := sa) i2.1 a2 s2.1
  have t2 := turn_twice (farB wm di 2) (i := ib) (a := rb) (s := sb) i2.2 b2 s2.2
  cases hv : vertB wm di with
  | true =>
    refine ⟨turnS (farB wm di 2) ib rb sb, turnS (farB wm di 0) ia ra sa, sb, sa, by unfold physS; rw [if_pos h, if_pos hv], ?_, t2.2, t0.2⟩
    unfold backS
    rw [if_pos (by unfold backOkB farXB2 farXB; rw [hm, hi, inB_true.2 t2.2, inB_true.2 t0.2, show sizedB sb sa = true from sizedB_true.2 ⟨s2.2, s2.1⟩]; rfl), if_pos hv, t0.1, t2.1]
  | false =>
    refine ⟨turnS (farB wm di 0) ia ra sa, turnS (farB wm di 2) ib rb sb, sa, sb, by unfold physS; rw [if_pos h, if_neg (by rw [hv]; decide)], ?_, t0.2, t2.2⟩
    unfold backS
    rw [if_pos (by unfold backOkB farXB2 farXB; rw [hm, hi, inB_true.2 t0.2, inB_true.2 t2.2, hs]; rfl), if_neg (by rw [hv]; decide), t0.1, t2.1]
theorem piece_ok {wm di ia ib : Int} {n k : Nat} {Z : Nat → Nat → Int} (h : piecesB wm di ia ib n Z = true) (hk : k < n) : physOkB wm di ia ib (Z k 2) (Z k 3) (Z k 4) (Z k 5) = true := by
  unfold piecesB at h
  simp only [Bool.and_eq_true] at h
  have hf := allF_yes (mayF_true.1 h.1.1).2 k hk
  unfold fragB at hf
  simp only [Bool.and_eq_true] at hf
  unfold physOkB
  rw [h.1.2, h.2, hf.1.1.2, hf.1.2, hf.2]
  rfl
set_option maxRecDepth 20000 in
set_option maxHeartbeats 8000000 in
theorem fragBack_main (wm di x y p q : Int) (hx : bits .and .i64 x 65535 = p) (hy : bits .and .i64 y 65535 = q) (o : Option Addr) (n cap : Nat) (Z : Nat → Nat → Int) (w : World) (hv : RV 6 w (.slice o n cap) n (intC Z)) (hb : n ≤ 2932031007317) (ht : Tab w) :
    Calls Tryd.prog 8 #[modeV wm di, .int .i64 x, .int .i64 y, .slice o n cap] w fun e w' => e = .returned (.bool true) ∧ Kept w w' := by
  cases hB : piecesB wm di p q n Z with
  | false =>
    have HB := Lib.hid hB
    clear hB
    have hk : Kept w w := Kept.refl w
    go_enter Tryd.func8, Tryd.ntmps8
    go_wp2_with fail
    refine with_boxes1 ?_
    intro X hX m
    have hsz := hk.size
    replace hk := hk.trans hX
    clear hX
    replace m_l := m.lt
    replace m_0 := m.at 0 _ rfl
    replace m_1 := m.at 1 _ rfl
    refine (awake23_any _ (ht.kept hk)).mono ?_
    rintro e w1 ⟨rfl, hn⟩
    replace hk := hk.trans hn
    replace m := m.kept hn
    clear hn
    replace m_l := m.lt
    replace m_0 := m.at 0 _ rfl
    replace m_1 := m.at 1 _ rfl
    go_wp2_with fail
    refine with_boxes1 ?_
    intro X hX i
    have hsz := hk.size
    replace hk := hk.trans hX
    replace m := m.kept hX
    clear hX
    replace m_l := m.lt
    replace m_0 := m.at 0 _ rfl
    replace m_1 := m.at 1 _ rfl
    replace i_l := i.lt
    replace i_0 := i.at 0 _ rfl
    replace i_1 := i.at 1 _ rfl
    refine (pieces_is_no _ _ _ _ _ n Z _ (hv.kept hk) (by omega) (ht.kept hk) HB.out).mono ?_
    rintro e w1 ⟨o1, c1, rfl, hn⟩
    replace hk := hk.trans hn
    replace m := m.kept hn
    replace i := i.kept hn
    clear hn
    replace m_l := m.lt
    replace m_0 := m.at 0 _ rfl
    replace m_1 := m.at 1 _ rfl
    replace i_l := i.lt
    replace i_0 := i.at 0 _ rfl
    replace i_1 := i.at 1 _ rfl
    go_wp2_with fail
    refine (num_any _ _).mono ?_
    rintro e w1 ⟨rfl, rfl⟩
    go_wp2
    go_ret
    exact ⟨rfl, hk⟩
  | true =>
    have HP := Lib.hid (fun wx u (hu : RV 6 wx u n (intC Z)) (hx : Tab wx) => (show Calls Tryd.prog 22 #[modeV wm di, sizeV p q, u] wx (fun e w' => ∃ u, e = .returned (.tuple #[u, .int .i64 0]) ∧ RV 6 w' u n (intC (pieceZ wm di p q Z)) ∧ Kept wx w') from (fragPieces_any wm di p q u n Z wx hu (by omega) hx).mono fun e w' ⟨u, he, hr, hk⟩ => by
      rw [show piecesE wm di p q n Z = 0 from if_pos hB] at he
      rw [show piecesN wm di p q n Z = n from if_pos hB] at hr
      exact ⟨u, he, hr.rv, hk⟩))
    have HK := Lib.hid (fun k (hk : k < n) => back_phys (piece_ok hB hk))
    clear hB
    have hk : Kept w w := Kept.refl w
    go_enter Tryd.func8, Tryd.ntmps8
    go_wp2_with fail
    refine with_boxes1 ?_
    intro X hX m
    have hsz := hk.size
    replace hk := hk.trans hX
    clear hX
    replace m_l := m.lt
    replace m_0 := m.at 0 _ rfl
    replace m_1 := m.at 1 _ rfl
    refine (awake23_any _ (ht.kept hk)).mono ?_
    rintro e w1 ⟨rfl, hn⟩
    replace hk := hk.trans hn
    replace m := m.kept hn
    clear hn
    replace m_l := m.lt
    replace m_0 := m.at 0 _ rfl
    replace m_1 := m.at 1 _ rfl
    go_wp2_with fail
    refine with_boxes1 ?_
    intro X hX i
    have hsz := hk.size
    replace hk := hk.trans hX
    replace m := m.kept hX
    clear hX
    replace m_l := m.lt
    replace m_0 := m.at 0 _ rfl
    replace m_1 := m.at 1 _ rfl
    replace i_l := i.lt
    replace i_0 := i.at 0 _ rfl
    replace i_1 := i.at 1 _ rfl
    refine (HP.out _ _ (hv.kept hk) (ht.kept hk)).mono ?_
    rintro e w1 ⟨u, rfl, hu, hn⟩
    replace hk := hk.trans hn
    replace m := m.kept hn
    replace i := i.kept hn
    clear hn
    replace m_l := m.lt
    replace m_0 := m.at 0 _ rfl
    replace m_1 := m.at 1 _ rfl
    replace i_l := i.lt
    replace i_0 := i.at 0 _ rfl
    replace i_1 := i.at 1 _ rfl
    go_wp2_with fail
    refine (num_any _ _).mono ?_
    rintro e w1 ⟨rfl, rfl⟩
    obtain ⟨o1, cap1, rfl⟩ := hu.shape
    clear HP
    go_wp2
    obtain ⟨X0, rfl⟩ : ∃ X0 : World, X0 = w1 := ⟨_, rfl⟩
    have hkX := Lib.hid hk
    have hvX := Lib.hid (hv.kept hk)
    have huX := Lib.hid hu
    have hmX := Lib.hid m
    have hiX := Lib.hid i
    clear hk m i m_l m_0 m_1 i_l i_0 i_1 hu
    go_loopw [12, 13, 14] (fun i _ _ wx => ∃ k : Nat, k ≤ n ∧ i = .int .i64 k ∧ Kept X0 wx) (fun i _ _ _ => n - (intOf i).toNat)
    case atStart => exact ⟨0, Nat.zero_le _, rfl, Kept.refl _⟩
    case round =>
      obtain ⟨k, hk4, rfl, hk1⟩ := hrel
      by_cases hlt : k < n
      · have hi0 : (0 : Int) ≤ (k : Int) := Int.natCast_nonneg _
        have hi1 : (k : Int) < (n : Int) := by omega
        obtain ⟨b, off, e0, _, hw⟩ := (hvX.out.kept hk1).row (by omega)
        subst e0
        obtain ⟨b2, off2, e0, _, hw2⟩ := (huX.out.kept hk1).row (by omega)
        subst e0
        have c0 : wr.cell? ⟨b, off + k * 6, none⟩ = some (.int .i64 (Z k 0)) := hw k 0 hlt (by decide)
        have c1 : wr.cell? ⟨b, off + k * 6 + 1, none⟩ = some (.int .i64 (Z k 1)) := hw k 1 hlt (by decide)
        have c2 : wr.cell? ⟨b, off + k * 6 + 2, none⟩ = some (.int .i64 (Z k 2)) := hw k 2 hlt (by decide)
        have c3 : wr.cell? ⟨b, off + k * 6 + 3, none⟩ = some (.int .i64 (Z k 3)) := hw k 3 hlt (by decide)
        have c4 : wr.cell? ⟨b, off + k * 6 + 4, none⟩ = some (.int .i64 (Z k 4)) := hw k 4 hlt (by decide)
        have c5 : wr.cell? ⟨b, off + k * 6 + 5, none⟩ = some (.int .i64 (Z k 5)) := hw k 5 hlt (by decide)
        have d0 : wr.cell? ⟨b2, off2 + k * 6, none⟩ = some (.int .i64 (Z k 0)) := hw2 k 0 hlt (by decide)
        have d1 : wr.cell? ⟨b2, off2 + k * 6 + 1, none⟩ = some (.int .i64 (Z k 1)) := hw2 k 1 hlt (by decide)
        have d2 : wr.cell? ⟨b2, off2 + k * 6 + 2, none⟩ = some (.int .i64 (physS wm di p q (Z k 2) (Z k 3) (Z k 4) (Z k 5)).1.1) := hw2 k 2 hlt (by decide)
        have d3 : wr.cell? ⟨b2, off2 + k * 6 + 3, none⟩ = some (.int .i64 (physS wm di p q (Z k 2) (Z k 3) (Z k 4) (Z k 5)).1.2.1) := hw2 k 3 hlt (by decide)
        have d4 : wr.cell? ⟨b2, off2 + k * 6 + 4, none⟩ = some (.int .i64 (physS wm di p q (Z k 2) (Z k 3) (Z k 4) (Z k 5)).1.2.2.1) := hw2 k 4 hlt (by decide)
        have d5 : wr.cell? ⟨b2, off2 + k * 6 + 5, none⟩ = some (.int .i64 (physS wm di p q (Z k 2) (Z k 3) (Z k 4) (Z k 5)).1.2.2.2) := hw2 k 5 hlt (by decide)
        obtain ⟨px, py, pw, ph, hp, hbk, hx2, hy2⟩ := HK.out k hlt
        rw [hp] at d2 d3 d4 d5
        dsimp only at d2 d3 d4 d5
        have HP := Lib.hid (fun wx => by have := refBack_any wm di p q px py pw ph wx (by omega) (by omega) (by omega) (by omega); rw [hbk] at this; exact this)
        clear hp hbk hx2 hy2 hw hw2
        have m := hmX.out.kept hk1
        have i := hiX.out.kept hk1
        have m_l := m.lt
        have m_0 := m.at 0 _ rfl
        have m_1 := m.at 1 _ rfl
        have i_l := i.lt
        have i_0 := i.at 0 _ rfl
        have i_1 := i.at 1 _ rfl
        generalize Z k 0 = z0 at *
        generalize Z k 1 = z1 at *
        generalize Z k 2 = z2 at *
        generalize Z k 3 = z3 at *
        generalize Z k 4 = z4 at *
        generalize Z k 5 = z5 at *
        have hk := hk1
        have hXs := hkX.out.size
        have lc : b < wr.heap.size := World.block_lt_of_cell? _ _ c0
        have lc2 : b2 < wr.heap.size := World.block_lt_of_cell? _ _ d0
        go_wp2_with fail
        have HS := Lib.hid (fun (W : World) (h : Kept wr W) => (show Kept wr W ∧ W.cell? ⟨w.heap.size, 0, none⟩ = some (.int .i64 wm) ∧ W.cell? ⟨w.heap.size, 1, none⟩ = some (.int .i64 di) ∧ W.cell? ⟨w1.heap.size, 0, none⟩ = some (.int .i64 p) ∧ W.cell? ⟨w1.heap.size, 1, none⟩ = some (.int .i64 q) ∧ W.cell? ⟨b2, off2 + k * 6 + 2, none⟩ = some (.int .i64 px) ∧ W.cell? ⟨b2, off2 + k * 6 + 3, none⟩ = some (.int .i64 py) ∧ W.cell? ⟨b2, off2 + k * 6 + 4, none⟩ = some (.int .i64 pw) ∧ W.cell? ⟨b2, off2 + k * 6 + 5, none⟩ = some (.int .i64 ph) from ⟨h, (h.cell m_l).trans m_0, (h.cell m_l).trans m_1, (h.cell i_l).trans i_0, (h.cell i_l).trans i_1, (h.cell lc2).trans d2, (h.cell lc2).trans d3, (h.cell lc2).trans d4, (h.cell lc2).trans d5⟩))
        have hS0 := HS.out _ (Kept.refl wr).drew
        have hS1 := HS.out _ (((Kept.refl wr).alloc (.cells #[.int .i64 0, .int .i64 0, .int .i64 0, .int .i64 0] 64)).drew)
        go_cut [13, 14] from 46 to 57 (fun sb se wx => ∃ A : Nat, sb = .pointer (some ⟨A, 0, none⟩) ∧ se = .int .i64 0 ∧ wr.heap.size ≤ A ∧ Kept wr wx ∧ Own wx A 64 #[.int .i64 z2, .int .i64 z3, .int .i64 z4, .int .i64 z5])
        case first =>
          go_region_held3 (fun W => Kept wr W ∧ W.cell? ⟨w.heap.size, 0, none⟩ = some (.int .i64 wm) ∧ W.cell? ⟨w.heap.size, 1, none⟩ = some (.int .i64 di) ∧ W.cell? ⟨w1.heap.size, 0, none⟩ = some (.int .i64 p) ∧ W.cell? ⟨w1.heap.size, 1, none⟩ = some (.int .i64 q) ∧ W.cell? ⟨b2, off2 + k * 6 + 2, none⟩ = some (.int .i64 px) ∧ W.cell? ⟨b2, off2 + k * 6 + 3, none⟩ = some (.int .i64 py) ∧ W.cell? ⟨b2, off2 + k * 6 + 4, none⟩ = some (.int .i64 pw) ∧ W.cell? ⟨b2, off2 + k * 6 + 5, none⟩ = some (.int .i64 ph))
            (first | exact hS0 | exact hS1 | assumption | exact HS.out _ ((‹Kept wr _ ∧ _›).1.trans hn) | exact HS.out _ (((Kept.refl wr).drew.trans hn).alloc _) | exact HS.out _ ((‹Kept wr _ ∧ _›).1.alloc _) | exact HS.out _ (((((‹Kept wr w3 ∧ _›).1.set (Nat.le_refl _) _).set (Nat.le_refl _) _).set (Nat.le_refl _) _).set (Nat.le_refl _) _))
            (first
              | (go_at_call 30; (with_reducible refine (HP.out _).mono ?_); rintro e w3 ⟨rfl, hn⟩; have ob : Own w3 wr.heap.size 64 #[.int .i64 0, .int .i64 0, .int .i64 0, .int .i64 0] := (Own.new wr #[.int .i64 0, .int .i64 0, .int .i64 0, .int .i64 0] 64).drew.kept hn; have ob_l := ob.lt; have ob_0 := ob.at 0 _ rfl; have ob_1 := ob.at 1 _ rfl; have ob_2 := ob.at 2 _ rfl; have ob_3 := ob.at 3 _ rfl; have ob_f0 := ob.free 0; have ob_f1 := ob.free 1; have ob_f2 := ob.free 2; have ob_f3 := ob.free 3)
              | (go_at_call 30; (with_reducible refine (HP.out _).mono ?_); rintro e w3 ⟨rfl, hn⟩))
          · go_wp2_with fail
            go_meet
            exact ⟨_, rfl, rfl, by have := (‹Kept wr (World.alloc w3 _) ∧ _›).1.size; first | omega | (have := ((Kept.refl wr).drew.trans hn).size; omega), (‹Kept wr (World.alloc w3 _) ∧ _›).1, Own.at_ w3 _ _ rfl⟩
          · go_wp2_with fail
            go_meet
            exact ⟨_, rfl, rfl, Nat.le_refl _, (‹Kept wr (World.setCell _ _ _) ∧ _›).1, ((((ob.set 0 _).set 1 _).set 2 _).set 3 _).is rfl⟩
        case rest =>
          obtain ⟨A, rfl, rfl, hA, hn, bx⟩ := hcut
          replace c0 := (hn.cell lc).trans c0
          replace c1 := (hn.cell lc).trans c1
          replace c2 := (hn.cell lc).trans c2
          replace c3 := (hn.cell lc).trans c3
          replace c4 := (hn.cell lc).trans c4
          replace c5 := (hn.cell lc).trans c5
          replace d0 := (hn.cell lc2).trans d0
          replace d1 := (hn.cell lc2).trans d1
          replace hk := hk.trans hn
          have lb : b < wc.heap.size := Nat.lt_of_lt_of_le lc hn.size
          have lb2 : b2 < wc.heap.size := Nat.lt_of_lt_of_le lc2 hn.size
          have bx_l := bx.lt
          have bx_0 := bx.at 0 _ rfl
          have bx_1 := bx.at 1 _ rfl
          have bx_2 := bx.at 2 _ rfl
          have bx_3 := bx.at 3 _ rfl
          clear d2 d3 d4 d5 m_l m_0 m_1 i_l i_0 i_1 HS hS0 hS1 HP hn lc lc2
          go_wp2_with fail
          go_quiet (fail)
          go_wp2
          exact ⟨⟨k + 1, by omega, by first | rfl | go_num, by first | exact hk.drewN _ | exact hk⟩, by first | (simp [intOf]; done) | (simp [intOf]; omega)⟩
      · obtain rfl : k = n := by omega
        go_wp2
        go_ret
        exact ⟨rfl, hkX.out.trans hk1⟩
theorem fragBack_walk (wm di x y : Int) (v : Value) (n : Nat) (Z : Nat → Nat → Int) (w : World) (hv : RV 6 w v n (intC Z)) (hb : n ≤ 2932031007317) (_hz : ∀ i j, inInt (Z i j)) (ht : Tab w) :
    Calls Tryd.prog 8 #[modeV wm di, .int .i64 x, .int .i64 y, v] w fun e w' => e = .returned (.bool true) ∧ Kept w w' := by
  obtain ⟨o, cap, rfl⟩ := hv.shape
  exact fragBack_main wm di x y _ _ rfl rfl o n cap Z w hv hb ht
end Go.Proofs.YtpeoadnnemlphaaDoor
