/- Layer 23: the document's Pieces. -/
import Derived.Test.YtpeoadnnemlphaaDoorFragPieces
import Derived.Test.YtpeoadnnemlphaaDoorRefFragMay
import Derived.Deep.RegionHeld3
import Derived.Deep.AppendLies
import Derived.BigRegion
import Derived.StillTailTactics
import Derived.Deep.CutRange
namespace Go.Proofs.YtpeoadnnemlphaaDoor
open Go.RowKit Go.Deep
set_option linter.unusedSimpArgs false
set_option linter.unusedVariables false
theorem phys_rect0 (wm di ia ib : Int) : ((physS wm di ia ib 0 0 0 0).2 = 0 ∧ (modeMayB wm di && sizedB ia ib) = true) ∨ ((physS wm di ia ib 0 0 0 0).2 = 300 ∧ (modeMayB wm di && sizedB ia ib) = false) := by
  have e : physOkB wm di ia ib 0 0 0 0 = (modeMayB wm di && sizedB ia ib) := by
    unfold physOkB
    rw [show sizedB 0 0 = true from rfl, show mayB 0 = true from rfl]
    simp
  unfold physS
  rw [e]
  cases h : (modeMayB wm di && sizedB ia ib)
  · exact .inr ⟨rfl, rfl⟩
  · exact .inl ⟨by rw [if_pos rfl], rfl⟩
theorem refPieces_bad (wm di ia ib : Int) (v : Value) (n : Nat) (Z : Nat → Nat → Int) (w : World) (hv : RV 6 w v n (intC Z)) (hn : n ≤ 4611686018427387904) (h : piecesB wm di ia ib n Z = false) :
    Calls Tryd.prog 23 #[modeV wm di, sizeV ia ib, v] w (PiecesAll wm di ia ib n Z w) := by
  have hp := phys_rect0 wm di ia ib
  have HP := Lib.hid (fun wx => refPhys_any wm di ia ib 0 0 0 0 wx)
  have hq : mayF n Z = false ∨ (mayF n Z = true ∧ (modeMayB wm di && sizedB ia ib) = false) := by
    unfold piecesB at h
    rw [Bool.and_assoc] at h
    cases h1 : mayF n Z
    · exact .inl rfl
    · rw [h1] at h; exact .inr ⟨rfl, h⟩
  generalize (modeMayB wm di && sizedB ia ib) = bb at *
  generalize physS wm di ia ib 0 0 0 0 = P at *
  obtain ⟨⟨p0, p1, p2, p3⟩, pe⟩ := P
  dsimp only at hp
  have Hs := Lib.hid h
  clear h
  rcases hq with h1 | ⟨h1, rfl⟩
  · clear hp
    have hk : Kept w w := Kept.refl w
    go_enter Tryd.func23, Tryd.ntmps23
    go_wp2_with fail
    refine with_boxes2 ?_
    intro X hX m i
    have hsz := hk.size
    replace hk := hk.trans hX
    clear hX
    replace m_l := m.lt
    replace m_0 := m.at 0 _ rfl
    replace m_1 := m.at 1 _ rfl
    replace i_l := i.lt
    replace i_0 := i.at 0 _ rfl
    replace i_1 := i.at 1 _ rfl
    refine (HP.out _).mono ?_
    rintro e w1 ⟨rfl, hn⟩
    replace hk := hk.trans hn
    replace m := m.kept hn
    replace i := i.kept hn
    clear hn
    replace m_l := m.lt
    replace m_0 := m.at 0 _ rfl
    replace m_1 := m.at 1 _ rfl
    replace i_l := i.lt
    replace i_0 := i.at 0 _ rfl
    replace i_1 := i.at 1 _ rfl
    go_wp2_with fail
    refine with_boxes1 ?_
    intro X hX b
    have hsz := hk.size
    replace hk := hk.trans hX
    replace m := m.kept hX
    replace i := i.kept hX
    clear hX
    replace m_l := m.lt
    replace m_0 := m.at 0 _ rfl
    replace m_1 := m.at 1 _ rfl
    replace i_l := i.lt
    replace i_0 := i.at 0 _ rfl
    replace i_1 := i.at 1 _ rfl
    replace b_l := b.lt
    replace b_0 := b.at 0 _ rfl
    replace b_1 := b.at 1 _ rfl
    replace b_2 := b.at 2 _ rfl
    replace b_3 := b.at 3 _ rfl
    refine (refFragsMay_any _ n Z _ (hv.kept hk) hn).mono ?_
    rintro e w1 ⟨rfl, hn⟩
    replace hk := hk.trans hn
    replace m := m.kept hn
    replace i := i.kept hn
    replace b := b.kept hn
    clear hn
    replace m_l := m.lt
    replace m_0 := m.at 0 _ rfl
    replace m_1 := m.at 1 _ rfl
    replace i_l := i.lt
    replace i_0 := i.at 0 _ rfl
    replace i_1 := i.at 1 _ rfl
    replace b_l := b.lt
    replace b_0 := b.at 0 _ rfl
    replace b_1 := b.at 1 _ rfl
    replace b_2 := b.at 2 _ rfl
    replace b_3 := b.at 3 _ rfl
    go_wp2
    go_ret2
    exact pieces_no Hs.out hk
  · rcases hp with ⟨_, h9⟩ | ⟨rfl, _⟩
    · cases h9
    · skip
      have hk : Kept w w := Kept.refl w
      go_enter Tryd.func23, Tryd.ntmps23
      go_wp2_with fail
      refine with_boxes2 ?_
      intro X hX m i
      have hsz := hk.size
      replace hk := hk.trans hX
      clear hX
      replace m_l := m.lt
      replace m_0 := m.at 0 _ rfl
      replace m_1 := m.at 1 _ rfl
      replace i_l := i.lt
      replace i_0 := i.at 0 _ rfl
      replace i_1 := i.at 1 _ rfl
      refine (HP.out _).mono ?_
      rintro e w1 ⟨rfl, hn⟩
      replace hk := hk.trans hn
      replace m := m.kept hn
      replace i := i.kept hn
      clear hn
      replace m_l := m.lt
      replace m_0 := m.at 0 _ rfl
      replace m_1 := m.at 1 _ rfl
      replace i_l := i.lt
      replace i_0 := i.at 0 _ rfl
      replace i_1 := i.at 1 _ rfl
      go_wp2_with fail
      refine with_boxes1 ?_
      intro X hX b
      have hsz := hk.size
      replace hk := hk.trans hX
      replace m := m.kept hX
      replace i := i.kept hX
      clear hX
      replace m_l := m.lt
      replace m_0 := m.at 0 _ rfl
      replace m_1 := m.at 1 _ rfl
      replace i_l := i.lt
      replace i_0 := i.at 0 _ rfl
      replace i_1 := i.at 1 _ rfl
      replace b_l := b.lt
      replace b_0 := b.at 0 _ rfl
      replace b_1 := b.at 1 _ rfl
      replace b_2 := b.at 2 _ rfl
      replace b_3 := b.at 3 _ rfl
      refine (refFragsMay_any _ n Z _ (hv.kept hk) hn).mono ?_
      rintro e w1 ⟨rfl, hn⟩
      replace hk := hk.trans hn
      replace m := m.kept hn
      replace i := i.kept hn
      replace b := b.kept hn
      clear hn
      replace m_l := m.lt
      replace m_0 := m.at 0 _ rfl
      replace m_1 := m.at 1 _ rfl
      replace i_l := i.lt
      replace i_0 := i.at 0 _ rfl
      replace i_1 := i.at 1 _ rfl
      replace b_l := b.lt
      replace b_0 := b.at 0 _ rfl
      replace b_1 := b.at 1 _ rfl
      replace b_2 := b.at 2 _ rfl
      replace b_3 := b.at 3 _ rfl
      go_wp2
      go_ret2
      exact pieces_no Hs.out hk
set_option maxRecDepth 20000 in
set_option maxHeartbeats 4000000 in
theorem refPieces_ok (wm di ia ib : Int) (o : Option Addr) (n cap : Nat) (Z : Nat → Nat → Int) (w : World) (hv : RV 6 w (.slice o n cap) n (intC Z)) (h1 : mayF n Z = true) (h2 : modeMayB wm di = true) (h3 : sizedB ia ib = true) :
    Calls Tryd.prog 23 #[modeV wm di, sizeV ia ib, .slice o n cap] w fun e w' => ∃ u, e = .returned (.tuple #[u, .int .i64 0]) ∧ NewRow 70 6 w w' u n (intC (pieceZ wm di ia ib Z)) ∧ Kept w w' := by
  obtain ⟨i0, hi, hz0, hz1, hz2⟩ := info_parts piecesInfo
  have h40 : n ≤ 4096 := (mayF_true.1 h1).1
  have hp := phys_rect0 wm di ia ib
  have HP := Lib.hid (fun wx => refPhys_any wm di ia ib 0 0 0 0 wx)
  rw [h2, h3] at hp
  generalize physS wm di ia ib 0 0 0 0 = P at *
  obtain ⟨⟨p0, p1, p2, p3⟩, pe⟩ := P
  dsimp only at hp
  rcases hp with ⟨rfl, _⟩ | ⟨_, h9⟩
  · skip
    have hk : Kept w w := Kept.refl w
    go_enter Tryd.func23, Tryd.ntmps23
    go_wp2_with fail
    refine with_boxes2 ?_
    intro X hX m i
    have hsz := hk.size
    replace hk := hk.trans hX
    clear hX
    replace m_l := m.lt
    replace m_0 := m.at 0 _ rfl
    replace m_1 := m.at 1 _ rfl
    replace i_l := i.lt
    replace i_0 := i.at 0 _ rfl
    replace i_1 := i.at 1 _ rfl
    refine (HP.out _).mono ?_
    rintro e w1 ⟨rfl, hn⟩
    replace hk := hk.trans hn
    replace m := m.kept hn
    replace i := i.kept hn
    clear hn
    replace m_l := m.lt
    replace m_0 := m.at 0 _ rfl
    replace m_1 := m.at 1 _ rfl
    replace i_l := i.lt
    replace i_0 := i.at 0 _ rfl
    replace i_1 := i.at 1 _ rfl
    go_wp2_with fail
    refine with_boxes1 ?_
    intro X hX b
    have hsz := hk.size
    replace hk := hk.trans hX
    replace m := m.kept hX
    replace i := i.kept hX
    clear hX
    replace m_l := m.lt
    replace m_0 := m.at 0 _ rfl
    replace m_1 := m.at 1 _ rfl
    replace i_l := i.lt
    replace i_0 := i.at 0 _ rfl
    replace i_1 := i.at 1 _ rfl
    replace b_l := b.lt
    replace b_0 := b.at 0 _ rfl
    replace b_1 := b.at 1 _ rfl
    replace b_2 := b.at 2 _ rfl
    replace b_3 := b.at 3 _ rfl
    refine (refFragsMay_any _ n Z _ (hv.kept hk) (by omega)).mono ?_
    rintro e w1 ⟨rfl, hn⟩
    replace hk := hk.trans hn
    replace m := m.kept hn
    replace i := i.kept hn
    replace b := b.kept hn
    clear hn
    replace m_l := m.lt
    replace m_0 := m.at 0 _ rfl
    replace m_1 := m.at 1 _ rfl
    replace i_l := i.lt
    replace i_0 := i.at 0 _ rfl
    replace i_1 := i.at 1 _ rfl
    replace b_l := b.lt
    replace b_0 := b.at 0 _ rfl
    replace b_1 := b.at 1 _ rfl
    replace b_2 := b.at 2 _ rfl
    replace b_3 := b.at 3 _ rfl
    clear b
    clear b_l b_0 b_1 b_2 b_3
    go_wp2
    clear h1 h2 h3 HP
    obtain ⟨X0, rfl⟩ : ∃ X0 : World, X0 = w1 := ⟨_, rfl⟩
    have hkX := Lib.hid hk
    have hvX := Lib.hid (hv.kept hk)
    have hmX := Lib.hid m
    have hiX := Lib.hid i
    clear hk m i m_l m_0 m_1 i_l i_0 i_1
    go_loopw [10, 11, 12, 13] (fun u i _ _ wx => ∃ k : Nat, k ≤ n ∧ i = .int .i64 k ∧ wx.ownsRow X0.heap.size 70 6 u k (flat 6 (intC (pieceZ wm di ia ib Z)) k) ∧ Kept X0 wx) (fun _ i _ _ _ => n - (intOf i).toNat)
    case atStart => exact ⟨0, Nat.zero_le _, rfl, World.ownsRow_nil _ _ _ _, Kept.refl _⟩
    case round =>
      obtain ⟨k, hk4, rfl, hown, hk1⟩ := hrel
      by_cases hlt : k < n
      · have hi0 : (0 : Int) ≤ (k : Int) := Int.natCast_nonneg _
        have hi1 : (k : Int) < (n : Int) := by omega
        obtain ⟨b, off, rfl, _, hw⟩ := (hvX.out.kept hk1).row (by omega)
        have lbX : b < X0.heap.size := by obtain ⟨b', off', e', _, hw'⟩ := hvX.out.row (by omega); injection e' with e'; injection e' with e1 e2; subst e1; exact World.block_lt_of_cell? _ _ (hw' k 0 hlt (by decide))
        have c0 : wr.cell? ⟨b, off + k * 6, none⟩ = some (.int .i64 (Z k 0)) := hw k 0 hlt (by decide)
        have c1 : wr.cell? ⟨b, off + k * 6 + 1, none⟩ = some (.int .i64 (Z k 1)) := hw k 1 hlt (by decide)
        have c2 : wr.cell? ⟨b, off + k * 6 + 2, none⟩ = some (.int .i64 (Z k 2)) := hw k 2 hlt (by decide)
        have c3 : wr.cell? ⟨b, off + k * 6 + 3, none⟩ = some (.int .i64 (Z k 3)) := hw k 3 hlt (by decide)
        have c4 : wr.cell? ⟨b, off + k * 6 + 4, none⟩ = some (.int .i64 (Z k 4)) := hw k 4 hlt (by decide)
        have c5 : wr.cell? ⟨b, off + k * 6 + 5, none⟩ = some (.int .i64 (Z k 5)) := hw k 5 hlt (by decide)
        have m := hmX.out.kept hk1
        have i := hiX.out.kept hk1
        have m_l := m.lt
        have m_0 := m.at 0 _ rfl
        have m_1 := m.at 1 _ rfl
        have i_l := i.lt
        have i_0 := i.at 0 _ rfl
        have i_1 := i.at 1 _ rfl
        have e3 := Lib.hid (piece_flat wm di ia ib Z k)
        have HP := Lib.hid (fun wx => refPhys_any wm di ia ib (Z k 2) (Z k 3) (Z k 4) (Z k 5) wx)
        clear hw
        generalize physS wm di ia ib (Z k 2) (Z k 3) (Z k 4) (Z k 5) = P at *
        generalize Z k 0 = z0 at *
        generalize Z k 1 = z1 at *
        generalize Z k 2 = z2 at *
        generalize Z k 3 = z3 at *
        generalize Z k 4 = z4 at *
        generalize Z k 5 = z5 at *
        obtain ⟨⟨p0, p1, p2, p3⟩, pe⟩ := P
        have hk := hk1
        have hor : OR wr X0.heap.size 70 6 u10 k (flat 6 (intC (pieceZ wm di ia ib Z)) k) := ⟨hown⟩
        clear hown
        have hXs := hkX.out.size
        go_wp2_with fail
        have lc : b < wr.heap.size := World.block_lt_of_cell? _ _ c0
        have HS := Lib.hid (fun (W : World) (h : Kept wr W) => (show Kept wr W ∧ W.cell? ⟨w.heap.size, 0, none⟩ = some (.int .i64 wm) ∧ W.cell? ⟨w.heap.size, 1, none⟩ = some (.int .i64 di) ∧ W.cell? ⟨w.heap.size + 1, 0, none⟩ = some (.int .i64 ia) ∧ W.cell? ⟨w.heap.size + 1, 1, none⟩ = some (.int .i64 ib) ∧ W.cell? ⟨b, off + k * 6 + 2, none⟩ = some (.int .i64 z2) ∧ W.cell? ⟨b, off + k * 6 + 3, none⟩ = some (.int .i64 z3) ∧ W.cell? ⟨b, off + k * 6 + 4, none⟩ = some (.int .i64 z4) ∧ W.cell? ⟨b, off + k * 6 + 5, none⟩ = some (.int .i64 z5) from ⟨h, (h.cell m_l).trans m_0, (h.cell m_l).trans m_1, (h.cell i_l).trans i_0, (h.cell i_l).trans i_1, (h.cell lc).trans c2, (h.cell lc).trans c3, (h.cell lc).trans c4, (h.cell lc).trans c5⟩))
        have hS0 := HS.out _ (Kept.refl wr).drew
        have hS1 := HS.out _ (((Kept.refl wr).alloc (.cells #[.int .i64 0, .int .i64 0, .int .i64 0, .int .i64 0] 68)).drew)
        go_cut [12, 13] from 34 to 45 (fun sb se wx => ∃ A : Nat, ∃ ev : Value, sb = .pointer (some ⟨A, 0, none⟩) ∧ se = ev ∧ wr.heap.size ≤ A ∧ Kept wr wx ∧ Own wx A 68 #[.int .i64 p0, .int .i64 p1, .int .i64 p2, .int .i64 p3])
        case first =>
          go_region_held3 (fun W => Kept wr W ∧ W.cell? ⟨w.heap.size, 0, none⟩ = some (.int .i64 wm) ∧ W.cell? ⟨w.heap.size, 1, none⟩ = some (.int .i64 di) ∧ W.cell? ⟨w.heap.size + 1, 0, none⟩ = some (.int .i64 ia) ∧ W.cell? ⟨w.heap.size + 1, 1, none⟩ = some (.int .i64 ib) ∧ W.cell? ⟨b, off + k * 6 + 2, none⟩ = some (.int .i64 z2) ∧ W.cell? ⟨b, off + k * 6 + 3, none⟩ = some (.int .i64 z3) ∧ W.cell? ⟨b, off + k * 6 + 4, none⟩ = some (.int .i64 z4) ∧ W.cell? ⟨b, off + k * 6 + 5, none⟩ = some (.int .i64 z5))
            (first | exact hS0 | exact hS1 | assumption | exact HS.out _ ((‹Kept wr _ ∧ _›).1.trans hn) | exact HS.out _ (((Kept.refl wr).drew.trans hn).alloc _) | exact HS.out _ ((‹Kept wr _ ∧ _›).1.alloc _) | exact HS.out _ (((((‹Kept wr w3 ∧ _›).1.set (Nat.le_refl _) _).set (Nat.le_refl _) _).set (Nat.le_refl _) _).set (Nat.le_refl _) _))
            (first
              | (go_at_call 43; (with_reducible refine (HP.out _).mono ?_); rintro e w3 ⟨rfl, hn⟩; have ob : Own w3 wr.heap.size 68 #[.int .i64 0, .int .i64 0, .int .i64 0, .int .i64 0] := (Own.new wr #[.int .i64 0, .int .i64 0, .int .i64 0, .int .i64 0] 68).drew.kept hn; have ob_l := ob.lt; have ob_0 := ob.at 0 _ rfl; have ob_1 := ob.at 1 _ rfl; have ob_2 := ob.at 2 _ rfl; have ob_3 := ob.at 3 _ rfl; have ob_f0 := ob.free 0; have ob_f1 := ob.free 1; have ob_f2 := ob.free 2; have ob_f3 := ob.free 3)
              | (go_at_call 43; (with_reducible refine (HP.out _).mono ?_); rintro e w3 ⟨rfl, hn⟩))
          · go_wp2_with fail
            go_meet
            exact ⟨_, _, rfl, rfl, by have := (‹Kept wr (World.alloc w3 _) ∧ _›).1.size; first | omega | (have := ((Kept.refl wr).drew.trans hn).size; omega), (‹Kept wr (World.alloc w3 _) ∧ _›).1, Own.at_ w3 _ _ rfl⟩
          · go_wp2_with fail
            go_meet
            exact ⟨_, _, rfl, rfl, Nat.le_refl _, (‹Kept wr (World.setCell _ _ _) ∧ _›).1, ((((ob.set 0 _).set 1 _).set 2 _).set 3 _).is rfl⟩
        case rest =>
          obtain ⟨A, ev, rfl, rfl, hA, hn, bx⟩ := hcut
          have lcc := lc
          replace c0 := (hn.cell lc).trans c0
          replace c1 := (hn.cell lc).trans c1
          have hneA : some A ≠ u10.ownBlock := fun e => by have := (hor.own.lt A e.symm).2; omega
          replace hor := hor.kept hn
          have hneb : some b ≠ u10.ownBlock := fun e => by have := row_ge hor.own b e.symm; omega
          replace hk := hk.trans hn
          have lb : b < wc.heap.size := Nat.lt_of_lt_of_le lc hn.size
          have bx_l := bx.lt
          have bx_0 := bx.at 0 _ rfl
          have bx_1 := bx.at 1 _ rfl
          have bx_2 := bx.at 2 _ rfl
          have bx_3 := bx.at 3 _ rfl
          clear c2 c3 c4 c5 m_l m_0 m_1 i_l i_0 i_1 HS hS0 hS1 HP hn lc
          go_wp2_with fail
          have HS2 := Lib.hid (fun (W : World) (h : Kept wc W) => (show Kept X0 W ∧ W.cell? ⟨b, off + k * 6, none⟩ = some (.int .i64 z0) ∧ W.cell? ⟨b, off + k * 6 + 1, none⟩ = some (.int .i64 z1) ∧ W.cell? ⟨A, 0, none⟩ = some (.int .i64 p0) ∧ W.cell? ⟨A, 1, none⟩ = some (.int .i64 p1) ∧ W.cell? ⟨A, 2, none⟩ = some (.int .i64 p2) ∧ W.cell? ⟨A, 3, none⟩ = some (.int .i64 p3) from ⟨hk.trans h, (h.cell lb).trans c0, (h.cell lb).trans c1, (h.cell bx_l).trans bx_0, (h.cell bx_l).trans bx_1, (h.cell bx_l).trans bx_2, (h.cell bx_l).trans bx_3⟩))
          have hS2 := HS2.out _ (Kept.refl wc).drew
          have hS3 := HS2.out _ (((Kept.refl wc).alloc (.cells #[.int .i64 z0, .int .i64 z1, .int .i64 p0, .int .i64 p1, .int .i64 p2, .int .i64 p3] 70)).drew)
          have hXs2 := hk.size
          go_region_held3 (fun W => Kept X0 W ∧ W.cell? ⟨b, off + k * 6, none⟩ = some (.int .i64 z0) ∧ W.cell? ⟨b, off + k * 6 + 1, none⟩ = some (.int .i64 z1) ∧ W.cell? ⟨A, 0, none⟩ = some (.int .i64 p0) ∧ W.cell? ⟨A, 1, none⟩ = some (.int .i64 p1) ∧ W.cell? ⟨A, 2, none⟩ = some (.int .i64 p2) ∧ W.cell? ⟨A, 3, none⟩ = some (.int .i64 p3))
            (first | exact hS2 | exact hS3 | assumption | exact ⟨((hk.alloc _).drew).grown hgrow (fun q hq => row_ge hor.own q hq), (hgrow.cell_far ⟨b, off + k * 6, none⟩ (by simp; omega) hneb).trans hS3.2.1, (hgrow.cell_far ⟨b, off + k * 6 + 1, none⟩ (by simp; omega) hneb).trans hS3.2.2.1, (hgrow.cell_far ⟨A, 0, none⟩ (by simp; omega) hneA).trans hS3.2.2.2.1, (hgrow.cell_far ⟨A, 1, none⟩ (by simp; omega) hneA).trans hS3.2.2.2.2.1, (hgrow.cell_far ⟨A, 2, none⟩ (by simp; omega) hneA).trans hS3.2.2.2.2.2.1, (hgrow.cell_far ⟨A, 3, none⟩ (by simp; omega) hneA).trans hS3.2.2.2.2.2.2⟩)
            ((refine step_append_lies _ (by rfl) _ _ _ (by rfl) X0.heap.size 70 i0 (.agg #[.int .i64 0, .int .i64 0, .int .i64 0, .int .i64 0, .int .i64 0, .int .i64 0]) 6 48 Tryd.underlying53 hi hz0 hz1 hz2 rfl (by decide) _ _ _ (by rfl) ((hor.own.alloc _).drew) ⟨wc.heap.size, 0, none⟩ 1 1 [.int .i64 z0, .int .i64 z1, .int .i64 p0, .int .i64 p1, .int .i64 p2, .int .i64 p3] (by rfl) (by rfl) (World.news_of_block (cs := #[.int .i64 z0, .int .i64 z1, .int .i64 p0, .int .i64 p1, .int .i64 p2, .int .i64 p3]) (t := 70) (fr := (0, 0)) (heap_alloc_new wc _)) (by simp [Value.oneCell']) (by omega) (by unfold maxLen; omega) (by omega) (by simp; omega) (wc.heap.size + 1) (by simp) ?_; intro g4 cap4 w4 hown4 hgrow hat4 hlt4))
          go_wp2
          exact ⟨⟨k + 1, by omega, by first | rfl | go_num, by rw [e3.out]; exact hown4, ((hk.alloc _).drew).grown hgrow (fun q hq => row_ge hor.own q hq)⟩, by first | (simp [intOf]; done) | (simp [intOf]; omega)⟩
      · obtain rfl : k = n := by omega
        go_wp2
        go_ret2
        exact ⟨_, rfl, newRow_of (owns_lower hown (hkX.out.size)), hkX.out.trans hk1⟩
  · cases h9
theorem refPieces_any (wm di ia ib : Int) (v : Value) (n : Nat) (Z : Nat → Nat → Int) (w : World) (hv : RV 6 w v n (intC Z)) (hn : n ≤ 4611686018427387904) :
    Calls Tryd.prog 23 #[modeV wm di, sizeV ia ib, v] w (PiecesAll wm di ia ib n Z w) := by
  cases h : piecesB wm di ia ib n Z with
  | false => exact refPieces_bad wm di ia ib v n Z w hv hn h
  | true =>
    obtain ⟨o, cap, rfl⟩ := hv.shape
    have h' := h
    unfold piecesB at h'
    simp only [Bool.and_eq_true] at h'
    exact (refPieces_ok wm di ia ib o n cap Z w hv h'.1.1 h'.1.2 h'.2).mono fun e w' ⟨u, he, hr, hk⟩ => by rw [he]; exact pieces_yes h hr hk
end Go.Proofs.YtpeoadnnemlphaaDoor
