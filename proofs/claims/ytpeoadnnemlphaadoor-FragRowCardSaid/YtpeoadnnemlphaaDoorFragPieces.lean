/- Layer 23: frag.Pieces. -/
import Derived.Test.YtpeoadnnemlphaaDoorFragMay
import Derived.Test.YtpeoadnnemlphaaDoorGeomP
import Derived.Test.YtpeoadnnemlphaaDoorRowPieces
import Derived.Test.YtpeoadnnemlphaaDoorShape
import Derived.Test.YtpeoadnnemlphaaDoorStore
namespace Go.Proofs.YtpeoadnnemlphaaDoor
open Go.RowKit Go.Deep
set_option linter.unusedSimpArgs false
set_option linter.unusedVariables false
def pieceZ (wm di ia ib : Int) (Z : Nat → Nat → Int) (i : Nat) : Nat → Int
  | 0 => Z i 0
  | 1 => Z i 1
  | 2 => (physS wm di ia ib (Z i 2) (Z i 3) (Z i 4) (Z i 5)).1.1
  | 3 => (physS wm di ia ib (Z i 2) (Z i 3) (Z i 4) (Z i 5)).1.2.1
  | 4 => (physS wm di ia ib (Z i 2) (Z i 3) (Z i 4) (Z i 5)).1.2.2.1
  | _ => (physS wm di ia ib (Z i 2) (Z i 3) (Z i 4) (Z i 5)).1.2.2.2
def piecesB (wm di ia ib : Int) (n : Nat) (Z : Nat → Nat → Int) : Bool := mayF n Z && modeMayB wm di && sizedB ia ib
def piecesE (wm di ia ib : Int) (n : Nat) (Z : Nat → Nat → Int) : Int := if piecesB wm di ia ib n Z = true then 0 else 2300
def piecesN (wm di ia ib : Int) (n : Nat) (Z : Nat → Nat → Int) : Nat := if piecesB wm di ia ib n Z = true then n else 0
def PiecesAll (wm di ia ib : Int) (n : Nat) (Z : Nat → Nat → Int) (w : World) (e : Ending) (w' : World) : Prop :=
  ∃ u, e = .returned (.tuple #[u, .int .i64 (piecesE wm di ia ib n Z)]) ∧ NewRow 70 6 w w' u (piecesN wm di ia ib n Z) (intC (pieceZ wm di ia ib Z)) ∧ Kept w w'
theorem pieces_no {wm di ia ib : Int} {n : Nat} {Z : Nat → Nat → Int} {w w' : World} (h : piecesB wm di ia ib n Z = false) (k : Kept w w') : PiecesAll wm di ia ib n Z w (.returned (.tuple #[.slice none 0 0, .int .i64 2300])) w' :=
  ⟨_, by unfold piecesE; rw [h]; rfl, by unfold piecesN; rw [h]; exact newRow_none _ _ _ _ _, k⟩
theorem pieces_yes {wm di ia ib : Int} {n : Nat} {Z : Nat → Nat → Int} {w w' : World} {u : Value} (h : piecesB wm di ia ib n Z = true) (hr : NewRow 70 6 w w' u n (intC (pieceZ wm di ia ib Z))) (k : Kept w w') : PiecesAll wm di ia ib n Z w (.returned (.tuple #[u, .int .i64 0])) w' :=
  ⟨u, by unfold piecesE; rw [h]; rfl, by unfold piecesN; rw [h]; exact hr, k⟩
theorem piece_flat (wm di ia ib : Int) (Z : Nat → Nat → Int) (k : Nat) : flat 6 (intC (pieceZ wm di ia ib Z)) (k + 1) = flat 6 (intC (pieceZ wm di ia ib Z)) k ++ [.int .i64 (Z k 0), .int .i64 (Z k 1), .int .i64 (physS wm di ia ib (Z k 2) (Z k 3) (Z k 4) (Z k 5)).1.1, .int .i64 (physS wm di ia ib (Z k 2) (Z k 3) (Z k 4) (Z k 5)).1.2.1, .int .i64 (physS wm di ia ib (Z k 2) (Z k 3) (Z k 4) (Z k 5)).1.2.2.1, .int .i64 (physS wm di ia ib (Z k 2) (Z k 3) (Z k 4) (Z k 5)).1.2.2.2] := rfl
theorem fragPieces_bad (wm di ia ib : Int) (v : Value) (n : Nat) (Z : Nat → Nat → Int) (w : World) (hv : RV 6 w v n (intC Z)) (hn : n ≤ 4611686018427387904) (ht : Tab w) (h : piecesB wm di ia ib n Z = false) :
    Calls Tryd.prog 22 #[modeV wm di, sizeV ia ib, v] w (PiecesAll wm di ia ib n Z w) := by
  cases h1 : mayF n Z with
  | false =>
    have Hs := Lib.hid h
    clear h
    have hk : Kept w w := Kept.refl w
    go_enter Tryd.func22, Tryd.ntmps22
    go_wp2_with fail
    refine with_boxes2 ?_
    intro X hX m i
    have hsz := hk.size
    replace hk := hk.trans hX
    clear hX
    replace m_l := m.lt
    replace m_0 := m.at 0 _ rfl
    replace m_1 := m.at 1 _ rfl
    replace i_l := i.lt
    replace i_0 := i.at 0 _ rfl
    replace i_1 := i.at 1 _ rfl
    refine (fragMay_any _ n Z _ (hv.kept hk) hn).mono ?_
    rintro e w1 ⟨rfl, hn⟩
    replace hk := hk.trans hn
    replace m := m.kept hn
    replace i := i.kept hn
    clear hn
    replace m_l := m.lt
    replace m_0 := m.at 0 _ rfl
    replace m_1 := m.at 1 _ rfl
    replace i_l := i.lt
    replace i_0 := i.at 0 _ rfl
    replace i_1 := i.at 1 _ rfl
    go_wp2
    go_ret2
    exact pieces_no Hs.out hk
  | true =>
    cases h2 : modeMayB wm di with
    | false =>
      have Hs := Lib.hid h
      clear h
      have hk : Kept w w := Kept.refl w
      go_enter Tryd.func22, Tryd.ntmps22
      go_wp2_with fail
      refine with_boxes2 ?_
      intro X hX m i
      have hsz := hk.size
      replace hk := hk.trans hX
      clear hX
      replace m_l := m.lt
      replace m_0 := m.at 0 _ rfl
      replace m_1 := m.at 1 _ rfl
      replace i_l := i.lt
      replace i_0 := i.at 0 _ rfl
      replace i_1 := i.at 1 _ rfl
      refine (fragMay_any _ n Z _ (hv.kept hk) hn).mono ?_
      rintro e w1 ⟨rfl, hn⟩
      replace hk := hk.trans hn
      replace m := m.kept hn
      replace i := i.kept hn
      clear hn
      replace m_l := m.lt
      replace m_0 := m.at 0 _ rfl
      replace m_1 := m.at 1 _ rfl
      replace i_l := i.lt
      replace i_0 := i.at 0 _ rfl
      replace i_1 := i.at 1 _ rfl
      go_wp2_with fail
      refine (modeMay_any _ _ _).mono ?_
      rintro e w1 ⟨rfl, hn⟩
      replace hk := hk.trans hn
      replace m := m.kept hn
      replace i := i.kept hn
      clear hn
      replace m_l := m.lt
      replace m_0 := m.at 0 _ rfl
      replace m_1 := m.at 1 _ rfl
      replace i_l := i.lt
      replace i_0 := i.at 0 _ rfl
      replace i_1 := i.at 1 _ rfl
      go_wp2
      go_ret2
      exact pieces_no Hs.out hk
    | true =>
      have h3 : sizedB ia ib = false := by unfold piecesB at h; rw [h1, h2] at h; exact h
      have Hs := Lib.hid h
      clear h
      have hk : Kept w w := Kept.refl w
      go_enter Tryd.func22, Tryd.ntmps22
      go_wp2_with fail
      refine with_boxes2 ?_
      intro X hX m i
      have hsz := hk.size
      replace hk := hk.trans hX
      clear hX
      replace m_l := m.lt
      replace m_0 := m.at 0 _ rfl
      replace m_1 := m.at 1 _ rfl
      replace i_l := i.lt
      replace i_0 := i.at 0 _ rfl
      replace i_1 := i.at 1 _ rfl
      refine (fragMay_any _ n Z _ (hv.kept hk) hn).mono ?_
      rintro e w1 ⟨rfl, hn⟩
      replace hk := hk.trans hn
      replace m := m.kept hn
      replace i := i.kept hn
      clear hn
      replace m_l := m.lt
      replace m_0 := m.at 0 _ rfl
      replace m_1 := m.at 1 _ rfl
      replace i_l := i.lt
      replace i_0 := i.at 0 _ rfl
      replace i_1 := i.at 1 _ rfl
      go_wp2_with fail
      refine (modeMay_any _ _ _).mono ?_
      rintro e w1 ⟨rfl, hn⟩
      replace hk := hk.trans hn
      replace m := m.kept hn
      replace i := i.kept hn
      clear hn
      replace m_l := m.lt
      replace m_0 := m.at 0 _ rfl
      replace m_1 := m.at 1 _ rfl
      replace i_l := i.lt
      replace i_0 := i.at 0 _ rfl
      replace i_1 := i.at 1 _ rfl
      go_wp2_with fail
      refine with_boxes1 ?_
      intro X hX x
      have hsz := hk.size
      replace hk := hk.trans hX
      replace m := m.kept hX
      replace i := i.kept hX
      clear hX
      replace m_l := m.lt
      replace m_0 := m.at 0 _ rfl
      replace m_1 := m.at 1 _ rfl
      replace i_l := i.lt
      replace i_0 := i.at 0 _ rfl
      replace i_1 := i.at 1 _ rfl
      replace x_l := x.lt
      replace x_0 := x.at 0 _ rfl
      replace x_1 := x.at 1 _ rfl
      refine (eachSized_any _ _ _ _ x_0 x_1).mono ?_
      rintro e w1 ⟨rfl, rfl⟩
      go_wp2
      go_ret2
      exact pieces_no Hs.out hk
set_option maxRecDepth 20000 in
set_option maxHeartbeats 4000000 in
theorem fragPieces_ok (wm di ia ib : Int) (o : Option Addr) (n cap : Nat) (Z : Nat → Nat → Int) (w : World) (hv : RV 6 w (.slice o n cap) n (intC Z)) (ht : Tab w) (h1 : mayF n Z = true) (h2 : modeMayB wm di = true) (h3 : sizedB ia ib = true) :
    Calls Tryd.prog 22 #[modeV wm di, sizeV ia ib, .slice o n cap] w fun e w' => ∃ u, e = .returned (.tuple #[u, .int .i64 0]) ∧ NewRow 70 6 w w' u n (intC (pieceZ wm di ia ib Z)) ∧ Kept w w' := by
  obtain ⟨i0, hi, hz0, hz1, hz2⟩ := info_parts piecesInfo
  have h40 : n ≤ 4096 := (mayF_true.1 h1).1
  have hk : Kept w w := Kept.refl w
  go_enter Tryd.func22, Tryd.ntmps22
  go_wp2_with fail
  refine with_boxes2 ?_
  intro X hX m i
  have hsz := hk.size
  replace hk := hk.trans hX
  clear hX
  replace m_l := m.lt
  replace m_0 := m.at 0 _ rfl
  replace m_1 := m.at 1 _ rfl
  replace i_l := i.lt
  replace i_0 := i.at 0 _ rfl
  replace i_1 := i.at 1 _ rfl
  refine (fragMay_any _ n Z _ (hv.kept hk) (by omega)).mono ?_
  rintro e w1 ⟨rfl, hn⟩
  replace hk := hk.trans hn
  replace m := m.kept hn
  replace i := i.kept hn
  clear hn
  replace m_l := m.lt
  replace m_0 := m.at 0 _ rfl
  replace m_1 := m.at 1 _ rfl
  replace i_l := i.lt
  replace i_0 := i.at 0 _ rfl
  replace i_1 := i.at 1 _ rfl
  go_wp2_with fail
  refine (modeMay_any _ _ _).mono ?_
  rintro e w1 ⟨rfl, hn⟩
  replace hk := hk.trans hn
  replace m := m.kept hn
  replace i := i.kept hn
  clear hn
  replace m_l := m.lt
  replace m_0 := m.at 0 _ rfl
  replace m_1 := m.at 1 _ rfl
  replace i_l := i.lt
  replace i_0 := i.at 0 _ rfl
  replace i_1 := i.at 1 _ rfl
  go_wp2_with fail
  refine with_boxes1 ?_
  intro X hX x
  have hsz := hk.size
  replace hk := hk.trans hX
  replace m := m.kept hX
  replace i := i.kept hX
  clear hX
  replace m_l := m.lt
  replace m_0 := m.at 0 _ rfl
  replace m_1 := m.at 1 _ rfl
  replace i_l := i.lt
  replace i_0 := i.at 0 _ rfl
  replace i_1 := i.at 1 _ rfl
  replace x_l := x.lt
  replace x_0 := x.at 0 _ rfl
  replace x_1 := x.at 1 _ rfl
  refine (eachSized_any _ _ _ _ x_0 x_1).mono ?_
  rintro e w1 ⟨rfl, rfl⟩
  clear x
  clear x_l x_0 x_1
  go_wp2
  clear h1 h2 h3
  obtain ⟨X0, rfl⟩ : ∃ X0 : World, X0 = X := ⟨_, rfl⟩
  have hkX := Lib.hid hk
  have htX := Lib.hid (ht.kept hk)
  have hvX := Lib.hid (hv.kept hk)
  have hmX := Lib.hid m
  have hiX := Lib.hid i
  clear hk m i m_l m_0 m_1 i_l i_0 i_1
  go_loopw [8, 10, 11, 12, 32] (fun u _ _ _ i wx => ∃ k : Nat, k ≤ n ∧ i = .int .i64 k ∧ wx.ownsRow X0.heap.size 70 6 u k (flat 6 (intC (pieceZ wm di ia ib Z)) k) ∧ Kept X0 wx) (fun _ _ _ _ i _ => n - (intOf i).toNat)
  case atStart => exact ⟨0, Nat.zero_le _, rfl, World.ownsRow_nil _ _ _ _, Kept.refl _⟩
  case round =>
    obtain ⟨k, hk4, rfl, hown, hk1⟩ := hrel
    by_cases hlt : k < n
    · have hi0 : (0 : Int) ≤ (k : Int) := Int.natCast_nonneg _
      have hi1 : (k : Int) < (n : Int) := by omega
      obtain ⟨b, off, rfl, _, hw⟩ := (hvX.out.kept hk1).row (by omega)
      have c0 : wr.cell? ⟨b, off + k * 6, none⟩ = some (.int .i64 (Z k 0)) := hw k 0 hlt (by decide)
      have c1 : wr.cell? ⟨b, off + k * 6 + 1, none⟩ = some (.int .i64 (Z k 1)) := hw k 1 hlt (by decide)
      have c2 : wr.cell? ⟨b, off + k * 6 + 2, none⟩ = some (.int .i64 (Z k 2)) := hw k 2 hlt (by decide)
      have c3 : wr.cell? ⟨b, off + k * 6 + 3, none⟩ = some (.int .i64 (Z k 3)) := hw k 3 hlt (by decide)
      have c4 : wr.cell? ⟨b, off + k * 6 + 4, none⟩ = some (.int .i64 (Z k 4)) := hw k 4 hlt (by decide)
      have c5 : wr.cell? ⟨b, off + k * 6 + 5, none⟩ = some (.int .i64 (Z k 5)) := hw k 5 hlt (by decide)
      have m := hmX.out.kept hk1
      have i := hiX.out.kept hk1
      have m_l := m.lt
      have m_0 := m.at 0 _ rfl
      have m_1 := m.at 1 _ rfl
      have i_l := i.lt
      have i_0 := i.at 0 _ rfl
      have i_1 := i.at 1 _ rfl
      have e3 := Lib.hid (piece_flat wm di ia ib Z k)
      have HP := Lib.hid (fun wx (hx : Kept X0 wx) => phys_any wm di ia ib (Z k 2) (Z k 3) (Z k 4) (Z k 5) wx (htX.out.kept hx))
      clear hw
      generalize physS wm di ia ib (Z k 2) (Z k 3) (Z k 4) (Z k 5) = P at *
      generalize Z k 0 = z0 at *
      generalize Z k 1 = z1 at *
      generalize Z k 2 = z2 at *
      generalize Z k 3 = z3 at *
      generalize Z k 4 = z4 at *
      generalize Z k 5 = z5 at *
      obtain ⟨⟨p0, p1, p2, p3⟩, pe⟩ := P
      have hk := hk1
      have hor : OR wr X0.heap.size 70 6 u8 k (flat 6 (intC (pieceZ wm di ia ib Z)) k) := ⟨hown⟩
      clear hown
      have hXs := hkX.out.size
      go_wp2_with fail
      go_wp2_with fail
      refine with_boxes1 ?_
      intro X hX f
      have hsz := hk.size
      replace hk := hk.trans hX
      replace m := m.kept hX
      replace i := i.kept hX
      replace hor := hor.kept hX
      clear hX
      replace m_l := m.lt
      replace m_0 := m.at 0 _ rfl
      replace m_1 := m.at 1 _ rfl
      replace i_l := i.lt
      replace i_0 := i.at 0 _ rfl
      replace i_1 := i.at 1 _ rfl
      replace f_l := f.lt
      replace f_0 := f.at 0 _ rfl
      replace f_1 := f.at 1 _ rfl
      replace f_2 := f.at 2 _ rfl
      replace f_3 := f.at 3 _ rfl
      replace f_4 := f.at 4 _ rfl
      replace f_5 := f.at 5 _ rfl
      refine (HP.out _ hk).mono ?_
      rintro e w1 ⟨rfl, hn⟩
      replace hk := hk.trans hn
      replace m := m.kept hn
      replace i := i.kept hn
      replace hor := hor.kept hn
      replace f := f.kept hn
      clear hn
      replace m_l := m.lt
      replace m_0 := m.at 0 _ rfl
      replace m_1 := m.at 1 _ rfl
      replace i_l := i.lt
      replace i_0 := i.at 0 _ rfl
      replace i_1 := i.at 1 _ rfl
      replace f_l := f.lt
      replace f_0 := f.at 0 _ rfl
      replace f_1 := f.at 1 _ rfl
      replace f_2 := f.at 2 _ rfl
      replace f_3 := f.at 3 _ rfl
      replace f_4 := f.at 4 _ rfl
      replace f_5 := f.at 5 _ rfl
      clear c0 c1 c2 c3 c4 c5 m_l m_0 m_1 i_l i_0 i_1
      go_wp2_with (at_builtin; refine wpList_append_own _ rfl _ _ 53 rfl X0.heap.size 70 i0 (.agg #[.int .i64 0, .int .i64 0, .int .i64 0, .int .i64 0, .int .i64 0, .int .i64 0]) 6 48 Tryd.underlying53 hi hz0 hz1 hz2 rfl (by decide) _ _ _ rfl ((hor.own.alloc _).alloc _) ⟨w1.heap.size + 1, 0, none⟩ 1 1 [.int .i64 z0, .int .i64 z1, .int .i64 p0, .int .i64 p1, .int .i64 p2, .int .i64 p3] rfl rfl (lit_at (w1.alloc (.cells #[.int .i64 p0, .int .i64 p1, .int .i64 p2, .int .i64 p3] 68)) #[.int .i64 z0, .int .i64 z1, .int .i64 p0, .int .i64 p1, .int .i64 p2, .int .i64 p3] 70 (by simp)) (by simp [Value.oneCell']) (by unfold maxLen; omega) (by omega) (by have h9 := hk.size; simp; omega) ?_; intro v2 w2 hown2 hg2 _)
      exact ⟨⟨k + 1, by omega, by first | rfl | go_num, by rw [e3.out]; exact hown2, ((hk.alloc _).alloc _).grown hg2 (fun q hq => row_ge hor.own q hq)⟩, by first | (simp [intOf]; done) | (simp [intOf]; omega)⟩
    · obtain rfl : k = n := by omega
      go_wp2
      go_ret2
      exact ⟨_, rfl, newRow_of (owns_lower hown (hkX.out.size)), hkX.out.trans hk1⟩
theorem fragPieces_any (wm di ia ib : Int) (v : Value) (n : Nat) (Z : Nat → Nat → Int) (w : World) (hv : RV 6 w v n (intC Z)) (hn : n ≤ 4611686018427387904) (ht : Tab w) :
    Calls Tryd.prog 22 #[modeV wm di, sizeV ia ib, v] w (PiecesAll wm di ia ib n Z w) := by
  cases h : piecesB wm di ia ib n Z with
  | false => exact fragPieces_bad wm di ia ib v n Z w hv hn ht h
  | true =>
    obtain ⟨o, cap, rfl⟩ := hv.shape
    have h' := h
    unfold piecesB at h'
    simp only [Bool.and_eq_true] at h'
    exact (fragPieces_ok wm di ia ib o n cap Z w hv ht h'.1.1 h'.1.2 h'.2).mono fun e w' ⟨u, he, hr, hk⟩ => by rw [he]; exact pieces_yes h hr hk
end Go.Proofs.YtpeoadnnemlphaaDoor
