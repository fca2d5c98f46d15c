/- Layer 6: lines.Fill. -/
import Derived.Test.YtkonpnaedniceaaWid
import Derived.Test.YtkonpnaedniceaaGlyph
import Derived.Test.YtkonpnaedniceaaUnit
namespace Go.Proofs.Ytkonpnaedniceaa
open Go.RowKit
set_option linter.unusedSimpArgs false
set_option linter.unusedVariables false
set_option maxHeartbeats 1000000 in
theorem linesFill_none (sl : Option Addr) (cap : Nat) (f room : Int) (w : World) :
    Calls Try.prog 8 #[.slice sl 0 cap, .int .i64 f, .int .i64 room] w fun e w' => e = .returned (.tuple #[lineV 0 0 0, .int .i64 600]) ∧ Kept w w' := by
  have hm : mayW 0 (fun _ => 0) = true := rfl
  have Hs := Lib.hid (rfl : lineV 0 0 0 = lineV 0 0 0)
  by_cases h0 : f < 0
  · skip
    have hk : Kept w w := Kept.refl w
    go_enter Try.func8, Try.ntmps8
    go_wp2_with fail
    refine with_boxes1 ?_
    intro X hX o
    have hsz := hk.size
    replace hk := hk.trans hX
    clear hX
    refine (linesMay_none _ _ (fun _ => 0) _).mono ?_
    rintro e w1 ⟨rfl, hn⟩
    replace hk := hk.trans hn
    replace o := o.kept hn
    clear hn
    replace o_l := o.lt
    replace o_0 := o.at 0 _ rfl
    replace o_f0 := o.free 0
    replace o_1 := o.at 1 _ rfl
    replace o_f1 := o.free 1
    replace o_2 := o.at 2 _ rfl
    replace o_f2 := o.free 2
    go_wp2
    exact bodyPost_ret (v := .tuple #[lineV 0 0 0, .int .i64 600]) (by simp [results, Try.results8, go_sem, o_0, o_1, o_2, o_l]) rfl ⟨by first | (rw [Hs.out]; done) | rfl, (by first | ((repeat (first | with_reducible exact hk | with_reducible refine Kept.alloc ?_ _ | with_reducible refine Kept.drew ?_ | with_reducible refine Kept.drewN ?_ _ | with_reducible refine Kept.set ?_ (by first | (simp; done) | (simp; omega) | omega) _)); done) | exact hk | exact (hk.alloc _) | exact ((hk.alloc _).alloc _) | exact (((hk.alloc _).alloc _).alloc _) | exact ((((hk.alloc _).alloc _).alloc _).alloc _) | exact (((((hk.alloc _).alloc _).alloc _).alloc _).alloc _) | exact ((((((hk.alloc _).alloc _).alloc _).alloc _).alloc _).alloc _) | (repeat (first | exact hk | refine Kept.alloc ?_ _ | refine Kept.drew ?_ | refine Kept.drewN ?_ _ | refine Kept.set ?_ (by first | (simp; done) | (simp; omega) | omega) _)))⟩
  · have h0' : 0 ≤ f := by omega
    have hk : Kept w w := Kept.refl w
    go_enter Try.func8, Try.ntmps8
    go_wp2_with fail
    refine with_boxes1 ?_
    intro X hX o
    have hsz := hk.size
    replace hk := hk.trans hX
    clear hX
    refine (linesMay_none _ _ (fun _ => 0) _).mono ?_
    rintro e w1 ⟨rfl, hn⟩
    replace hk := hk.trans hn
    replace o := o.kept hn
    clear hn
    replace o_l := o.lt
    replace o_0 := o.at 0 _ rfl
    replace o_f0 := o.free 0
    replace o_1 := o.at 1 _ rfl
    replace o_f1 := o.free 1
    replace o_2 := o.at 2 _ rfl
    replace o_f2 := o.free 2
    go_wp2
    exact bodyPost_ret (v := .tuple #[lineV 0 0 0, .int .i64 600]) (by simp [results, Try.results8, go_sem, o_0, o_1, o_2, o_l]) rfl ⟨by first | (rw [Hs.out]; done) | rfl, (by first | ((repeat (first | with_reducible exact hk | with_reducible refine Kept.alloc ?_ _ | with_reducible refine Kept.drew ?_ | with_reducible refine Kept.drewN ?_ _ | with_reducible refine Kept.set ?_ (by first | (simp; done) | (simp; omega) | omega) _)); done) | exact hk | exact (hk.alloc _) | exact ((hk.alloc _).alloc _) | exact (((hk.alloc _).alloc _).alloc _) | exact ((((hk.alloc _).alloc _).alloc _).alloc _) | exact (((((hk.alloc _).alloc _).alloc _).alloc _).alloc _) | exact ((((((hk.alloc _).alloc _).alloc _).alloc _).alloc _).alloc _) | (repeat (first | exact hk | refine Kept.alloc ?_ _ | refine Kept.drew ?_ | refine Kept.drewN ?_ _ | refine Kept.set ?_ (by first | (simp; done) | (simp; omega) | omega) _)))⟩
set_option maxHeartbeats 1000000 in
theorem linesFill_bad1 (b off n cap : Nat) (S : Nat → ByteArray) (A G : Nat → Int) (f room : Int) (w : World) (hw : WordsAt w b off n S A G) (h1 : mayW n A = false) :
    Calls Try.prog 8 #[.slice (some ⟨b, off, none⟩) n cap, .int .i64 f, .int .i64 room] w fun e w' => e = .returned (.tuple #[lineV 0 0 0, .int .i64 600]) ∧ Kept w w' := by
  have Hs := Lib.hid (rfl : lineV 0 0 0 = lineV 0 0 0)
  have hk : Kept w w := Kept.refl w
  go_enter Try.func8, Try.ntmps8
  go_wp2_with fail
  refine with_boxes1 ?_
  intro X hX o
  have hsz := hk.size
  replace hk := hk.trans hX
  clear hX
  refine (linesMay_some _ _ _ _ S A G _ (hw.kept hk)).mono ?_
  rintro e w1 ⟨rfl, hn⟩
  replace hk := hk.trans hn
  replace o := o.kept hn
  clear hn
  replace o_l := o.lt
  replace o_0 := o.at 0 _ rfl
  replace o_f0 := o.free 0
  replace o_1 := o.at 1 _ rfl
  replace o_f1 := o.free 1
  replace o_2 := o.at 2 _ rfl
  replace o_f2 := o.free 2
  go_wp2
  exact bodyPost_ret (v := .tuple #[lineV 0 0 0, .int .i64 600]) (by simp [results, Try.results8, go_sem, o_0, o_1, o_2, o_l]) rfl ⟨by first | (rw [Hs.out]; done) | rfl, (by first | ((repeat (first | with_reducible exact hk | with_reducible refine Kept.alloc ?_ _ | with_reducible refine Kept.drew ?_ | with_reducible refine Kept.drewN ?_ _ | with_reducible refine Kept.set ?_ (by first | (simp; done) | (simp; omega) | omega) _)); done) | exact hk | exact (hk.alloc _) | exact ((hk.alloc _).alloc _) | exact (((hk.alloc _).alloc _).alloc _) | exact ((((hk.alloc _).alloc _).alloc _).alloc _) | exact (((((hk.alloc _).alloc _).alloc _).alloc _).alloc _) | exact ((((((hk.alloc _).alloc _).alloc _).alloc _).alloc _).alloc _) | (repeat (first | exact hk | refine Kept.alloc ?_ _ | refine Kept.drew ?_ | refine Kept.drewN ?_ _ | refine Kept.set ?_ (by first | (simp; done) | (simp; omega) | omega) _)))⟩
set_option maxHeartbeats 1000000 in
theorem linesFill_bad2 (b off n cap : Nat) (S : Nat → ByteArray) (A G : Nat → Int) (f room : Int) (w : World) (hw : WordsAt w b off n S A G) (h1 : mayW n A = true) (h2 : f < 0) :
    Calls Try.prog 8 #[.slice (some ⟨b, off, none⟩) n cap, .int .i64 f, .int .i64 room] w fun e w' => e = .returned (.tuple #[lineV 0 0 0, .int .i64 600]) ∧ Kept w w' := by
  have Hs := Lib.hid (rfl : lineV 0 0 0 = lineV 0 0 0)
  have hk : Kept w w := Kept.refl w
  go_enter Try.func8, Try.ntmps8
  go_wp2_with fail
  refine with_boxes1 ?_
  intro X hX o
  have hsz := hk.size
  replace hk := hk.trans hX
  clear hX
  refine (linesMay_some _ _ _ _ S A G _ (hw.kept hk)).mono ?_
  rintro e w1 ⟨rfl, hn⟩
  replace hk := hk.trans hn
  replace o := o.kept hn
  clear hn
  replace o_l := o.lt
  replace o_0 := o.at 0 _ rfl
  replace o_f0 := o.free 0
  replace o_1 := o.at 1 _ rfl
  replace o_f1 := o.free 1
  replace o_2 := o.at 2 _ rfl
  replace o_f2 := o.free 2
  go_wp2
  exact bodyPost_ret (v := .tuple #[lineV 0 0 0, .int .i64 600]) (by simp [results, Try.results8, go_sem, o_0, o_1, o_2, o_l]) rfl ⟨by first | (rw [Hs.out]; done) | rfl, (by first | ((repeat (first | with_reducible exact hk | with_reducible refine Kept.alloc ?_ _ | with_reducible refine Kept.drew ?_ | with_reducible refine Kept.drewN ?_ _ | with_reducible refine Kept.set ?_ (by first | (simp; done) | (simp; omega) | omega) _)); done) | exact hk | exact (hk.alloc _) | exact ((hk.alloc _).alloc _) | exact (((hk.alloc _).alloc _).alloc _) | exact ((((hk.alloc _).alloc _).alloc _).alloc _) | exact (((((hk.alloc _).alloc _).alloc _).alloc _).alloc _) | exact ((((((hk.alloc _).alloc _).alloc _).alloc _).alloc _).alloc _) | (repeat (first | exact hk | refine Kept.alloc ?_ _ | refine Kept.drew ?_ | refine Kept.drewN ?_ _ | refine Kept.set ?_ (by first | (simp; done) | (simp; omega) | omega) _)))⟩
set_option maxHeartbeats 1000000 in
theorem linesFill_bad3 (b off n cap : Nat) (S : Nat → ByteArray) (A G : Nat → Int) (f room : Int) (w : World) (hw : WordsAt w b off n S A G) (h1 : mayW n A = true) (h2 : 0 ≤ f) (h3 : (n : Int) ≤ f) :
    Calls Try.prog 8 #[.slice (some ⟨b, off, none⟩) n cap, .int .i64 f, .int .i64 room] w fun e w' => e = .returned (.tuple #[lineV 0 0 0, .int .i64 600]) ∧ Kept w w' := by
  have Hs := Lib.hid (rfl : lineV 0 0 0 = lineV 0 0 0)
  have hk : Kept w w := Kept.refl w
  go_enter Try.func8, Try.ntmps8
  go_wp2_with fail
  refine with_boxes1 ?_
  intro X hX o
  have hsz := hk.size
  replace hk := hk.trans hX
  clear hX
  refine (linesMay_some _ _ _ _ S A G _ (hw.kept hk)).mono ?_
  rintro e w1 ⟨rfl, hn⟩
  replace hk := hk.trans hn
  replace o := o.kept hn
  clear hn
  replace o_l := o.lt
  replace o_0 := o.at 0 _ rfl
  replace o_f0 := o.free 0
  replace o_1 := o.at 1 _ rfl
  replace o_f1 := o.free 1
  replace o_2 := o.at 2 _ rfl
  replace o_f2 := o.free 2
  go_wp2
  exact bodyPost_ret (v := .tuple #[lineV 0 0 0, .int .i64 600]) (by simp [results, Try.results8, go_sem, o_0, o_1, o_2, o_l]) rfl ⟨by first | (rw [Hs.out]; done) | rfl, (by first | ((repeat (first | with_reducible exact hk | with_reducible refine Kept.alloc ?_ _ | with_reducible refine Kept.drew ?_ | with_reducible refine Kept.drewN ?_ _ | with_reducible refine Kept.set ?_ (by first | (simp; done) | (simp; omega) | omega) _)); done) | exact hk | exact (hk.alloc _) | exact ((hk.alloc _).alloc _) | exact (((hk.alloc _).alloc _).alloc _) | exact ((((hk.alloc _).alloc _).alloc _).alloc _) | exact (((((hk.alloc _).alloc _).alloc _).alloc _).alloc _) | exact ((((((hk.alloc _).alloc _).alloc _).alloc _).alloc _).alloc _) | (repeat (first | exact hk | refine Kept.alloc ?_ _ | refine Kept.drew ?_ | refine Kept.drewN ?_ _ | refine Kept.set ?_ (by first | (simp; done) | (simp; omega) | omega) _)))⟩
set_option maxHeartbeats 1000000 in
theorem linesFill_bad4 (b off n cap : Nat) (S : Nat → ByteArray) (A G : Nat → Int) (f room : Int) (w : World) (hw : WordsAt w b off n S A G) (h1 : mayW n A = true) (h2 : 0 ≤ f) (h3 : f < (n : Int)) (h4 : mayB room = false) :
    Calls Try.prog 8 #[.slice (some ⟨b, off, none⟩) n cap, .int .i64 f, .int .i64 room] w fun e w' => e = .returned (.tuple #[lineV 0 0 0, .int .i64 600]) ∧ Kept w w' := by
  have Hs := Lib.hid (rfl : lineV 0 0 0 = lineV 0 0 0)
  have hk : Kept w w := Kept.refl w
  go_enter Try.func8, Try.ntmps8
  go_wp2_with fail
  refine with_boxes1 ?_
  intro X hX o
  have hsz := hk.size
  replace hk := hk.trans hX
  clear hX
  refine (linesMay_some _ _ _ _ S A G _ (hw.kept hk)).mono ?_
  rintro e w1 ⟨rfl, hn⟩
  replace hk := hk.trans hn
  replace o := o.kept hn
  clear hn
  go_wp2_with fail
  refine (unitMay_any _ _).mono ?_
  rintro e w1 ⟨rfl, hn⟩
  replace hk := hk.trans hn
  replace o := o.kept hn
  clear hn
  replace o_l := o.lt
  replace o_0 := o.at 0 _ rfl
  replace o_f0 := o.free 0
  replace o_1 := o.at 1 _ rfl
  replace o_f1 := o.free 1
  replace o_2 := o.at 2 _ rfl
  replace o_f2 := o.free 2
  go_wp2
  exact bodyPost_ret (v := .tuple #[lineV 0 0 0, .int .i64 600]) (by simp [results, Try.results8, go_sem, o_0, o_1, o_2, o_l]) rfl ⟨by first | (rw [Hs.out]; done) | rfl, (by first | ((repeat (first | with_reducible exact hk | with_reducible refine Kept.alloc ?_ _ | with_reducible refine Kept.drew ?_ | with_reducible refine Kept.drewN ?_ _ | with_reducible refine Kept.set ?_ (by first | (simp; done) | (simp; omega) | omega) _)); done) | exact hk | exact (hk.alloc _) | exact ((hk.alloc _).alloc _) | exact (((hk.alloc _).alloc _).alloc _) | exact ((((hk.alloc _).alloc _).alloc _).alloc _) | exact (((((hk.alloc _).alloc _).alloc _).alloc _).alloc _) | exact ((((((hk.alloc _).alloc _).alloc _).alloc _).alloc _).alloc _) | (repeat (first | exact hk | refine Kept.alloc ?_ _ | refine Kept.drew ?_ | refine Kept.drewN ?_ _ | refine Kept.set ?_ (by first | (simp; done) | (simp; omega) | omega) _)))⟩
set_option maxHeartbeats 1000000 in
theorem linesFill_last (b off f : Nat) (S : Nat → ByteArray) (A G : Nat → Int) (room : Int) (w : World) (hw : WordsAt w b off (f + 1) S A G) (h1 : mayW (f + 1) A = true) (h4 : mayB room = true) :
    Calls Try.prog 8 #[.slice (some ⟨b, off, none⟩) (f + 1) (f + 1), .int .i64 (f : Nat), .int .i64 room] w fun e w' => e = .returned (.tuple #[lineV f (f + 1 : Nat) (A f), .int .i64 0]) ∧ Kept w w' := by
  have Hs := Lib.hid (rfl : lineV 0 0 0 = lineV 0 0 0)
  have hf0 : (0 : Int) ≤ (f : Int) := by omega
  have hf1 : (f : Int) < ((f + 1 : Nat) : Int) := by omega
  have h8 : f + 1 ≤ 80 := (mayW_true.1 h1).1
  have hk : Kept w w := Kept.refl w
  go_enter Try.func8, Try.ntmps8
  go_wp2_with fail
  refine with_boxes1 ?_
  intro X hX o
  have hsz := hk.size
  replace hk := hk.trans hX
  clear hX
  refine (linesMay_some _ _ _ _ S A G _ (hw.kept hk)).mono ?_
  rintro e w1 ⟨rfl, hn⟩
  replace hk := hk.trans hn
  replace o := o.kept hn
  clear hn
  go_wp2_with fail
  refine (unitMay_any _ _).mono ?_
  rintro e w1 ⟨rfl, hn⟩
  replace hk := hk.trans hn
  replace o := o.kept hn
  clear hn
  have c1 := (hw.kept hk).adv f (by omega)
  go_wp2
  go_wp2_with fail
  refine code_boxes1 ?_
  intro X hX l
  have hsz := hk.size
  replace hk := hk.trans hX
  replace o := o.kept hX
  clear hX
  refine wp_loop_rounds 1 ?_
  rw [rounds_succ]
  replace o_l := o.lt
  replace o_0 := o.at 0 _ rfl
  replace o_f0 := o.free 0
  replace o_1 := o.at 1 _ rfl
  replace o_f1 := o.free 1
  replace o_2 := o.at 2 _ rfl
  replace o_f2 := o.free 2
  replace l_l := l.lt
  replace l_0 := l.at 0 _ rfl
  replace l_f0 := l.free 0
  replace l_1 := l.at 1 _ rfl
  replace l_f1 := l.free 1
  replace l_2 := l.at 2 _ rfl
  replace l_f2 := l.free 2
  go_wp2
  exact bodyPost_ret (v := .tuple #[lineV f (f + 1 : Nat) (A f), .int .i64 0]) (by simp [results, Try.results8, go_sem, o_0, o_1, o_2, l_0, l_1, l_2, o_l, l_l]) rfl ⟨by first | (rw [Hs.out]; done) | rfl, (by first | ((repeat (first | with_reducible exact hk | with_reducible refine Kept.alloc ?_ _ | with_reducible refine Kept.drew ?_ | with_reducible refine Kept.drewN ?_ _ | with_reducible refine Kept.set ?_ (by first | (simp; done) | (simp; omega) | omega) _)); done) | exact hk | exact (hk.alloc _) | exact ((hk.alloc _).alloc _) | exact (((hk.alloc _).alloc _).alloc _) | exact ((((hk.alloc _).alloc _).alloc _).alloc _) | exact (((((hk.alloc _).alloc _).alloc _).alloc _).alloc _) | exact ((((((hk.alloc _).alloc _).alloc _).alloc _).alloc _).alloc _) | (repeat (first | exact hk | refine Kept.alloc ?_ _ | refine Kept.drew ?_ | refine Kept.drewN ?_ _ | refine Kept.set ?_ (by first | (simp; done) | (simp; omega) | omega) _)))⟩
set_option maxHeartbeats 1000000 in
theorem linesFill_ok (b off n cap f K : Nat) (S : Nat → ByteArray) (A G : Nat → Int) (room : Int) (w : World) (hw : WordsAt w b off n S A G) (hcap : n ≤ cap) (hcap2 : f + 1 < cap) (h1 : mayW n A = true) (h3 : f < n) (h4 : mayB room = true) (hK : IsK A n room f K) :
    Calls Try.prog 8 #[.slice (some ⟨b, off, none⟩) n cap, .int .i64 (f : Nat), .int .i64 room] w fun e w' => e = .returned (.tuple #[lineV f (f + K + 1 : Nat) (wid A f K), .int .i64 0]) ∧ Kept w w' := by
  have Hs := Lib.hid (rfl : lineV 0 0 0 = lineV 0 0 0)
  have hf0 : (0 : Int) ≤ (f : Int) := by omega
  have hf1 : (f : Int) < (n : Int) := by omega
  have hf2 : (f : Int) + 1 ≤ (n : Int) := by omega
  have h8 : n ≤ 80 := (mayW_true.1 h1).1
  have HA := Lib.hid (mayW_true.1 h1).2
  have hr := mayB_true.1 h4
  obtain ⟨m, hm⟩ : ∃ m, n - (f + 1) = m := ⟨_, rfl⟩
  have hKm : K ≤ m := by have := hK.le; omega
  have hk : Kept w w := Kept.refl w
  go_enter Try.func8, Try.ntmps8
  go_wp2_with fail
  refine with_boxes1 ?_
  intro X hX o
  have hsz := hk.size
  replace hk := hk.trans hX
  clear hX
  refine (linesMay_some _ _ _ _ S A G _ (hw.kept hk)).mono ?_
  rintro e w1 ⟨rfl, hn⟩
  replace hk := hk.trans hn
  replace o := o.kept hn
  clear hn
  go_wp2_with fail
  refine (unitMay_any _ _).mono ?_
  rintro e w1 ⟨rfl, hn⟩
  replace hk := hk.trans hn
  replace o := o.kept hn
  clear hn
  have c1 := (hw.kept hk).adv f h3
  go_wp2
  clear h4
  clear c1 hf0 hf1 hf2
  have hLo0 := o.lt
  go_wp2_with fail
  refine code_boxes1 ?_
  intro X hX l
  have hsz := hk.size
  replace hk := hk.trans hX
  replace o := o.kept hX
  clear hX
  obtain ⟨L, hL⟩ : ∃ L, w1.heap.size = L := ⟨_, rfl⟩
  rw [hL] at l ⊢
  have hLo : w.heap.size < L := by omega
  go_loopw [10, 11, 45] (fun _ _ i wx => ∃ j : Nat, j ≤ K ∧ i = .int .i64 j ∧ Kept w wx ∧ Own wx w.heap.size 27 #[.int .i64 0, .int .i64 0, .int .i64 0] ∧ Own wx L 27 #[.int .i64 f, .int .i64 (f + j + 1 : Nat), .int .i64 (wid A f j)]) (fun _ _ i _ => n - (intOf i).toNat)
  case atStart => exact ⟨0, Nat.zero_le _, rfl, hk, o, l⟩
  case round =>
    clear hk o l
    obtain ⟨j, hj, rfl, hk, o, l⟩ := hrel
    by_cases hlt : j < K
    · have c0 : wr.cell? ⟨b, off + (f + 1) * 3 + j * 3, none⟩ = some (.string (S (f + j + 1))) := by rw [show off + (f + 1) * 3 + j * 3 = off + (f + j + 1) * 3 by omega]; exact (hw.kept hk).text _ (by omega)
      have c1 : wr.cell? ⟨b, off + (f + 1) * 3 + j * 3 + 1, none⟩ = some (.int .i64 (A (f + j + 1))) := by rw [show off + (f + 1) * 3 + j * 3 = off + (f + j + 1) * 3 by omega]; exact (hw.kept hk).adv _ (by omega)
      have c2 : wr.cell? ⟨b, off + (f + 1) * 3 + j * 3 + 2, none⟩ = some (.int .i64 (G (f + j + 1))) := by rw [show off + (f + 1) * 3 + j * 3 = off + (f + j + 1) * 3 by omega]; exact (hw.kept hk).gap _ (by omega)
      have hfit := hK.fits j hlt
      have hq : wid A f j + 256 + A (f + j + 1) = wid A f (j + 1) := rfl
      have b1 := wid_bounds HA.out j (f := f) (by omega)
      have b2 := allB_yes HA.out (f + j + 1) (by omega)
      obtain ⟨p, hp⟩ : ∃ p, wid A f j = p := ⟨_, rfl⟩
      obtain ⟨q, hqq⟩ : ∃ q, wid A f (j + 1) = q := ⟨_, rfl⟩
      rw [hp] at hq b1 l
      rw [hqq] at hq hfit
      generalize A (f + j + 1) = x at *
      clear hp
      replace hqq := Lib.hid hqq
      have e32 : advS 32 = 256 := by decide
      go_wp2_with fail
      refine code_boxes1 ?_
      intro X hX e
      have hsz := hk.size
      replace hk := hk.trans hX
      replace o := o.kept hX
      replace l := l.kept hX
      clear hX
      replace e_l := e.lt
      replace e_0 := e.at 0 _ rfl
      replace e_1 := e.at 1 _ rfl
      replace e_2 := e.at 2 _ rfl
      replace l_l := l.lt
      replace l_0 := l.at 0 _ rfl
      replace l_f0 := l.free 0
      replace l_1 := l.at 1 _ rfl
      replace l_f1 := l.free 1
      replace l_2 := l.at 2 _ rfl
      replace l_f2 := l.free 2
      go_quiet (first
        | (go_at_call 17; exact Calls.quiet_of_same ((glyphAdvance_any _ _).mono fun _ _ h => ⟨h.1, h.2.symm⟩)))
      go_wp2
      go_roundw
      case rel => exact ⟨j + 1, by omega, by go_num, (by first | ((repeat (first | with_reducible exact hk | with_reducible refine Kept.alloc ?_ _ | with_reducible refine Kept.drew ?_ | with_reducible refine Kept.drewN ?_ _ | with_reducible refine Kept.set ?_ (by first | (simp; done) | (simp; omega) | omega) _)); done) | exact hk | exact (hk.alloc _) | exact ((hk.alloc _).alloc _) | exact (((hk.alloc _).alloc _).alloc _) | exact ((((hk.alloc _).alloc _).alloc _).alloc _) | exact (((((hk.alloc _).alloc _).alloc _).alloc _).alloc _) | exact ((((((hk.alloc _).alloc _).alloc _).alloc _).alloc _).alloc _) | (repeat (first | exact hk | refine Kept.alloc ?_ _ | refine Kept.drew ?_ | refine Kept.drewN ?_ _ | refine Kept.set ?_ (by first | (simp; done) | (simp; omega) | omega) _))), ((o.drewN _).other (by first | omega | (simp; done) | (simp; omega)) _).other (by first | omega | (simp; done) | (simp; omega)) _, (((l.drewN _).set 1 _).set 2 _).is (by rw [hqq.out]; simp; omega)⟩
      case measure => simp [intOf]; omega
    · obtain rfl : j = K := by omega
      by_cases hjm : j < m
      · have c0 : wr.cell? ⟨b, off + (f + 1) * 3 + j * 3, none⟩ = some (.string (S (f + j + 1))) := by rw [show off + (f + 1) * 3 + j * 3 = off + (f + j + 1) * 3 by omega]; exact (hw.kept hk).text _ (by omega)
        have c1 : wr.cell? ⟨b, off + (f + 1) * 3 + j * 3 + 1, none⟩ = some (.int .i64 (A (f + j + 1))) := by rw [show off + (f + 1) * 3 + j * 3 = off + (f + j + 1) * 3 by omega]; exact (hw.kept hk).adv _ (by omega)
        have c2 : wr.cell? ⟨b, off + (f + 1) * 3 + j * 3 + 2, none⟩ = some (.int .i64 (G (f + j + 1))) := by rw [show off + (f + 1) * 3 + j * 3 = off + (f + j + 1) * 3 by omega]; exact (hw.kept hk).gap _ (by omega)
        have hstop := hK.stop (by omega)
        have hq : wid A f j + 256 + A (f + j + 1) = wid A f (j + 1) := rfl
        have b1 := wid_bounds HA.out j (f := f) (by omega)
        have b2 := allB_yes HA.out (f + j + 1) (by omega)
        obtain ⟨p, hp⟩ : ∃ p, wid A f j = p := ⟨_, rfl⟩
        obtain ⟨q, hqq⟩ : ∃ q, wid A f (j + 1) = q := ⟨_, rfl⟩
        rw [hp] at hq b1 l
        rw [hqq] at hq hstop
        generalize A (f + j + 1) = x at *
        replace Hs := Lib.hid hp
        clear hp hqq
        have e32 : advS 32 = 256 := by decide
        go_wp2_with fail
        refine code_boxes1 ?_
        intro X hX e
        have hsz := hk.size
        replace hk := hk.trans hX
        replace o := o.kept hX
        replace l := l.kept hX
        clear hX
        replace e_l := e.lt
        replace e_0 := e.at 0 _ rfl
        replace e_1 := e.at 1 _ rfl
        replace e_2 := e.at 2 _ rfl
        replace o_l := o.lt
        replace o_0 := o.at 0 _ rfl
        replace o_f0 := o.free 0
        replace o_1 := o.at 1 _ rfl
        replace o_f1 := o.free 1
        replace o_2 := o.at 2 _ rfl
        replace o_f2 := o.free 2
        replace l_l := l.lt
        replace l_0 := l.at 0 _ rfl
        replace l_f0 := l.free 0
        replace l_1 := l.at 1 _ rfl
        replace l_f1 := l.free 1
        replace l_2 := l.at 2 _ rfl
        replace l_f2 := l.free 2
        go_quiet (first
          | (go_at_call 17; exact Calls.quiet_of_same ((glyphAdvance_any _ _).mono fun _ _ h => ⟨h.1, h.2.symm⟩)))
        go_wp2
        exact bodyPost_ret (v := .tuple #[lineV f (f + j + 1 : Nat) p, .int .i64 0]) (by simp [results, Try.results8, go_sem, o_0, o_1, o_2, l_0, l_1, l_2, o_l, l_l]) rfl ⟨by first | (rw [Hs.out]; done) | rfl, (by first | ((repeat (first | with_reducible exact hk | with_reducible refine Kept.alloc ?_ _ | with_reducible refine Kept.drew ?_ | with_reducible refine Kept.drewN ?_ _ | with_reducible refine Kept.set ?_ (by first | (simp; done) | (simp; omega) | omega) _)); done) | exact hk | exact (hk.alloc _) | exact ((hk.alloc _).alloc _) | exact (((hk.alloc _).alloc _).alloc _) | exact ((((hk.alloc _).alloc _).alloc _).alloc _) | exact (((((hk.alloc _).alloc _).alloc _).alloc _).alloc _) | exact ((((((hk.alloc _).alloc _).alloc _).alloc _).alloc _).alloc _) | (repeat (first | exact hk | refine Kept.alloc ?_ _ | refine Kept.drew ?_ | refine Kept.drewN ?_ _ | refine Kept.set ?_ (by first | (simp; done) | (simp; omega) | omega) _)))⟩
      · skip
        replace o_l := o.lt
        replace o_0 := o.at 0 _ rfl
        replace o_f0 := o.free 0
        replace o_1 := o.at 1 _ rfl
        replace o_f1 := o.free 1
        replace o_2 := o.at 2 _ rfl
        replace o_f2 := o.free 2
        replace l_l := l.lt
        replace l_0 := l.at 0 _ rfl
        replace l_f0 := l.free 0
        replace l_1 := l.at 1 _ rfl
        replace l_f1 := l.free 1
        replace l_2 := l.at 2 _ rfl
        replace l_f2 := l.free 2
        go_wp2
        exact bodyPost_ret (v := .tuple #[lineV f (f + j + 1 : Nat) (wid A f j), .int .i64 0]) (by simp [results, Try.results8, go_sem, o_0, o_1, o_2, l_0, l_1, l_2, o_l, l_l]) rfl ⟨by first | (rw [Hs.out]; done) | rfl, (by first | ((repeat (first | with_reducible exact hk | with_reducible refine Kept.alloc ?_ _ | with_reducible refine Kept.drew ?_ | with_reducible refine Kept.drewN ?_ _ | with_reducible refine Kept.set ?_ (by first | (simp; done) | (simp; omega) | omega) _)); done) | exact hk | exact (hk.alloc _) | exact ((hk.alloc _).alloc _) | exact (((hk.alloc _).alloc _).alloc _) | exact ((((hk.alloc _).alloc _).alloc _).alloc _) | exact (((((hk.alloc _).alloc _).alloc _).alloc _).alloc _) | exact ((((((hk.alloc _).alloc _).alloc _).alloc _).alloc _).alloc _) | (repeat (first | exact hk | refine Kept.alloc ?_ _ | refine Kept.drew ?_ | refine Kept.drewN ?_ _ | refine Kept.set ?_ (by first | (simp; done) | (simp; omega) | omega) _)))⟩
end Go.Proofs.Ytkonpnaedniceaa
