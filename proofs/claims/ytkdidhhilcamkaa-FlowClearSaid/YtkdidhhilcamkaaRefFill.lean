/- Layer 6: the document's May, Fill. -/
import Derived.Test.YtkdidhhilcamkaaBreak
import Derived.Deep.QuietTactic
import Derived.BigQuiet
import Derived.BigRegion
import Derived.Deep.LoopGhost
namespace Go.Proofs.Ytkdidhhilcamkaa
open Go.RowKit
set_option linter.unusedSimpArgs false
set_option linter.unusedVariables false
theorem refLUpTo_any (x most : Int) (w : World) :
    Calls Try.prog 48 #[.int .i64 x, .int .i64 most] w fun e w' => e = .returned (.bool (inB 0 most x)) ∧ w = w' := by
  by_cases h1 : 0 ≤ x
  · skip
    go_enter Try.func48, Try.ntmps48
    go_wp2
    go_ret
    exact ⟨ret_bool (by unfold inB; simp [h1]), rfl⟩
  · have h2 : x < 0 := by omega
    go_enter Try.func48, Try.ntmps48
    go_wp2
    go_ret
    exact ⟨ret_bool (by unfold inB; simp; omega), rfl⟩
theorem refLRoom_any (x : Int) (w : World) :
    Calls Try.prog 41 #[.int .i64 x] w fun e w' => e = .returned (.bool (mayB x)) ∧ Kept w w' := by
  by_cases h1 : -1073741824 ≤ x
  · skip
    go_enter Try.func41, Try.ntmps41
    go_wp2
    go_ret
    exact ⟨ret_bool (by unfold mayB; simp [h1]), Kept.refl _⟩
  · have h2 : x < -1073741824 := by omega
    go_enter Try.func41, Try.ntmps41
    go_wp2
    go_ret
    exact ⟨ret_bool (by unfold mayB; simp; omega), Kept.refl _⟩
theorem refLMay_none (o : Option Addr) (cap : Nat) (A : Nat → Int) (w : World) :
    Calls Try.prog 27 #[.slice o 0 cap] w fun e w' => e = .returned (.bool (mayW 0 A)) ∧ Kept w w' := by
  go_enter Try.func27, Try.ntmps27
  go_wp2
  refine wp_loop_rounds 1 ?_
  rw [rounds_succ]
  go_wp2
  go_ret
  exact ⟨rfl, Kept.refl _⟩
set_option maxHeartbeats 1000000 in
theorem refLMay_some (b off n cap : Nat) (S : Nat → ByteArray) (A G : Nat → Int) (w : World) (hw : WordsAt w b off n S A G) (hn : n ≤ 4398046510976) :
    Calls Try.prog 27 #[.slice (some ⟨b, off, none⟩) n cap] w fun e w' => e = .returned (.bool (mayW n A)) ∧ Kept w w' := by
  go_enter Try.func27, Try.ntmps27
  go_wp2
  go_loop [3] (fun i => ∃ k : Nat, k ≤ n ∧ i = .int .i64 k ∧ allB A k = true) (fun i => n - (intOf i).toNat)
  case atStart => exact ⟨0, Nat.zero_le _, rfl, rfl⟩
  case round =>
    obtain ⟨k, hk4, rfl, hal⟩ := hrel
    have hal' := Lib.hid hal
    clear hal
    by_cases hlt : k < n
    · have c1 := hw.adv k hlt
      cases hb : inB 0 4194304 (A k)
      · have hno := Lib.hid (allB_no hlt hb)
        generalize A k = x at *
        go_wp2_with fail
        refine (refLUpTo_any _ _ _).mono ?_
        rintro e w1 ⟨rfl, rfl⟩
        go_wp2
        go_ret
        exact ⟨ret_bool (by unfold mayW; rw [hno.out, Bool.and_false]), Kept.refl _⟩
      · have hyes := Lib.hid (show allB A (k + 1) = true by unfold allB; rw [hal'.out, hb]; rfl)
        generalize A k = x at *
        go_wp2_with fail
        refine (refLUpTo_any _ _ _).mono ?_
        rintro e w1 ⟨rfl, rfl⟩
        go_wp2
        go_round
        case rel => exact ⟨k + 1, by omega, by go_num, hyes.out⟩
        case measure => simp [intOf]; omega
    · obtain rfl : k = n := by omega
      by_cases h8 : k ≤ 80
      · go_wp2
        go_ret
        exact ⟨ret_bool (by unfold mayW; rw [hal'.out, Bool.and_true]; simp; omega), Kept.refl _⟩
      · go_wp2
        go_ret
        exact ⟨ret_bool (by unfold mayW; rw [hal'.out, Bool.and_true]; simp; omega), Kept.refl _⟩
set_option linter.unusedSimpArgs false
set_option linter.unusedVariables false
set_option maxHeartbeats 1000000 in
theorem refLFill_none (sl : Option Addr) (cap : Nat) (f room : Int) (w : World) :
    Calls Try.prog 45 #[.slice sl 0 cap, .int .i64 f, .int .i64 room] w fun e w' => e = .returned (.tuple #[lineV 0 0 0, .int .i64 600]) ∧ Kept w w' := by
  have hm : mayW 0 (fun _ => 0) = true := rfl
  have Hs := Lib.hid (rfl : lineV 0 0 0 = lineV 0 0 0)
  by_cases h0 : f < 0
  · skip
    have hk : Kept w w := Kept.refl w
    go_enter Try.func45, Try.ntmps45
    go_wp2_with fail
    refine with_boxes1 ?_
    intro X hX o
    have hsz := hk.size
    replace hk := hk.trans hX
    clear hX
    refine (refLMay_none _ _ (fun _ => 0) _).mono ?_
    rintro e w1 ⟨rfl, hn⟩
    replace hk := hk.trans hn
    replace o := o.kept hn
    clear hn
    replace o_l := o.lt
    replace o_0 := o.at 0 _ rfl
    replace o_f0 := o.free 0
    replace o_1 := o.at 1 _ rfl
    replace o_f1 := o.free 1
    replace o_2 := o.at 2 _ rfl
    replace o_f2 := o.free 2
    go_wp2
    exact bodyPost_ret (v := .tuple #[lineV 0 0 0, .int .i64 600]) (by simp [results, Try.results45, go_sem, o_0, o_1, o_2, o_l]) rfl ⟨by first | (rw [Hs.out]; done) | rfl, (by first | ((repeat (first | with_reducible exact hk | with_reducible refine Kept.alloc ?_ _ | with_reducible refine Kept.drew ?_ | with_reducible refine Kept.drewN ?_ _ | with_reducible refine Kept.set ?_ (by first | (simp; done) | (simp; omega) | omega) _)); done) | exact hk | exact (hk.alloc _) | exact ((hk.alloc _).alloc _) | exact (((hk.alloc _).alloc _).alloc _) | exact ((((hk.alloc _).alloc _).alloc _).alloc _) | exact (((((hk.alloc _).alloc _).alloc _).alloc _).alloc _) | exact ((((((hk.alloc _).alloc _).alloc _).alloc _).alloc _).alloc _) | (repeat (first | exact hk | refine Kept.alloc ?_ _ | refine Kept.drew ?_ | refine Kept.drewN ?_ _ | refine Kept.set ?_ (by first | (simp; done) | (simp; omega) | omega) _)))⟩
  · have h0' : 0 ≤ f := by omega
    have hk : Kept w w := Kept.refl w
    go_enter Try.func45, Try.ntmps45
    go_wp2_with fail
    refine with_boxes1 ?_
    intro X hX o
    have hsz := hk.size
    replace hk := hk.trans hX
    clear hX
    refine (refLMay_none _ _ (fun _ => 0) _).mono ?_
    rintro e w1 ⟨rfl, hn⟩
    replace hk := hk.trans hn
    replace o := o.kept hn
    clear hn
    replace o_l := o.lt
    replace o_0 := o.at 0 _ rfl
    replace o_f0 := o.free 0
    replace o_1 := o.at 1 _ rfl
    replace o_f1 := o.free 1
    replace o_2 := o.at 2 _ rfl
    replace o_f2 := o.free 2
    go_wp2
    exact bodyPost_ret (v := .tuple #[lineV 0 0 0, .int .i64 600]) (by simp [results, Try.results45, go_sem, o_0, o_1, o_2, o_l]) rfl ⟨by first | (rw [Hs.out]; done) | rfl, (by first | ((repeat (first | with_reducible exact hk | with_reducible refine Kept.alloc ?_ _ | with_reducible refine Kept.drew ?_ | with_reducible refine Kept.drewN ?_ _ | with_reducible refine Kept.set ?_ (by first | (simp; done) | (simp; omega) | omega) _)); done) | exact hk | exact (hk.alloc _) | exact ((hk.alloc _).alloc _) | exact (((hk.alloc _).alloc _).alloc _) | exact ((((hk.alloc _).alloc _).alloc _).alloc _) | exact (((((hk.alloc _).alloc _).alloc _).alloc _).alloc _) | exact ((((((hk.alloc _).alloc _).alloc _).alloc _).alloc _).alloc _) | (repeat (first | exact hk | refine Kept.alloc ?_ _ | refine Kept.drew ?_ | refine Kept.drewN ?_ _ | refine Kept.set ?_ (by first | (simp; done) | (simp; omega) | omega) _)))⟩
set_option maxHeartbeats 1000000 in
theorem refLFill_bad1 (b off n cap : Nat) (S : Nat → ByteArray) (A G : Nat → Int) (f room : Int) (w : World) (hw : WordsAt w b off n S A G) (hn : n ≤ 4398046510976) (h1 : mayW n A = false) :
    Calls Try.prog 45 #[.slice (some ⟨b, off, none⟩) n cap, .int .i64 f, .int .i64 room] w fun e w' => e = .returned (.tuple #[lineV 0 0 0, .int .i64 600]) ∧ Kept w w' := by
  have Hs := Lib.hid (rfl : lineV 0 0 0 = lineV 0 0 0)
  have hk : Kept w w := Kept.refl w
  go_enter Try.func45, Try.ntmps45
  go_wp2_with fail
  refine with_boxes1 ?_
  intro X hX o
  have hsz := hk.size
  replace hk := hk.trans hX
  clear hX
  refine (refLMay_some _ _ _ _ S A G _ (hw.kept hk) hn).mono ?_
  rintro e w1 ⟨rfl, hn⟩
  replace hk := hk.trans hn
  replace o := o.kept hn
  clear hn
  replace o_l := o.lt
  replace o_0 := o.at 0 _ rfl
  replace o_f0 := o.free 0
  replace o_1 := o.at 1 _ rfl
  replace o_f1 := o.free 1
  replace o_2 := o.at 2 _ rfl
  replace o_f2 := o.free 2
  go_wp2
  exact bodyPost_ret (v := .tuple #[lineV 0 0 0, .int .i64 600]) (by simp [results, Try.results45, go_sem, o_0, o_1, o_2, o_l]) rfl ⟨by first | (rw [Hs.out]; done) | rfl, (by first | ((repeat (first | with_reducible exact hk | with_reducible refine Kept.alloc ?_ _ | with_reducible refine Kept.drew ?_ | with_reducible refine Kept.drewN ?_ _ | with_reducible refine Kept.set ?_ (by first | (simp; done) | (simp; omega) | omega) _)); done) | exact hk | exact (hk.alloc _) | exact ((hk.alloc _).alloc _) | exact (((hk.alloc _).alloc _).alloc _) | exact ((((hk.alloc _).alloc _).alloc _).alloc _) | exact (((((hk.alloc _).alloc _).alloc _).alloc _).alloc _) | exact ((((((hk.alloc _).alloc _).alloc _).alloc _).alloc _).alloc _) | (repeat (first | exact hk | refine Kept.alloc ?_ _ | refine Kept.drew ?_ | refine Kept.drewN ?_ _ | refine Kept.set ?_ (by first | (simp; done) | (simp; omega) | omega) _)))⟩
set_option maxHeartbeats 1000000 in
theorem refLFill_bad2 (b off n cap : Nat) (S : Nat → ByteArray) (A G : Nat → Int) (f room : Int) (w : World) (hw : WordsAt w b off n S A G) (hn : n ≤ 4398046510976) (h1 : mayW n A = true) (h2 : f < 0) :
    Calls Try.prog 45 #[.slice (some ⟨b, off, none⟩) n cap, .int .i64 f, .int .i64 room] w fun e w' => e = .returned (.tuple #[lineV 0 0 0, .int .i64 600]) ∧ Kept w w' := by
  have Hs := Lib.hid (rfl : lineV 0 0 0 = lineV 0 0 0)
  have hk : Kept w w := Kept.refl w
  go_enter Try.func45, Try.ntmps45
  go_wp2_with fail
  refine with_boxes1 ?_
  intro X hX o
  have hsz := hk.size
  replace hk := hk.trans hX
  clear hX
  refine (refLMay_some _ _ _ _ S A G _ (hw.kept hk) hn).mono ?_
  rintro e w1 ⟨rfl, hn⟩
  replace hk := hk.trans hn
  replace o := o.kept hn
  clear hn
  replace o_l := o.lt
  replace o_0 := o.at 0 _ rfl
  replace o_f0 := o.free 0
  replace o_1 := o.at 1 _ rfl
  replace o_f1 := o.free 1
  replace o_2 := o.at 2 _ rfl
  replace o_f2 := o.free 2
  go_wp2
  exact bodyPost_ret (v := .tuple #[lineV 0 0 0, .int .i64 600]) (by simp [results, Try.results45, go_sem, o_0, o_1, o_2, o_l]) rfl ⟨by first | (rw [Hs.out]; done) | rfl, (by first | ((repeat (first | with_reducible exact hk | with_reducible refine Kept.alloc ?_ _ | with_reducible refine Kept.drew ?_ | with_reducible refine Kept.drewN ?_ _ | with_reducible refine Kept.set ?_ (by first | (simp; done) | (simp; omega) | omega) _)); done) | exact hk | exact (hk.alloc _) | exact ((hk.alloc _).alloc _) | exact (((hk.alloc _).alloc _).alloc _) | exact ((((hk.alloc _).alloc _).alloc _).alloc _) | exact (((((hk.alloc _).alloc _).alloc _).alloc _).alloc _) | exact ((((((hk.alloc _).alloc _).alloc _).alloc _).alloc _).alloc _) | (repeat (first | exact hk | refine Kept.alloc ?_ _ | refine Kept.drew ?_ | refine Kept.drewN ?_ _ | refine Kept.set ?_ (by first | (simp; done) | (simp; omega) | omega) _)))⟩
set_option maxHeartbeats 1000000 in
theorem refLFill_bad3 (b off n cap : Nat) (S : Nat → ByteArray) (A G : Nat → Int) (f room : Int) (w : World) (hw : WordsAt w b off n S A G) (hn : n ≤ 4398046510976) (h1 : mayW n A = true) (h2 : 0 ≤ f) (h3 : (n : Int) ≤ f) :
    Calls Try.prog 45 #[.slice (some ⟨b, off, none⟩) n cap, .int .i64 f, .int .i64 room] w fun e w' => e = .returned (.tuple #[lineV 0 0 0, .int .i64 600]) ∧ Kept w w' := by
  have Hs := Lib.hid (rfl : lineV 0 0 0 = lineV 0 0 0)
  have hk : Kept w w := Kept.refl w
  go_enter Try.func45, Try.ntmps45
  go_wp2_with fail
  refine with_boxes1 ?_
  intro X hX o
  have hsz := hk.size
  replace hk := hk.trans hX
  clear hX
  refine (refLMay_some _ _ _ _ S A G _ (hw.kept hk) hn).mono ?_
  rintro e w1 ⟨rfl, hn⟩
  replace hk := hk.trans hn
  replace o := o.kept hn
  clear hn
  replace o_l := o.lt
  replace o_0 := o.at 0 _ rfl
  replace o_f0 := o.free 0
  replace o_1 := o.at 1 _ rfl
  replace o_f1 := o.free 1
  replace o_2 := o.at 2 _ rfl
  replace o_f2 := o.free 2
  go_wp2
  exact bodyPost_ret (v := .tuple #[lineV 0 0 0, .int .i64 600]) (by simp [results, Try.results45, go_sem, o_0, o_1, o_2, o_l]) rfl ⟨by first | (rw [Hs.out]; done) | rfl, (by first | ((repeat (first | with_reducible exact hk | with_reducible refine Kept.alloc ?_ _ | with_reducible refine Kept.drew ?_ | with_reducible refine Kept.drewN ?_ _ | with_reducible refine Kept.set ?_ (by first | (simp; done) | (simp; omega) | omega) _)); done) | exact hk | exact (hk.alloc _) | exact ((hk.alloc _).alloc _) | exact (((hk.alloc _).alloc _).alloc _) | exact ((((hk.alloc _).alloc _).alloc _).alloc _) | exact (((((hk.alloc _).alloc _).alloc _).alloc _).alloc _) | exact ((((((hk.alloc _).alloc _).alloc _).alloc _).alloc _).alloc _) | (repeat (first | exact hk | refine Kept.alloc ?_ _ | refine Kept.drew ?_ | refine Kept.drewN ?_ _ | refine Kept.set ?_ (by first | (simp; done) | (simp; omega) | omega) _)))⟩
set_option maxHeartbeats 1000000 in
theorem refLFill_bad4 (b off n cap : Nat) (S : Nat → ByteArray) (A G : Nat → Int) (f room : Int) (w : World) (hw : WordsAt w b off n S A G) (hn : n ≤ 4398046510976) (h1 : mayW n A = true) (h2 : 0 ≤ f) (h3 : f < (n : Int)) (h4 : mayB room = false) :
    Calls Try.prog 45 #[.slice (some ⟨b, off, none⟩) n cap, .int .i64 f, .int .i64 room] w fun e w' => e = .returned (.tuple #[lineV 0 0 0, .int .i64 600]) ∧ Kept w w' := by
  have Hs := Lib.hid (rfl : lineV 0 0 0 = lineV 0 0 0)
  have hk : Kept w w := Kept.refl w
  go_enter Try.func45, Try.ntmps45
  go_wp2_with fail
  refine with_boxes1 ?_
  intro X hX o
  have hsz := hk.size
  replace hk := hk.trans hX
  clear hX
  refine (refLMay_some _ _ _ _ S A G _ (hw.kept hk) hn).mono ?_
  rintro e w1 ⟨rfl, hn⟩
  replace hk := hk.trans hn
  replace o := o.kept hn
  clear hn
  go_wp2_with fail
  refine (refLRoom_any _ _).mono ?_
  rintro e w1 ⟨rfl, hn⟩
  replace hk := hk.trans hn
  replace o := o.kept hn
  clear hn
  replace o_l := o.lt
  replace o_0 := o.at 0 _ rfl
  replace o_f0 := o.free 0
  replace o_1 := o.at 1 _ rfl
  replace o_f1 := o.free 1
  replace o_2 := o.at 2 _ rfl
  replace o_f2 := o.free 2
  go_wp2
  exact bodyPost_ret (v := .tuple #[lineV 0 0 0, .int .i64 600]) (by simp [results, Try.results45, go_sem, o_0, o_1, o_2, o_l]) rfl ⟨by first | (rw [Hs.out]; done) | rfl, (by first | ((repeat (first | with_reducible exact hk | with_reducible refine Kept.alloc ?_ _ | with_reducible refine Kept.drew ?_ | with_reducible refine Kept.drewN ?_ _ | with_reducible refine Kept.set ?_ (by first | (simp; done) | (simp; omega) | omega) _)); done) | exact hk | exact (hk.alloc _) | exact ((hk.alloc _).alloc _) | exact (((hk.alloc _).alloc _).alloc _) | exact ((((hk.alloc _).alloc _).alloc _).alloc _) | exact (((((hk.alloc _).alloc _).alloc _).alloc _).alloc _) | exact ((((((hk.alloc _).alloc _).alloc _).alloc _).alloc _).alloc _) | (repeat (first | exact hk | refine Kept.alloc ?_ _ | refine Kept.drew ?_ | refine Kept.drewN ?_ _ | refine Kept.set ?_ (by first | (simp; done) | (simp; omega) | omega) _)))⟩
set_option maxHeartbeats 2000000 in
theorem refLFill_ok (b off n cap f K : Nat) (S : Nat → ByteArray) (A G : Nat → Int) (room : Int) (w : World) (hw : WordsAt w b off n S A G) (hcap : n ≤ cap) (h1 : mayW n A = true) (h3 : f < n) (h4 : mayB room = true) (hK : IsK A n room f K) :
    Calls Try.prog 45 #[.slice (some ⟨b, off, none⟩) n cap, .int .i64 (f : Nat), .int .i64 room] w fun e w' => e = .returned (.tuple #[lineV f (f + K + 1 : Nat) (wid A f K), .int .i64 0]) ∧ Kept w w' := by
  have Hs := Lib.hid (rfl : lineV 0 0 0 = lineV 0 0 0)
  have hf0 : (0 : Int) ≤ (f : Int) := by omega
  have hf1 : (f : Int) < (n : Int) := by omega
  have h8 : n ≤ 80 := (mayW_true.1 h1).1
  have HA := Lib.hid (mayW_true.1 h1).2
  have hr := mayB_true.1 h4
  have hk : Kept w w := Kept.refl w
  go_enter Try.func45, Try.ntmps45
  go_wp2_with fail
  refine with_boxes1 ?_
  intro X hX o
  have hsz := hk.size
  replace hk := hk.trans hX
  clear hX
  refine (refLMay_some _ _ _ _ S A G _ (hw.kept hk) (by omega)).mono ?_
  rintro e w1 ⟨rfl, hn⟩
  replace hk := hk.trans hn
  replace o := o.kept hn
  clear hn
  go_wp2_with fail
  refine (refLRoom_any _ _).mono ?_
  rintro e w1 ⟨rfl, hn⟩
  replace hk := hk.trans hn
  replace o := o.kept hn
  clear hn
  have c1 := (hw.kept hk).adv f h3
  go_wp2
  clear h4
  clear c1 hf0 hf1
  have hLo0 := o.lt
  have hbl : b < w.heap.size := hw.lt (by omega)
  go_wp2_with fail
  refine code_boxes1 ?_
  intro X hX l
  have hsz := hk.size
  replace hk := hk.trans hX
  replace o := o.kept hX
  clear hX
  obtain ⟨L, hL⟩ : ∃ L, w1.heap.size = L := ⟨_, rfl⟩
  rw [hL] at l ⊢
  have hLo : w.heap.size < L := by omega
  go_loopg [] n (fun g wx => ∃ j : Nat, j ≤ K ∧ j + g = n ∧ Kept w wx ∧ Own wx w.heap.size 66 #[.int .i64 0, .int .i64 0, .int .i64 0] ∧ Own wx L 66 #[.int .i64 f, .int .i64 (f + j + 1 : Nat), .int .i64 (wid A f j)])
  case atStart => exact ⟨0, Nat.zero_le _, by omega, hk, o, l⟩
  case round =>
    clear hk o l
    obtain ⟨j, hj, hg, hk, o, l⟩ := hrel
    by_cases hlt : j < K
    · have hKn := hK.le
      have hfit := hK.fits j hlt
      have c1 : wr.cell? ⟨b, off + (f + j + 1) * 3 + 1, none⟩ = some (.int .i64 (A (f + j + 1))) := (hw.kept hk).adv _ (by omega)
      have HCX := Lib.hid (fun wx (hx : Kept w wx) => (hw.kept hx).adv (f + j + 1) (by omega))
      have hq : wid A f j + 256 + A (f + j + 1) = wid A f (j + 1) := rfl
      have b1 := wid_bounds HA.out j (f := f) (by omega)
      have b2 := allB_yes HA.out (f + j + 1) (by omega)
      obtain ⟨p, hp⟩ : ∃ p, wid A f j = p := ⟨_, rfl⟩
      obtain ⟨q, hqq⟩ : ∃ q, wid A f (j + 1) = q := ⟨_, rfl⟩
      rw [hp] at hq b1 l
      rw [hqq] at hq hfit
      generalize A (f + j + 1) = x at *
      obtain ⟨t, ht⟩ : ∃ t, f + j + 1 = t := ⟨_, rfl⟩
      rw [ht] at c1 l HCX
      have htn : (t : Int) < (n : Int) := by omega
      have htn2 : t < n := by omega
      have hw1 : IntKind.i64.wrap (p + 256) = p + 256 := IntWalk.i64_in _ (by omega)
      have hw2 : IntKind.i64.wrap (p + 256 + x) = q := by rw [hq]; exact IntWalk.i64_in _ (by omega)
      have hbw : b < wr.heap.size := Nat.lt_of_lt_of_le hbl hk.size
      have hbL : b ≠ L := by omega
      replace hqq := Lib.hid hqq
      replace hp := Lib.hid hp
      replace ht := Lib.hid ht
      replace l_l := l.lt
      replace l_0 := l.at 0 _ rfl
      replace l_f0 := l.free 0
      replace l_1 := l.at 1 _ rfl
      replace l_f1 := l.free 1
      replace l_2 := l.at 2 _ rfl
      replace l_f2 := l.free 2
      go_wp2
      go_quiet (fail)
      go_wp2_with fail
      refine code_eq ?_
      intro X eX
      have hsz := hk.size
      replace hk := (eX ▸ (by first | ((repeat (first | with_reducible exact hk | with_reducible refine Kept.alloc ?_ _ | with_reducible refine Kept.drew ?_ | with_reducible refine Kept.drewN ?_ _ | with_reducible refine Kept.set ?_ (by first | (simp; done) | (simp; omega) | omega) _)); done) | exact hk | exact (hk.alloc _) | exact ((hk.alloc _).alloc _) | exact (((hk.alloc _).alloc _).alloc _) | exact ((((hk.alloc _).alloc _).alloc _).alloc _) | exact (((((hk.alloc _).alloc _).alloc _).alloc _).alloc _) | exact ((((((hk.alloc _).alloc _).alloc _).alloc _).alloc _).alloc _) | (repeat (first | exact hk | refine Kept.alloc ?_ _ | refine Kept.drew ?_ | refine Kept.drewN ?_ _ | refine Kept.set ?_ (by first | (simp; done) | (simp; omega) | omega) _))) : Kept w X)
      replace o := o.same (X := X) (by rw [eX]; repeat (first | with_reducible rfl | with_reducible refine (Below.heap_setCell _ _ _ _ (by first | omega | (simp; done) | (simp; omega))).trans ?_ | with_reducible refine (heap_drew_ _ _).trans ?_ | with_reducible refine (heap_drewN_ _ _ _).trans ?_))
      replace l := l.same (X := X) (by rw [eX]; repeat (first | with_reducible rfl | with_reducible refine (Below.heap_setCell _ _ _ _ (by first | omega | (simp; done) | (simp; omega))).trans ?_ | with_reducible refine (heap_drew_ _ _).trans ?_ | with_reducible refine (heap_drewN_ _ _ _).trans ?_))
      clear eX
      replace l_l := l.lt
      replace l_0 := l.at 0 _ rfl
      replace l_f0 := l.free 0
      replace l_1 := l.at 1 _ rfl
      replace l_f1 := l.free 1
      replace l_2 := l.at 2 _ rfl
      replace l_f2 := l.free 2
      replace c1 := HCX.out X hk
      go_region
      go_wp2
      go_roundg (gk - 1)
      case measure => omega
      case rel => exact ⟨j + 1, by omega, by omega, (by first | ((repeat (first | with_reducible exact hk | with_reducible refine Kept.alloc ?_ _ | with_reducible refine Kept.drew ?_ | with_reducible refine Kept.drewN ?_ _ | with_reducible refine Kept.set ?_ (by first | (simp; done) | (simp; omega) | omega) _)); done) | exact hk | exact (hk.alloc _) | exact ((hk.alloc _).alloc _) | exact (((hk.alloc _).alloc _).alloc _) | exact ((((hk.alloc _).alloc _).alloc _).alloc _) | exact (((((hk.alloc _).alloc _).alloc _).alloc _).alloc _) | exact ((((((hk.alloc _).alloc _).alloc _).alloc _).alloc _).alloc _) | (repeat (first | exact hk | refine Kept.alloc ?_ _ | refine Kept.drew ?_ | refine Kept.drewN ?_ _ | refine Kept.set ?_ (by first | (simp; done) | (simp; omega) | omega) _))), ((o.other (by first | omega | (simp; done) | (simp; omega)) _).drew.other (by first | omega | (simp; done) | (simp; omega)) _), (((l.set 2 _).drew.set 1 _)).is (by rw [hqq.out]; have := ht.out; simp; omega)⟩
    · obtain rfl : j = K := by omega
      by_cases hjn : f + j + 1 < n
      · have hstop := hK.stop hjn
        have c1 : wr.cell? ⟨b, off + (f + j + 1) * 3 + 1, none⟩ = some (.int .i64 (A (f + j + 1))) := (hw.kept hk).adv _ (by omega)
        have hq : wid A f j + 256 + A (f + j + 1) = wid A f (j + 1) := rfl
        have b1 := wid_bounds HA.out j (f := f) (by omega)
        have b2 := allB_yes HA.out (f + j + 1) (by omega)
        obtain ⟨p, hp⟩ : ∃ p, wid A f j = p := ⟨_, rfl⟩
        obtain ⟨q, hqq⟩ : ∃ q, wid A f (j + 1) = q := ⟨_, rfl⟩
        rw [hp] at hq b1 l
        rw [hqq] at hq hstop
        generalize A (f + j + 1) = x at *
        obtain ⟨t, ht⟩ : ∃ t, f + j + 1 = t := ⟨_, rfl⟩
        rw [ht] at c1 l
        have htn : (t : Int) < (n : Int) := by omega
        have htn2 : t < n := by omega
        have hw1 : IntKind.i64.wrap (p + 256) = p + 256 := IntWalk.i64_in _ (by omega)
        have hw2 : IntKind.i64.wrap (p + 256 + x) = q := by rw [hq]; exact IntWalk.i64_in _ (by omega)
        have hbw : b < wr.heap.size := Nat.lt_of_lt_of_le hbl hk.size
        have hdq : decide (q ≤ room) = false := decide_eq_false (by omega)
        replace Hs := Lib.hid (show lineV (f : Int) (f + j + 1 : Nat) (wid A f j) = lineV (f : Int) (t : Nat) p by rw [hp, ht])
        clear hp
        replace ht := Lib.hid ht
        replace hqq := Lib.hid hqq
        replace o_l := o.lt
        replace o_0 := o.at 0 _ rfl
        replace o_f0 := o.free 0
        replace o_1 := o.at 1 _ rfl
        replace o_f1 := o.free 1
        replace o_2 := o.at 2 _ rfl
        replace o_f2 := o.free 2
        replace l_l := l.lt
        replace l_0 := l.at 0 _ rfl
        replace l_f0 := l.free 0
        replace l_1 := l.at 1 _ rfl
        replace l_f1 := l.free 1
        replace l_2 := l.at 2 _ rfl
        replace l_f2 := l.free 2
        go_wp2
        go_quiet (fail)
        go_wp2
        exact bodyPost_ret (v := .tuple #[lineV f (t : Nat) p, .int .i64 0]) (by simp [results, Try.results45, go_sem, o_0, o_1, o_2, l_0, l_1, l_2, o_l, l_l]) rfl ⟨by first | (rw [Hs.out]; done) | rfl, (by first | ((repeat (first | with_reducible exact hk | with_reducible refine Kept.alloc ?_ _ | with_reducible refine Kept.drew ?_ | with_reducible refine Kept.drewN ?_ _ | with_reducible refine Kept.set ?_ (by first | (simp; done) | (simp; omega) | omega) _)); done) | exact hk | exact (hk.alloc _) | exact ((hk.alloc _).alloc _) | exact (((hk.alloc _).alloc _).alloc _) | exact ((((hk.alloc _).alloc _).alloc _).alloc _) | exact (((((hk.alloc _).alloc _).alloc _).alloc _).alloc _) | exact ((((((hk.alloc _).alloc _).alloc _).alloc _).alloc _).alloc _) | (repeat (first | exact hk | refine Kept.alloc ?_ _ | refine Kept.drew ?_ | refine Kept.drewN ?_ _ | refine Kept.set ?_ (by first | (simp; done) | (simp; omega) | omega) _)))⟩
      · have hle := hK.le
        obtain ⟨t, ht⟩ : ∃ t, f + j + 1 = t := ⟨_, rfl⟩
        rw [ht] at l
        have htn : t = n := by omega
        have hdt : decide ((t : Int) < (n : Int)) = false := decide_eq_false (by omega)
        obtain ⟨p, hp⟩ : ∃ p, wid A f j = p := ⟨_, rfl⟩
        rw [hp] at l
        replace Hs := Lib.hid (show lineV (f : Int) (f + j + 1 : Nat) (wid A f j) = lineV (f : Int) (t : Nat) p by rw [hp, ht])
        subst htn
        clear hp ht
        replace o_l := o.lt
        replace o_0 := o.at 0 _ rfl
        replace o_f0 := o.free 0
        replace o_1 := o.at 1 _ rfl
        replace o_f1 := o.free 1
        replace o_2 := o.at 2 _ rfl
        replace o_f2 := o.free 2
        replace l_l := l.lt
        replace l_0 := l.at 0 _ rfl
        replace l_f0 := l.free 0
        replace l_1 := l.at 1 _ rfl
        replace l_f1 := l.free 1
        replace l_2 := l.at 2 _ rfl
        replace l_f2 := l.free 2
        go_wp2
        go_quiet (fail)
        go_wp2
        exact bodyPost_ret (v := .tuple #[lineV f (t : Nat) p, .int .i64 0]) (by simp [results, Try.results45, go_sem, o_0, o_1, o_2, l_0, l_1, l_2, o_l, l_l]) rfl ⟨by first | (rw [Hs.out]; done) | rfl, (by first | ((repeat (first | with_reducible exact hk | with_reducible refine Kept.alloc ?_ _ | with_reducible refine Kept.drew ?_ | with_reducible refine Kept.drewN ?_ _ | with_reducible refine Kept.set ?_ (by first | (simp; done) | (simp; omega) | omega) _)); done) | exact hk | exact (hk.alloc _) | exact ((hk.alloc _).alloc _) | exact (((hk.alloc _).alloc _).alloc _) | exact ((((hk.alloc _).alloc _).alloc _).alloc _) | exact (((((hk.alloc _).alloc _).alloc _).alloc _).alloc _) | exact ((((((hk.alloc _).alloc _).alloc _).alloc _).alloc _).alloc _) | (repeat (first | exact hk | refine Kept.alloc ?_ _ | refine Kept.drew ?_ | refine Kept.drewN ?_ _ | refine Kept.set ?_ (by first | (simp; done) | (simp; omega) | omega) _)))⟩
end Go.Proofs.Ytkdidhhilcamkaa
