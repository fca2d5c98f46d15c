/- Layer 6: any words, place, room: every call; they stay. -/
import Derived.Test.YtjehmhgafibgbaaSame
import Derived.Test.YtjehmhgafibgbaaRefBreak
import Derived.Test.YtjehmhgafibgbaaAwake6
namespace Go.Proofs.Ytjehmhgafibgbaa
open Go.RowKit
set_option linter.unusedSimpArgs false
set_option linter.unusedVariables false
theorem Kept.kept {a b c : World} (h : Kept a b) (k : Kept b c) : Kept a c := h.trans k
theorem fill_both (n : Nat) (S : Nat → ByteArray) (A G : Nat → Int) (f room : Int) (hb : n ≤ 4398046510976) : ∃ p q r s : Int,
    (∀ v w, WV w v n S A G → Calls Try.prog 24 #[v, .int .i64 f, .int .i64 room] w fun e w' => e = .returned (.tuple #[lineV p q r, .int .i64 s]) ∧ Kept w w') ∧
    (∀ v w, WV w v n S A G → Calls Try.prog 25 #[v, .int .i64 f, .int .i64 room] w fun e w' => e = .returned (.tuple #[lineV p q r, .int .i64 s]) ∧ Kept w w') := by
  by_cases hg : mayW n A = true ∧ 0 ≤ f ∧ f < (n : Int) ∧ mayB room = true
  · obtain ⟨h1, h2, h3, h4⟩ := hg
    obtain ⟨k, rfl⟩ := Int.eq_ofNat_of_zero_le h2
    exact ⟨_, _, _, _, fun v w h => linesFill_good v n S A G w h k room (by omega) h1 h4, fun v w h => refLFill_good v n S A G w h k room (by omega) h1 h4⟩
  · have hbad : mayW n A = false ∨ f < 0 ∨ (n : Int) ≤ f ∨ mayB room = false := by
      cases h1 : mayW n A with
      | false => exact .inl rfl
      | true =>
        cases h4 : mayB room with
        | false => exact .inr (.inr (.inr rfl))
        | true =>
          rw [h1, h4] at hg
          by_cases h2 : f < 0
          · exact .inr (.inl h2)
          · exact .inr (.inr (.inl (by simp at hg; omega)))
    exact ⟨0, 0, 0, 600, fun v w h => linesFill_wrong v n S A G w h f room hbad, fun v w h => refLFill_wrong v n S A G w h hb f room hbad⟩
theorem break_both (n : Nat) (S : Nat → ByteArray) (A G : Nat → Int) (room : Int) (hb : n ≤ 4398046510976) : ∃ (m : Nat) (F T D : Nat → Int) (s : Int), m ≤ 4398046510976 ∧
    (∀ v w, WV w v n S A G → Calls Try.prog 26 #[v, .int .i64 room] w fun e w' => ∃ u, e = .returned (.tuple #[u, .int .i64 s]) ∧ NewThree 47 w w' u m (vi F) (vi T) (vi D) ∧ Kept w w') ∧
    (∀ v w, WV w v n S A G → Calls Try.prog 27 #[v, .int .i64 room] w fun e w' => ∃ u, e = .returned (.tuple #[u, .int .i64 s]) ∧ NewThree 47 w w' u m (vi F) (vi T) (vi D) ∧ Kept w w') := by
  by_cases hg : mayW n A = true ∧ mayB room = true
  · obtain ⟨h1, h4⟩ := hg
    exact ⟨lineN A n room, fun i => lineAt A n room i, fun i => lineAt A n room (i + 1), lineW A n room, 0, by have := lineN_le A n room; omega,
      fun v w h => linesBreak_good v n S A G w h room h1 h4, fun v w h => refLBreak_good v n S A G w h hb room h1 h4⟩
  · have hbad : mayW n A = false ∨ mayB room = false := by
      cases h1 : mayW n A with
      | false => exact .inl rfl
      | true =>
        cases h4 : mayB room with
        | false => exact .inr rfl
        | true => exact absurd ⟨h1, h4⟩ hg
    exact ⟨0, fun _ => 0, fun _ => 0, fun _ => 0, 600, by decide,
      fun v w h => (linesBreak_wrong v n S A G w h room hbad).mono fun e w' ⟨he, hk⟩ => ⟨_, he, .inl ⟨rfl, none, 0, rfl, by decide⟩, hk⟩,
      fun v w h => (refLBreak_wrong v n S A G w h hb room hbad).mono fun e w' ⟨he, hk⟩ => ⟨_, he, .inl ⟨rfl, none, 0, rfl, by decide⟩, hk⟩⟩
set_option maxHeartbeats 2000000 in
theorem lines_walk (v : Value) (n : Nat) (S : Nat → ByteArray) (A G : Nat → Int) (f room : Int) (w : World) (hv : WV w v n S A G) (_hf : Fair n S A G) (hb : n ≤ 4398046510976) :
    Calls Try.prog 9 #[v, .int .i64 f, .int .i64 room] w fun e w' => e = .returned (.bool true) ∧ Kept w w' := by
  obtain ⟨sl, cap, rfl⟩ := hv.shape
  obtain ⟨p, q, r, s, H1, H2⟩ := fill_both n S A G f room hb
  obtain ⟨m, F, T, D, z, hm, H3, H4⟩ := break_both n S A G room hb
  replace H1 := Lib.hid H1
  replace H2 := Lib.hid H2
  replace H3 := Lib.hid H3
  replace H4 := Lib.hid H4
  have hk : Kept w w := Kept.refl w
  go_enter Try.func9, Try.ntmps9
  go_wp2_with fail
  refine (lendWords_any sl n cap S A G _ (hv.kept hk) hb).mono ?_
  rintro e w1 ⟨x, rfl, lx, hn⟩
  replace hk := hk.trans hn
  clear hn
  go_wp2_with fail
  refine (H1.out _ _ lx.wv).mono ?_
  rintro e w1 ⟨rfl, hn⟩
  replace hk := hk.trans hn
  replace lx := lx.kept hn
  clear hn
  go_wp2_with fail
  refine with_boxes1 ?_
  intro X hX a
  have hsz := hk.size
  replace hk := hk.trans hX
  replace lx := lx.kept hX
  clear hX
  replace a_l := a.lt
  replace a_0 := a.at 0 _ rfl
  replace a_1 := a.at 1 _ rfl
  replace a_2 := a.at 2 _ rfl
  refine (H2.out _ _ (hv.kept hk)).mono ?_
  rintro e w1 ⟨rfl, hn⟩
  replace hk := hk.trans hn
  replace lx := lx.kept hn
  replace a := a.kept hn
  clear hn
  replace a_l := a.lt
  replace a_0 := a.at 0 _ rfl
  replace a_1 := a.at 1 _ rfl
  replace a_2 := a.at 2 _ rfl
  go_wp2_with fail
  refine with_boxes1 ?_
  intro X hX b
  have hsz := hk.size
  replace hk := hk.trans hX
  replace lx := lx.kept hX
  replace a := a.kept hX
  clear hX
  replace a_l := a.lt
  replace a_0 := a.at 0 _ rfl
  replace a_1 := a.at 1 _ rfl
  replace a_2 := a.at 2 _ rfl
  replace b_l := b.lt
  replace b_0 := b.at 0 _ rfl
  replace b_1 := b.at 1 _ rfl
  replace b_2 := b.at 2 _ rfl
  obtain ⟨wq, rfl⟩ : ∃ wq : World, wq = X := ⟨_, rfl⟩
  have hkq : Kept wq wq := Kept.refl wq
  have lx0 := lx
  have hk0 := hk
  go_wp2_with fail
  refine (H3.out _ _ lx.wv).mono ?_
  rintro e w1 ⟨u, rfl, hu, hn⟩
  replace hk := hk.trans hn
  replace lx := lx.kept hn
  replace a := a.kept hn
  replace b := b.kept hn
  replace hkq := hkq.kept hn
  clear hn
  replace a_l := a.lt
  replace a_0 := a.at 0 _ rfl
  replace a_1 := a.at 1 _ rfl
  replace a_2 := a.at 2 _ rfl
  replace b_l := b.lt
  replace b_0 := b.at 0 _ rfl
  replace b_1 := b.at 1 _ rfl
  replace b_2 := b.at 2 _ rfl
  go_wp2_with fail
  refine (H4.out _ _ (hv.kept hk)).mono ?_
  rintro e w1 ⟨u2, rfl, hu2, hn⟩
  replace hk := hk.trans hn
  replace lx := lx.kept hn
  replace a := a.kept hn
  replace b := b.kept hn
  replace hkq := hkq.kept hn
  replace hu := hu.kept hn
  clear hn
  replace a_l := a.lt
  replace a_0 := a.at 0 _ rfl
  replace a_1 := a.at 1 _ rfl
  replace a_2 := a.at 2 _ rfl
  replace b_l := b.lt
  replace b_0 := b.at 0 _ rfl
  replace b_1 := b.at 1 _ rfl
  replace b_2 := b.at 2 _ rfl
  go_wp2_with fail
  refine (num_any _ _).mono ?_
  rintro e w1 ⟨rfl, rfl⟩
  go_wp2_with fail
  refine (sameLines_yes hu hu2 hm).mono ?_
  rintro e w1 ⟨rfl, hn⟩
  replace hk := hk.trans hn
  replace lx := lx.kept hn
  replace a := a.kept hn
  replace b := b.kept hn
  replace hkq := hkq.kept hn
  replace hu := hu.kept hn
  replace hu2 := hu2.kept hn
  clear hn
  replace a_l := a.lt
  replace a_0 := a.at 0 _ rfl
  replace a_1 := a.at 1 _ rfl
  replace a_2 := a.at 2 _ rfl
  replace b_l := b.lt
  replace b_0 := b.at 0 _ rfl
  replace b_1 := b.at 1 _ rfl
  replace b_2 := b.at 2 _ rfl
  go_wp2_with fail
  refine (num_any _ _).mono ?_
  rintro e w1 ⟨rfl, rfl⟩
  go_wp2_with fail
  refine (linesMay_any _ n S A G _ lx.wv).mono ?_
  rintro e w1 ⟨rfl, hn⟩
  replace hk := hk.trans hn
  replace lx := lx.kept hn
  replace a := a.kept hn
  replace b := b.kept hn
  replace hkq := hkq.kept hn
  replace hu := hu.kept hn
  replace hu2 := hu2.kept hn
  clear hn
  replace a_l := a.lt
  replace a_0 := a.at 0 _ rfl
  replace a_1 := a.at 1 _ rfl
  replace a_2 := a.at 2 _ rfl
  replace b_l := b.lt
  replace b_0 := b.at 0 _ rfl
  replace b_1 := b.at 1 _ rfl
  replace b_2 := b.at 2 _ rfl
  go_wp2_with fail
  refine (refLMay_any _ n S A G _ (hv.kept hk) hb).mono ?_
  rintro e w1 ⟨rfl, hn⟩
  replace hk := hk.trans hn
  replace lx := lx.kept hn
  replace a := a.kept hn
  replace b := b.kept hn
  replace hkq := hkq.kept hn
  replace hu := hu.kept hn
  replace hu2 := hu2.kept hn
  clear hn
  replace a_l := a.lt
  replace a_0 := a.at 0 _ rfl
  replace a_1 := a.at 1 _ rfl
  replace a_2 := a.at 2 _ rfl
  replace b_l := b.lt
  replace b_0 := b.at 0 _ rfl
  replace b_1 := b.at 1 _ rfl
  replace b_2 := b.at 2 _ rfl
  go_wp2_with fail
  refine (spoilLines_any hkq hm hu).mono ?_
  rintro e w9 ⟨rfl, hn⟩
  replace hk := hk0.trans hn
  replace lx := lx0.kept hn
  clear lx0 hk0 hu hu2 hkq
  clear a b
  clear a_l a_0 a_1 a_2
  clear b_l b_0 b_1 b_2
  go_wp2_with fail
  refine (keptWords_yes lx (hv.kept hk) hb).mono ?_
  rintro e w10 ⟨rfl, hn⟩
  replace hk := hk.trans hn
  go_wp2_with fail
  refine (awake6_any _).mono ?_
  rintro e w11 ⟨rfl, hn⟩
  replace hk := hk.trans hn
  go_wp2
  go_ret
  exact ⟨rfl, hk⟩
end Go.Proofs.Ytjehmhgafibgbaa
