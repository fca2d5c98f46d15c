/- Layer 21: what every program answers that is one; where one stands in a line, by hand. -/
import Derived.Test.YtkncagphlfpafaaCross3
import Derived.Test.YtkncagphlfpafaaMask
namespace Go.Proofs.Ytkncagphlfpafaa
open Go.RowKit
set_option linter.unusedSimpArgs false
set_option linter.unusedVariables false
theorem IV.congr {w : World} {v : Value} {n : Nat} {Z Y : Nat → Int} (h : IV w v n Z) (e : ∀ i, i < n → Z i = Y i) : IV w v n Y := by
  rcases h with h | ⟨b, off, cap, h1, h2, h3, h4⟩
  · exact .inl h
  · exact .inr ⟨b, off, cap, h1, h2, h3, fun i hi => by rw [h4 i hi, e i hi]⟩
theorem iv_three {w : World} {b : Nat} {t : TypeId} {x y z : Int} (h : Own w b t #[.int .i64 x, .int .i64 y, .int .i64 z]) : IV w (.slice (some ⟨b, 0, none⟩) 3 3) 3 (intL [x, y, z]) :=
  iv_of h (by decide) (by decide) fun i hi => by
    match i, hi with
    | 0, _ => rfl
    | 1, _ => rfl
    | 2, _ => rfl
theorem a21_between : ∀ i, i < 3 → placeS 3 100 3 (intL [10, 20, 5]) i = intL [0, 42, 95] i := by decide
theorem a21_center : ∀ i, i < 2 → placeS 2 100 2 (intL [10, 21]) i = intL [34, 44] i := by decide
set_option maxRecDepth 20000 in
set_option maxHeartbeats 2000000 in
theorem awake21_any (w : World) :
    Calls Try.prog 27 #[] w fun e w' => e = .returned (.bool true) ∧ Kept w w' := by
  have m1 : mainB 3 100 3 (intL [10, 20, 5]) = true := by decide
  have m2 : mainB 2 100 2 (intL [10, 21]) = true := by decide
  have m3 : mainB 4 1 0 (fun _ => 0) = false := by decide
  have e1 : crossS 3 10 15 = (-3, 15, 0) := by decide
  have e2 : crossS 0 10 15 = (0, 10, 0) := by decide
  have e3 : crossS 4 1 1 = (0, 0, 2100) := by decide
  have M1 := Lib.hid m1
  have M2 := Lib.hid m2
  have M3 := Lib.hid m3
  clear m1 m2 m3
  have hk : Kept w w := Kept.refl w
  go_enter Try.func27, Try.ntmps27
  go_wp2_with fail
  refine with_boxes1 ?_
  intro X hX a
  have hsz := hk.size
  replace hk := hk.trans hX
  clear hX
  refine (crossMain_good _ _ _ 3 _ _ (iv_three a) M1.out).mono ?_
  rintro e w1 ⟨u, rfl, hu, hn⟩
  replace hk := hk.trans hn
  replace a := a.kept hn
  clear hn
  go_wp2_with fail
  refine with_boxes1 ?_
  intro X hX b
  have hsz := hk.size
  replace hk := hk.trans hX
  replace a := a.kept hX
  replace hu := hu.kept hX
  clear hX
  refine (crossMain_good _ _ _ 2 _ _ (iv_two b) M2.out).mono ?_
  rintro e w1 ⟨v, rfl, hv, hn⟩
  replace hk := hk.trans hn
  replace a := a.kept hn
  replace hu := hu.kept hn
  replace b := b.kept hn
  clear hn
  go_wp2_with fail
  refine (crossMain_wrong _ _ _ 0 (fun _ => 0) _ (.inl ⟨rfl, none, 0, rfl⟩) (by decide) M3.out).mono ?_
  rintro e w1 ⟨rfl, hn⟩
  replace hk := hk.trans hn
  replace a := a.kept hn
  replace hu := hu.kept hn
  replace b := b.kept hn
  replace hv := hv.kept hn
  clear hn
  go_wp2_with fail
  refine (crossCross_any _ _ _ _).mono ?_
  rintro e w1 ⟨rfl, hn⟩
  replace hk := hk.trans hn
  replace a := a.kept hn
  replace hu := hu.kept hn
  replace b := b.kept hn
  replace hv := hv.kept hn
  clear hn
  go_wp2_with fail
  refine (crossCross_any _ _ _ _).mono ?_
  rintro e w1 ⟨rfl, hn⟩
  replace hk := hk.trans hn
  replace a := a.kept hn
  replace hu := hu.kept hn
  replace b := b.kept hn
  replace hv := hv.kept hn
  clear hn
  go_wp2_with fail
  refine (crossCross_any _ _ _ _).mono ?_
  rintro e w1 ⟨rfl, hn⟩
  replace hk := hk.trans hn
  replace a := a.kept hn
  replace hu := hu.kept hn
  replace b := b.kept hn
  replace hv := hv.kept hn
  clear hn
  go_wp2_with fail
  refine with_boxes1 ?_
  intro X hX c
  have hsz := hk.size
  replace hk := hk.trans hX
  replace a := a.kept hX
  replace hu := hu.kept hX
  replace b := b.kept hX
  replace hv := hv.kept hX
  clear hX
  refine (sameIV_yes (hu.iv.congr a21_between) (iv_three c) (by decide)).mono ?_
  rintro e w1 ⟨rfl, hn⟩
  replace hk := hk.trans hn
  replace a := a.kept hn
  replace hu := hu.kept hn
  replace b := b.kept hn
  replace hv := hv.kept hn
  replace c := c.kept hn
  clear hn
  go_wp2_with fail
  refine (num_any _ _).mono ?_
  rintro e w1 ⟨rfl, rfl⟩
  go_wp2_with fail
  refine with_boxes1 ?_
  intro X hX d
  have hsz := hk.size
  replace hk := hk.trans hX
  replace a := a.kept hX
  replace hu := hu.kept hX
  replace b := b.kept hX
  replace hv := hv.kept hX
  replace c := c.kept hX
  clear hX
  refine (sameIV_yes (hv.iv.congr a21_center) (iv_two d) (by decide)).mono ?_
  rintro e w1 ⟨rfl, hn⟩
  replace hk := hk.trans hn
  replace a := a.kept hn
  replace hu := hu.kept hn
  replace b := b.kept hn
  replace hv := hv.kept hn
  replace c := c.kept hn
  replace d := d.kept hn
  clear hn
  go_wp2_with fail
  refine (num_any _ _).mono ?_
  rintro e w1 ⟨rfl, rfl⟩
  go_wp2_with fail
  refine (num_any _ _).mono ?_
  rintro e w1 ⟨rfl, rfl⟩
  go_wp2_with fail
  refine (num_any _ _).mono ?_
  rintro e w1 ⟨rfl, rfl⟩
  go_wp2_with fail
  refine (num_any _ _).mono ?_
  rintro e w1 ⟨rfl, rfl⟩
  go_wp2_with fail
  refine (num_any _ _).mono ?_
  rintro e w1 ⟨rfl, rfl⟩
  go_wp2
  go_ret
  exact ⟨rfl, hk⟩
set_option maxHeartbeats 1000000 in
theorem crossTable_walk (c x y : Int) (w : World) :
    Calls Try.prog 11 #[.int .i64 c, .int .i64 x, .int .i64 y] w fun e w' => e = .returned (.bool true) ∧ Kept w w' := by
  obtain ⟨a, ha, a1, a2⟩ := masked x 12 4095 (by decide) (by decide)
  obtain ⟨b, hb, b1, b2⟩ := masked y 12 4095 (by decide) (by decide)
  obtain ⟨k, hk0, k1, k2⟩ := masked c 2 3 (by decide) (by decide)
  have ma : mayB a = true := mayB_true.2 (by omega)
  have mb : mayB b = true := mayB_true.2 (by omega)
  rcases (by omega : k = 0 ∨ k = 1 ∨ k = 2 ∨ k = 3) with rfl | rfl | rfl | rfl
  · have e1 : crossS 0 a b = (0, a, 0) := by unfold crossS crossB; rw [ma, mb]; rfl
    clear ma mb
    have hk : Kept w w := Kept.refl w
    go_enter Try.func11, Try.ntmps11
    go_wp2_with fail
    refine (awake21_any _).mono ?_
    rintro e w1 ⟨rfl, hn⟩
    replace hk := hk.trans hn
    clear hn
    go_wp2_with fail
    refine (crossCross_any _ _ _ _).mono ?_
    rintro e w1 ⟨rfl, hn⟩
    replace hk := hk.trans hn
    clear hn
    go_wp2_with fail
    refine (num_any _ _).mono ?_
    rintro e w1 ⟨rfl, rfl⟩
    go_wp2
    go_ret
    exact ⟨rfl, hk⟩
  · have e1 : crossS 1 a b = (0, b, 0) := by unfold crossS crossB; rw [ma, mb]; rfl
    clear ma mb
    have hk : Kept w w := Kept.refl w
    go_enter Try.func11, Try.ntmps11
    go_wp2_with fail
    refine (awake21_any _).mono ?_
    rintro e w1 ⟨rfl, hn⟩
    replace hk := hk.trans hn
    clear hn
    go_wp2_with fail
    refine (crossCross_any _ _ _ _).mono ?_
    rintro e w1 ⟨rfl, hn⟩
    replace hk := hk.trans hn
    clear hn
    go_wp2_with fail
    refine (num_any _ _).mono ?_
    rintro e w1 ⟨rfl, rfl⟩
    go_wp2
    go_ret
    exact ⟨rfl, hk⟩
  · have e1 : crossS 2 a b = (a - b, b, 0) := by unfold crossS crossB; rw [ma, mb]; rfl
    clear ma mb
    have hk : Kept w w := Kept.refl w
    go_enter Try.func11, Try.ntmps11
    go_wp2_with fail
    refine (awake21_any _).mono ?_
    rintro e w1 ⟨rfl, hn⟩
    replace hk := hk.trans hn
    clear hn
    go_wp2_with fail
    refine (crossCross_any _ _ _ _).mono ?_
    rintro e w1 ⟨rfl, hn⟩
    replace hk := hk.trans hn
    clear hn
    go_wp2_with fail
    refine (num_any _ _).mono ?_
    rintro e w1 ⟨rfl, rfl⟩
    go_wp2
    go_ret
    exact ⟨ret_bool (by first | rfl | (simp; done) | (simp; omega)), hk⟩
  · have e1 : crossS 3 a b = ((a - b) / 2, b, 0) := by unfold crossS crossB; rw [ma, mb]; rfl
    obtain ⟨q, hq⟩ : ∃ q, (a - b) / 2 = q := ⟨_, rfl⟩
    rw [hq] at e1
    obtain ⟨s, hs⟩ : ∃ s, a - b = s := ⟨_, rfl⟩
    have hqq : s = 2 * q ∨ s = 2 * q + 1 := by omega
    clear ma mb hq
    have hqb : -4096 ≤ q ∧ q ≤ 4096 := by omega
    rcases hqq with rfl | rfl
    all_goals
      have hk : Kept w w := Kept.refl w
      go_enter Try.func11, Try.ntmps11
      go_wp2_with fail
      refine (awake21_any _).mono ?_
      rintro e w1 ⟨rfl, hn⟩
      replace hk := hk.trans hn
      clear hn
      go_wp2_with fail
      refine (crossCross_any _ _ _ _).mono ?_
      rintro e w1 ⟨rfl, hn⟩
      replace hk := hk.trans hn
      clear hn
      go_wp2_with fail
      refine (num_any _ _).mono ?_
      rintro e w1 ⟨rfl, rfl⟩
      go_wp2
      go_ret
      exact ⟨ret_bool (by first | rfl | (simp; done) | (simp; omega)), hk⟩
end Go.Proofs.Ytkncagphlfpafaa
