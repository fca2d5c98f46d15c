/- Layer 20: what every program answers that is one. -/
import Derived.Test.YticnfoppdgeioaaFlexible
import Derived.Test.YticnfoppdgeioaaSpoilI
namespace Go.Proofs.Yticnfoppdgeioaa
open Go.RowKit
set_option linter.unusedSimpArgs false
set_option linter.unusedVariables false
theorem Made.iv {t : TypeId} {a w : World} {v : Value} {n : Nat} {Z : Nat → Int} (h : Made t a w v n (intZ Z)) (hp : 0 < n) : IV w v n Z := by
  obtain ⟨b, cs, rfl, _, h3, h4, h5⟩ := h
  exact .inr ⟨b, 0, n, rfl, hp, Nat.le_refl _, fun i hi => by rw [Nat.zero_add]; exact (h3.cell i).trans (h5 i hi)⟩
theorem Made.same {t : TypeId} {a w : World} {v : Value} {n : Nat} {Z Y : Nat → Int} (h : Made t a w v n (intZ Z)) (e : ∀ i, i < n → Z i = Y i) : Made t a w v n (intZ Y) := by
  obtain ⟨b, cs, h1, h2, h3, h4, h5⟩ := h
  exact ⟨b, cs, h1, h2, h3, h4, fun i hi => by rw [h5 i hi]; unfold intZ; rw [e i hi]⟩
theorem iv3 {w : World} {b : Nat} {t : TypeId} {x y z : Int} (h : Own w b t #[.int .i64 x, .int .i64 y, .int .i64 z]) : IV w (.slice (some ⟨b, 0, none⟩) 3 3) 3 (intL [x, y, z]) :=
  iv_of h (by decide) (by decide) fun i hi => by
    rcases (by omega : i = 0 ∨ i = 1 ∨ i = 2) with rfl | rfl | rfl <;> rfl
theorem iv2 {w : World} {b : Nat} {t : TypeId} {x y : Int} (h : Own w b t #[.int .i64 x, .int .i64 y]) : IV w (.slice (some ⟨b, 0, none⟩) 2 2) 2 (intL [x, y]) :=
  iv_of h (by decide) (by decide) fun i hi => by
    rcases (by omega : i = 0 ∨ i = 1) with rfl | rfl <;> rfl
def zL2 (l : List (List Int)) (i j : Nat) : Int := (l.getD i []).getD j 0
def a20 : Nat → Nat → Int := zL2 [[10, 0, 99, 1, 0, 0], [20, 0, 25, 1, 0, 0], [5, 0, 99, 0, 0, 0]]
def b20 : Nat → Nat → Int := zL2 [[60, 0, 99, 0, 1, 0], [60, 50, 99, 0, 1, 0]]
theorem a20_good : goodF 3 (itemOf a20) 100 = true := by decide
theorem b20_good : goodF 2 (itemOf b20) 80 = true := by decide
theorem n20_bad (I : Nat → Item) : goodF 0 I (-1) = false := by unfold goodF; rw [show inB 0 4194304 (-1) = false by decide, Bool.and_false]
theorem a20_is : ∀ i, i < 3 → resS (itemOf a20) 100 3 i = intL [70, 25, 5] i := by decide +kernel
theorem b20_is : ∀ i, i < 2 → resS (itemOf b20) 80 2 i = intL [30, 50] i := by decide +kernel
theorem flexible_is (v : Value) (n : Nat) (I : Nat → Item) (room : Int) (w : World) (h : ItV w v n I) (hn : n ≤ 4611686018427387904) (hg : goodF n I room = true) (Y : Nat → Int) (hY : ∀ i, i < n → resS I room n i = Y i) :
    Calls Try.prog 11 #[v, .int .i64 room] w fun e w' => ∃ u, e = .returned (.tuple #[u, .int .i64 0]) ∧ Made 3 w w' u n (intZ Y) ∧ Kept w w' := by
  refine (flexible_any v n I room w h hn).mono fun e w' ⟨u, E, he, hk, hu⟩ => ?_
  rcases hu with ⟨_, rfl, hu⟩ | ⟨h2, _⟩
  · exact ⟨u, he, hu.same hY, hk⟩
  · rw [hg] at h2; cases h2
theorem flexible_no (v : Value) (n : Nat) (I : Nat → Item) (room : Int) (w : World) (h : ItV w v n I) (hn : n ≤ 4611686018427387904) (hg : goodF n I room = false) :
    Calls Try.prog 11 #[v, .int .i64 room] w fun e w' => e = .returned (.tuple #[.slice none 0 0, .int .i64 2000]) ∧ Kept w w' := by
  refine (flexible_any v n I room w h hn).mono fun e w' ⟨u, E, he, hk, hu⟩ => ?_
  rcases hu with ⟨h2, _⟩ | ⟨_, rfl, rfl⟩
  · rw [hg] at h2; cases h2
  · exact ⟨he, hk⟩
set_option maxHeartbeats 2000000 in
theorem awake20_any (w : World) :
    Calls Try.prog 17 #[] w fun e w' => e = .returned (.bool true) ∧ Kept w w' := by
  have hk : Kept w w := Kept.refl w
  go_enter Try.func17, Try.ntmps17
  go_wp2_with fail
  refine with_boxes1 ?_
  intro X hX a
  have hsz := hk.size
  replace hk := hk.trans hX
  clear hX
  have ha : ItV X _ 3 (itemOf a20) := itv_row (rv_lit a 6 3 (by decide) (intC a20) rfl)
  clear a
  go_wp2_with fail
  refine (flexible_is _ 3 _ _ _ ha (by decide) a20_good _ a20_is).mono ?_
  rintro e w1 ⟨u, rfl, hu, hn⟩
  replace hk := hk.trans hn
  clear hn
  go_wp2_with fail
  refine with_boxes1 ?_
  intro X hX b
  have hsz := hk.size
  replace hk := hk.trans hX
  replace hu := hu.kept hX
  clear hX
  refine (flexible_is _ 2 _ _ _ (itv_row (rv_lit b 6 2 (by decide) (intC b20) rfl)) (by decide) b20_good _ b20_is).mono ?_
  rintro e w1 ⟨v, rfl, hv, hn⟩
  replace hk := hk.trans hn
  replace hu := hu.kept hn
  replace b := b.kept hn
  clear hn
  clear b
  go_wp2_with fail
  refine (flexible_no _ 0 (itemOf a20) _ _ (.inl ⟨none, 0, rfl, rfl⟩) (by decide) (n20_bad _)).mono ?_
  rintro e w1 ⟨rfl, hn⟩
  replace hk := hk.trans hn
  replace hu := hu.kept hn
  replace hv := hv.kept hn
  clear hn
  go_wp2_with fail
  refine with_boxes1 ?_
  intro X hX c
  have hsz := hk.size
  replace hk := hk.trans hX
  replace hu := hu.kept hX
  replace hv := hv.kept hX
  clear hX
  refine (sameIV_yes (hu.iv (by decide)) (iv3 c) (by decide)).mono ?_
  rintro e w1 ⟨rfl, hn⟩
  replace hk := hk.trans hn
  replace hu := hu.kept hn
  replace hv := hv.kept hn
  replace c := c.kept hn
  clear hn
  go_wp2_with fail
  refine (num_any _ _).mono ?_
  rintro e w1 ⟨rfl, rfl⟩
  go_wp2_with fail
  refine with_boxes1 ?_
  intro X hX d
  have hsz := hk.size
  replace hk := hk.trans hX
  replace hu := hu.kept hX
  replace hv := hv.kept hX
  replace c := c.kept hX
  clear hX
  refine (sameIV_yes (hv.iv (by decide)) (iv2 d) (by decide)).mono ?_
  rintro e w1 ⟨rfl, hn⟩
  replace hk := hk.trans hn
  replace hu := hu.kept hn
  replace hv := hv.kept hn
  replace c := c.kept hn
  replace d := d.kept hn
  clear hn
  go_wp2_with fail
  refine (num_any _ _).mono ?_
  rintro e w1 ⟨rfl, rfl⟩
  go_wp2_with fail
  refine (num_any _ _).mono ?_
  rintro e w1 ⟨rfl, rfl⟩
  go_wp2
  go_ret
  exact ⟨rfl, hk⟩
end Go.Proofs.Yticnfoppdgeioaa
