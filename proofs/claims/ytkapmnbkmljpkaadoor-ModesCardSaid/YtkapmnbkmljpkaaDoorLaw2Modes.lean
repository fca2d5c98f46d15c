/- Layer 2: any mode, any side: every call. -/
import Derived.Test.YtkapmnbkmljpkaaDoorSpoilModes
import Derived.Test.YtkapmnbkmljpkaaDoorBoxes
import Derived.Test.YtkapmnbkmljpkaaDoorAwake2
import Derived.Deep.RegionHeld3
namespace Go.Proofs.YtkapmnbkmljpkaaDoor
open Go.RowKit
set_option linter.unusedSimpArgs false
/-- all modes, their row known whole -/
theorem modeAll_owns (w : World) :
    Calls Tryd.prog 13 #[] w fun e w' => ∃ g cap, e = .returned (.slice (some ⟨g, 0, none⟩) 6 cap) ∧ w'.ownsRow w.heap.size 23 2 (.slice (some ⟨g, 0, none⟩) 6 cap) 6 allModes ∧ Lies w w' g allModes ∧ Kept w w' :=
  (modeAll_any w).mono fun e w' ⟨v, he, ho, hk⟩ => by
    obtain ⟨g, cap, hv, hl⟩ := lies_of ho (by decide)
    exact ⟨g, cap, by rw [he, hv], hv ▸ ho, hl, hk⟩
theorem own_kept {W w1 : World} {base : Nat} {e : TypeId} {size n : Nat} {v : Value} {xs : List Value} (h : W.ownsRow base e size v n xs) (k : Kept W w1) : w1.ownsRow base e size v n xs :=
  World.ownsRow.kept h (row := none) ⟨k.below.os, k.below.tape, k.below.output, k.below.size, fun i hi _ => k.below.block i hi⟩ (by by_cases hv : v.ownBlock = none <;> simp [hv])
theorem Kept.rowNone {W w1 : World} (k : Kept W w1) : W.grownBy w1 none := ⟨k.below.os, k.below.tape, k.below.output, k.below.size, fun i hi _ => k.below.block i hi⟩
abbrev rowM (g cap : Nat) : Value := .slice (some ⟨g, 0, none⟩) 6 cap
theorem heldModes {w W w1 : World} {wm di : Int} {b g cap : Nat} (hh : Kept w W ∧ W.cell? ⟨b, 0, none⟩ = some (.int .i64 wm) ∧ W.cell? ⟨b, 1, none⟩ = some (.int .i64 di) ∧ b < W.heap.size ∧ Modes6 W g ∧ W.ownsRow w.heap.size 23 2 (rowM g cap) 6 allModes) (hn : Kept W w1) :
    Kept w w1 ∧ w1.cell? ⟨b, 0, none⟩ = some (.int .i64 wm) ∧ w1.cell? ⟨b, 1, none⟩ = some (.int .i64 di) ∧ b < w1.heap.size ∧ Modes6 w1 g ∧ w1.ownsRow w.heap.size 23 2 (rowM g cap) 6 allModes :=
  ⟨hh.1.trans hn, (hn.cell hh.2.2.2.1).trans hh.2.1, (hn.cell hh.2.2.2.1).trans hh.2.2.1, Nat.lt_of_lt_of_le hh.2.2.2.1 hn.size, hh.2.2.2.2.1.kept hn, own_kept hh.2.2.2.2.2 hn⟩
theorem heldM6 {w W : World} {g : Nat} {A B C D : Prop} (hh : Kept w W ∧ A ∧ B ∧ C ∧ Modes6 W g ∧ D) : Modes6 W g := hh.2.2.2.2.1
set_option maxHeartbeats 4000000 in
theorem modes_walk (wm di side : Int) (w : World) (ht : Tab w) :
    Calls Tryd.prog 3 #[modeV wm di, .int .i64 side] w fun e w' => e = .returned (.bool true) ∧ Kept w w' := by
  have hk : Kept w w := Kept.refl w
  go_enter Tryd.func3, Tryd.ntmps3
  go_wp2_with fail
  refine with_boxes1 ?_
  intro X hX m
  have hsz := hk.size
  replace hk := hk.trans hX
  clear hX
  replace m_l := m.lt
  replace m_0 := m.at 0 _ rfl
  replace m_1 := m.at 1 _ rfl
  refine (modeEdge_any _ _ _ _ (ht.kept hk)).mono ?_
  rintro e w1 ⟨rfl, hn⟩
  replace hk := hk.trans hn
  replace m := m.kept hn
  clear hn
  replace m_l := m.lt
  replace m_0 := m.at 0 _ rfl
  replace m_1 := m.at 1 _ rfl
  go_wp2_with fail
  refine (refEdge_any _ _ _ _).mono ?_
  rintro e w1 ⟨rfl, hn⟩
  replace hk := hk.trans hn
  replace m := m.kept hn
  clear hn
  replace m_l := m.lt
  replace m_0 := m.at 0 _ rfl
  replace m_1 := m.at 1 _ rfl
  go_wp2_with fail
  refine (modeSide_any _ _ _ _ (ht.kept hk)).mono ?_
  rintro e w1 ⟨rfl, hn⟩
  replace hk := hk.trans hn
  replace m := m.kept hn
  clear hn
  replace m_l := m.lt
  replace m_0 := m.at 0 _ rfl
  replace m_1 := m.at 1 _ rfl
  go_wp2_with fail
  refine (refSide_any _ _ _ _).mono ?_
  rintro e w1 ⟨rfl, hn⟩
  replace hk := hk.trans hn
  replace m := m.kept hn
  clear hn
  replace m_l := m.lt
  replace m_0 := m.at 0 _ rfl
  replace m_1 := m.at 1 _ rfl
  go_wp2_with fail
  obtain ⟨wa, rfl⟩ : ∃ wa : World, wa = w1 := ⟨_, rfl⟩
  refine (modeAll_owns _).mono ?_
  rintro e w2 ⟨g, cap, rfl, ho, hl, hn⟩
  have hg := hl.ge
  have h6 := modes6_of hl
  replace m := m.kept hn
  have hS : Kept wa w2.drew ∧ w2.drew.cell? ⟨w.heap.size, 0, none⟩ = some (.int .i64 wm) ∧ w2.drew.cell? ⟨w.heap.size, 1, none⟩ = some (.int .i64 di) ∧ w.heap.size < w2.drew.heap.size ∧ Modes6 w2.drew g ∧ w2.drew.ownsRow wa.heap.size 23 2 (rowM g cap) 6 allModes :=
    heldModes ⟨hn, m.at 0 _ rfl, m.at 1 _ rfl, m.lt, h6, ho⟩ ((Kept.refl _).drew)
  clear hn m m_l m_0 m_1 hl ho h6
  generalize edgeS wm di side = E at *
  generalize sideS wm di side = D at *
  go_wp2_with fail
  go_region_held3 (fun W => Kept wa W ∧ W.cell? ⟨w.heap.size, 0, none⟩ = some (.int .i64 wm) ∧ W.cell? ⟨w.heap.size, 1, none⟩ = some (.int .i64 di) ∧ w.heap.size < W.heap.size ∧ Modes6 W g ∧ W.ownsRow wa.heap.size 23 2 (rowM g cap) 6 allModes)
    (first | exact hS | assumption | exact heldModes ‹Kept wa _ ∧ _› hn)
    (first
      | (go_at_call 14; refine (num_any _ _).mono ?_; rintro e w3 ⟨rfl, rfl⟩)
      | (go_at_call 15; refine (modeMay_any _ _ _).mono ?_; rintro e w3 ⟨rfl, hn⟩)
      | (go_at_call 16; refine (refModeMay_any _ _ _).mono ?_; rintro e w3 ⟨rfl, hn⟩)
      | (go_at_call 17; refine (modeVertical_any _ _ _).mono ?_; rintro e w3 ⟨rfl, hn⟩)
      | (go_at_call 18; refine (refVertical_any _ _ _).mono ?_; rintro e w3 ⟨rfl, hn⟩)
      | (go_at_call 20; refine (refModes_lies _).mono ?_; rintro e w3 ⟨g2, cap2, rfl, hl2, hn⟩; have h62 := modes6_of hl2)
      | (go_at_call 19; refine (sameModes_yes _ _ _ _ _ (heldM6 ‹Kept wa _ ∧ _ ∧ _ ∧ _ ∧ Modes6 _ _ ∧ _›) h62).mono ?_; rintro e w3 ⟨rfl, hn⟩))
  obtain ⟨k1, _, _, _, _, ho⟩ := ‹Kept wa _ ∧ _ ∧ _ ∧ _ ∧ Modes6 _ _ ∧ _›
  clear hS
  go_wp2_with fail
  refine (spoilModes_any wa g cap _ k1 hg ho).mono ?_
  rintro e w5 ⟨rfl, k5⟩
  replace hk := hk.trans k5
  clear k1 k5 ho hg
  go_wp2_with fail
  refine (modeAll_lies _).mono ?_
  rintro e w6 ⟨g3, cap3, rfl, hl3, hn⟩
  replace hk := hk.trans hn
  have h63 := modes6_of hl3
  clear hl3 hn
  go_wp2_with fail
  refine (refModes_lies _).mono ?_
  rintro e w7 ⟨g4, cap4, rfl, hl4, hn⟩
  replace hk := hk.trans hn
  have h64 := modes6_of hl4
  replace h63 := h63.kept hn
  clear hl4 hn
  go_wp2_with fail
  refine (sameModes_yes _ _ _ _ _ h63 h64).mono ?_
  rintro e w8 ⟨rfl, hn⟩
  replace hk := hk.trans hn
  clear hn
  go_wp2_with fail
  refine (awake2_any _ (ht.kept hk)).mono ?_
  rintro e w9 ⟨rfl, hn⟩
  replace hk := hk.trans hn
  go_wp2
  go_ret
  exact ⟨rfl, hk⟩
end Go.Proofs.YtkapmnbkmljpkaaDoor
