/- Layer 2: the walks of the statements. -/
import Derived.Test.YtkapmnbkmljpkaaDoorAwake2
import Derived.Test.YtkapmnbkmljpkaaDoorMask
namespace Go.Proofs.YtkapmnbkmljpkaaDoor
open Go.RowKit
theorem edgeS_no {wm di side : Int} (h : modeMayB wm di = false ∨ side < 0 ∨ 3 < side) : edgeS wm di side = (0, 200) := if_neg (by
  rcases h with h | h | h
  · simp [h]
  · rw [inB_true]; omega
  · rw [inB_true]; omega)
theorem edgeT_bd (wm side : Int) : 0 ≤ edgeT wm side ∧ edgeT wm side ≤ 3 := by unfold edgeT; (repeat' split) <;> omega
theorem sideS_no {wm di edge : Int} (h : modeMayB wm di = false ∨ edge < 0 ∨ 3 < edge) : sideS wm di edge = (0, 200) := by
  have hk : ∀ k : Nat, ¬ ((edgeS wm di k).2 = 0 ∧ (edgeS wm di k).1 = edge) := by
    intro k ⟨h1, h2⟩
    unfold edgeS at h1 h2
    split at h1
    · rename_i hc
      rw [if_pos hc] at h2
      have := edgeT_bd wm (if di = 1 then rtlS k else k)
      rcases h with h | h
      · rw [h] at hc; simp at hc
      · simp only at h2; omega
    · simp at h1
  unfold sideS
  simp only [sideF, if_neg (hk _)]
theorem vertB_no {wm di : Int} (h : modeMayB wm di = false) : vertB wm di = false := by unfold vertB; rw [h]; rfl
theorem modeMayB_no {wm di : Int} (h : wm < 0 ∨ 2 < wm ∨ di < 0 ∨ 1 < di) : modeMayB wm di = false := by
  rw [Bool.eq_false_iff, ne_eq, modeMayB_true]; omega
set_option maxHeartbeats 4000000 in
theorem modeForms_walk (a b : Int) (w : World) (ht : Tab w) :
    Calls Tryd.prog 5 #[.int .i64 a, .int .i64 b] w fun e w' => e = .returned (.bool true) ∧ Kept w w' := by
  obtain ⟨x, hx, x1, x2⟩ := masked b 10 1023 (by decide) (by decide)
  obtain ⟨i, hi, i1, i2⟩ := urest a 4 (by decide) (by decide)
  have f1 : edgeS 0 0 (-(1 + x)) = (0, 200) := edgeS_no (by omega)
  have f2 : edgeS 0 0 (3 + (1 + x)) = (0, 200) := edgeS_no (by omega)
  have f3 : sideS 0 0 (-(1 + x)) = (0, 200) := sideS_no (by omega)
  have f4 : sideS 0 0 (3 + (1 + x)) = (0, 200) := sideS_no (by omega)
  rcases (by omega : i = 0 ∨ i = 1 ∨ i = 2 ∨ i = 3) with rfl | rfl | rfl | rfl
  · have g1 : modeMayB (-(1 + x)) 0 = false := modeMayB_no (by omega)
    have g2 := vertB_no g1
    have g3 := edgeS_no (side := 0) (.inl g1)
    have g4 := sideS_no (edge := 0) (.inl g1)
    have hk : Kept w w := Kept.refl w
    go_enter Tryd.func5, Tryd.ntmps5
    go_wp2_with (first
      | (go_at_call 22; refine (awake2_any _ (ht.kept (by first | exact hk | exact (hk.alloc _) | exact ((hk.alloc _).alloc _) | exact (((hk.alloc _).alloc _).alloc _) | exact ((((hk.alloc _).alloc _).alloc _).alloc _) | exact (((((hk.alloc _).alloc _).alloc _).alloc _).alloc _) | exact ((((((hk.alloc _).alloc _).alloc _).alloc _).alloc _).alloc _)))).mono ?_; rintro e w1 ⟨rfl, hn⟩; replace hk := Kept.trans (by first | exact hk | exact (hk.alloc _) | exact ((hk.alloc _).alloc _) | exact (((hk.alloc _).alloc _).alloc _) | exact ((((hk.alloc _).alloc _).alloc _).alloc _) | exact (((((hk.alloc _).alloc _).alloc _).alloc _).alloc _) | exact ((((((hk.alloc _).alloc _).alloc _).alloc _).alloc _).alloc _)) hn)
      | fail)
    refine with_box ?_
    intro hb
    simp only [World.size_alloc] at hb
    go_wp2_with (first
      | (go_at_call 9; refine (modeEdge_any _ _ _ _ (ht.kept (by first | exact hk | exact (hk.alloc _) | exact ((hk.alloc _).alloc _) | exact (((hk.alloc _).alloc _).alloc _) | exact ((((hk.alloc _).alloc _).alloc _).alloc _) | exact (((((hk.alloc _).alloc _).alloc _).alloc _).alloc _) | exact ((((((hk.alloc _).alloc _).alloc _).alloc _).alloc _).alloc _)))).mono ?_; rintro e w1 ⟨rfl, hn⟩; replace hk := Kept.trans (by first | exact hk | exact (hk.alloc _) | exact ((hk.alloc _).alloc _) | exact (((hk.alloc _).alloc _).alloc _) | exact ((((hk.alloc _).alloc _).alloc _).alloc _) | exact (((((hk.alloc _).alloc _).alloc _).alloc _).alloc _) | exact ((((((hk.alloc _).alloc _).alloc _).alloc _).alloc _).alloc _)) hn; replace hb := Boxed.kept (by first | exact hb | exact (hb.alloc _) | exact ((hb.alloc _).alloc _) | exact (((hb.alloc _).alloc _).alloc _) | exact ((((hb.alloc _).alloc _).alloc _).alloc _) | exact (((((hb.alloc _).alloc _).alloc _).alloc _).alloc _) | exact ((((((hb.alloc _).alloc _).alloc _).alloc _).alloc _).alloc _)) hn; have hb_l := hb.lt; have hb_0 := hb.cell 0 _ rfl; have hb_1 := hb.cell 1 _ rfl)
      | (go_at_call 11; refine (modeSide_any _ _ _ _ (ht.kept (by first | exact hk | exact (hk.alloc _) | exact ((hk.alloc _).alloc _) | exact (((hk.alloc _).alloc _).alloc _) | exact ((((hk.alloc _).alloc _).alloc _).alloc _) | exact (((((hk.alloc _).alloc _).alloc _).alloc _).alloc _) | exact ((((((hk.alloc _).alloc _).alloc _).alloc _).alloc _).alloc _)))).mono ?_; rintro e w1 ⟨rfl, hn⟩; replace hk := Kept.trans (by first | exact hk | exact (hk.alloc _) | exact ((hk.alloc _).alloc _) | exact (((hk.alloc _).alloc _).alloc _) | exact ((((hk.alloc _).alloc _).alloc _).alloc _) | exact (((((hk.alloc _).alloc _).alloc _).alloc _).alloc _) | exact ((((((hk.alloc _).alloc _).alloc _).alloc _).alloc _).alloc _)) hn; replace hb := Boxed.kept (by first | exact hb | exact (hb.alloc _) | exact ((hb.alloc _).alloc _) | exact (((hb.alloc _).alloc _).alloc _) | exact ((((hb.alloc _).alloc _).alloc _).alloc _) | exact (((((hb.alloc _).alloc _).alloc _).alloc _).alloc _) | exact ((((((hb.alloc _).alloc _).alloc _).alloc _).alloc _).alloc _)) hn; have hb_l := hb.lt; have hb_0 := hb.cell 0 _ rfl; have hb_1 := hb.cell 1 _ rfl)
      | (go_at_call 15; refine (modeMay_any _ _ _).mono ?_; rintro e w1 ⟨rfl, hn⟩; replace hk := Kept.trans (by first | exact hk | exact (hk.alloc _) | exact ((hk.alloc _).alloc _) | exact (((hk.alloc _).alloc _).alloc _) | exact ((((hk.alloc _).alloc _).alloc _).alloc _) | exact (((((hk.alloc _).alloc _).alloc _).alloc _).alloc _) | exact ((((((hk.alloc _).alloc _).alloc _).alloc _).alloc _).alloc _)) hn; replace hb := Boxed.kept (by first | exact hb | exact (hb.alloc _) | exact ((hb.alloc _).alloc _) | exact (((hb.alloc _).alloc _).alloc _) | exact ((((hb.alloc _).alloc _).alloc _).alloc _) | exact (((((hb.alloc _).alloc _).alloc _).alloc _).alloc _) | exact ((((((hb.alloc _).alloc _).alloc _).alloc _).alloc _).alloc _)) hn; have hb_l := hb.lt; have hb_0 := hb.cell 0 _ rfl; have hb_1 := hb.cell 1 _ rfl)
      | (go_at_call 17; refine (modeVertical_any _ _ _).mono ?_; rintro e w1 ⟨rfl, hn⟩; replace hk := Kept.trans (by first | exact hk | exact (hk.alloc _) | exact ((hk.alloc _).alloc _) | exact (((hk.alloc _).alloc _).alloc _) | exact ((((hk.alloc _).alloc _).alloc _).alloc _) | exact (((((hk.alloc _).alloc _).alloc _).alloc _).alloc _) | exact ((((((hk.alloc _).alloc _).alloc _).alloc _).alloc _).alloc _)) hn; replace hb := Boxed.kept (by first | exact hb | exact (hb.alloc _) | exact ((hb.alloc _).alloc _) | exact (((hb.alloc _).alloc _).alloc _) | exact ((((hb.alloc _).alloc _).alloc _).alloc _) | exact (((((hb.alloc _).alloc _).alloc _).alloc _).alloc _) | exact ((((((hb.alloc _).alloc _).alloc _).alloc _).alloc _).alloc _)) hn; have hb_l := hb.lt; have hb_0 := hb.cell 0 _ rfl; have hb_1 := hb.cell 1 _ rfl)
      | (go_at_call 14; refine (num_any _ _).mono ?_; rintro e w1 ⟨rfl, rfl⟩)
      | fail)
    go_ret
    exact ⟨rfl, (by first | exact hk | exact (hk.alloc _) | exact ((hk.alloc _).alloc _) | exact (((hk.alloc _).alloc _).alloc _) | exact ((((hk.alloc _).alloc _).alloc _).alloc _) | exact (((((hk.alloc _).alloc _).alloc _).alloc _).alloc _) | exact ((((((hk.alloc _).alloc _).alloc _).alloc _).alloc _).alloc _))⟩
  · have g1 : modeMayB (2 + (1 + x)) 0 = false := modeMayB_no (by omega)
    have g2 := vertB_no g1
    have g3 := edgeS_no (side := 0) (.inl g1)
    have g4 := sideS_no (edge := 0) (.inl g1)
    have hk : Kept w w := Kept.refl w
    go_enter Tryd.func5, Tryd.ntmps5
    go_wp2_with (first
      | (go_at_call 22; refine (awake2_any _ (ht.kept (by first | exact hk | exact (hk.alloc _) | exact ((hk.alloc _).alloc _) | exact (((hk.alloc _).alloc _).alloc _) | exact ((((hk.alloc _).alloc _).alloc _).alloc _) | exact (((((hk.alloc _).alloc _).alloc _).alloc _).alloc _) | exact ((((((hk.alloc _).alloc _).alloc _).alloc _).alloc _).alloc _)))).mono ?_; rintro e w1 ⟨rfl, hn⟩; replace hk := Kept.trans (by first | exact hk | exact (hk.alloc _) | exact ((hk.alloc _).alloc _) | exact (((hk.alloc _).alloc _).alloc _) | exact ((((hk.alloc _).alloc _).alloc _).alloc _) | exact (((((hk.alloc _).alloc _).alloc _).alloc _).alloc _) | exact ((((((hk.alloc _).alloc _).alloc _).alloc _).alloc _).alloc _)) hn)
      | fail)
    refine with_box ?_
    intro hb
    simp only [World.size_alloc] at hb
    go_wp2_with (first
      | (go_at_call 9; refine (modeEdge_any _ _ _ _ (ht.kept (by first | exact hk | exact (hk.alloc _) | exact ((hk.alloc _).alloc _) | exact (((hk.alloc _).alloc _).alloc _) | exact ((((hk.alloc _).alloc _).alloc _).alloc _) | exact (((((hk.alloc _).alloc _).alloc _).alloc _).alloc _) | exact ((((((hk.alloc _).alloc _).alloc _).alloc _).alloc _).alloc _)))).mono ?_; rintro e w1 ⟨rfl, hn⟩; replace hk := Kept.trans (by first | exact hk | exact (hk.alloc _) | exact ((hk.alloc _).alloc _) | exact (((hk.alloc _).alloc _).alloc _) | exact ((((hk.alloc _).alloc _).alloc _).alloc _) | exact (((((hk.alloc _).alloc _).alloc _).alloc _).alloc _) | exact ((((((hk.alloc _).alloc _).alloc _).alloc _).alloc _).alloc _)) hn; replace hb := Boxed.kept (by first | exact hb | exact (hb.alloc _) | exact ((hb.alloc _).alloc _) | exact (((hb.alloc _).alloc _).alloc _) | exact ((((hb.alloc _).alloc _).alloc _).alloc _) | exact (((((hb.alloc _).alloc _).alloc _).alloc _).alloc _) | exact ((((((hb.alloc _).alloc _).alloc _).alloc _).alloc _).alloc _)) hn; have hb_l := hb.lt; have hb_0 := hb.cell 0 _ rfl; have hb_1 := hb.cell 1 _ rfl)
      | (go_at_call 11; refine (modeSide_any _ _ _ _ (ht.kept (by first | exact hk | exact (hk.alloc _) | exact ((hk.alloc _).alloc _) | exact (((hk.alloc _).alloc _).alloc _) | exact ((((hk.alloc _).alloc _).alloc _).alloc _) | exact (((((hk.alloc _).alloc _).alloc _).alloc _).alloc _) | exact ((((((hk.alloc _).alloc _).alloc _).alloc _).alloc _).alloc _)))).mono ?_; rintro e w1 ⟨rfl, hn⟩; replace hk := Kept.trans (by first | exact hk | exact (hk.alloc _) | exact ((hk.alloc _).alloc _) | exact (((hk.alloc _).alloc _).alloc _) | exact ((((hk.alloc _).alloc _).alloc _).alloc _) | exact (((((hk.alloc _).alloc _).alloc _).alloc _).alloc _) | exact ((((((hk.alloc _).alloc _).alloc _).alloc _).alloc _).alloc _)) hn; replace hb := Boxed.kept (by first | exact hb | exact (hb.alloc _) | exact ((hb.alloc _).alloc _) | exact (((hb.alloc _).alloc _).alloc _) | exact ((((hb.alloc _).alloc _).alloc _).alloc _) | exact (((((hb.alloc _).alloc _).alloc _).alloc _).alloc _) | exact ((((((hb.alloc _).alloc _).alloc _).alloc _).alloc _).alloc _)) hn; have hb_l := hb.lt; have hb_0 := hb.cell 0 _ rfl; have hb_1 := hb.cell 1 _ rfl)
      | (go_at_call 15; refine (modeMay_any _ _ _).mono ?_; rintro e w1 ⟨rfl, hn⟩; replace hk := Kept.trans (by first | exact hk | exact (hk.alloc _) | exact ((hk.alloc _).alloc _) | exact (((hk.alloc _).alloc _).alloc _) | exact ((((hk.alloc _).alloc _).alloc _).alloc _) | exact (((((hk.alloc _).alloc _).alloc _).alloc _).alloc _) | exact ((((((hk.alloc _).alloc _).alloc _).alloc _).alloc _).alloc _)) hn; replace hb := Boxed.kept (by first | exact hb | exact (hb.alloc _) | exact ((hb.alloc _).alloc _) | exact (((hb.alloc _).alloc _).alloc _) | exact ((((hb.alloc _).alloc _).alloc _).alloc _) | exact (((((hb.alloc _).alloc _).alloc _).alloc _).alloc _) | exact ((((((hb.alloc _).alloc _).alloc _).alloc _).alloc _).alloc _)) hn; have hb_l := hb.lt; have hb_0 := hb.cell 0 _ rfl; have hb_1 := hb.cell 1 _ rfl)
      | (go_at_call 17; refine (modeVertical_any _ _ _).mono ?_; rintro e w1 ⟨rfl, hn⟩; replace hk := Kept.trans (by first | exact hk | exact (hk.alloc _) | exact ((hk.alloc _).alloc _) | exact (((hk.alloc _).alloc _).alloc _) | exact ((((hk.alloc _).alloc _).alloc _).alloc _) | exact (((((hk.alloc _).alloc _).alloc _).alloc _).alloc _) | exact ((((((hk.alloc _).alloc _).alloc _).alloc _).alloc _).alloc _)) hn; replace hb := Boxed.kept (by first | exact hb | exact (hb.alloc _) | exact ((hb.alloc _).alloc _) | exact (((hb.alloc _).alloc _).alloc _) | exact ((((hb.alloc _).alloc _).alloc _).alloc _) | exact (((((hb.alloc _).alloc _).alloc _).alloc _).alloc _) | exact ((((((hb.alloc _).alloc _).alloc _).alloc _).alloc _).alloc _)) hn; have hb_l := hb.lt; have hb_0 := hb.cell 0 _ rfl; have hb_1 := hb.cell 1 _ rfl)
      | (go_at_call 14; refine (num_any _ _).mono ?_; rintro e w1 ⟨rfl, rfl⟩)
      | fail)
    go_ret
    exact ⟨rfl, (by first | exact hk | exact (hk.alloc _) | exact ((hk.alloc _).alloc _) | exact (((hk.alloc _).alloc _).alloc _) | exact ((((hk.alloc _).alloc _).alloc _).alloc _) | exact (((((hk.alloc _).alloc _).alloc _).alloc _).alloc _) | exact ((((((hk.alloc _).alloc _).alloc _).alloc _).alloc _).alloc _))⟩
  · have g1 : modeMayB 0 (-(1 + x)) = false := modeMayB_no (by omega)
    have g2 := vertB_no g1
    have g3 := edgeS_no (side := 0) (.inl g1)
    have g4 := sideS_no (edge := 0) (.inl g1)
    have hk : Kept w w := Kept.refl w
    go_enter Tryd.func5, Tryd.ntmps5
    go_wp2_with (first
      | (go_at_call 22; refine (awake2_any _ (ht.kept (by first | exact hk | exact (hk.alloc _) | exact ((hk.alloc _).alloc _) | exact (((hk.alloc _).alloc _).alloc _) | exact ((((hk.alloc _).alloc _).alloc _).alloc _) | exact (((((hk.alloc _).alloc _).alloc _).alloc _).alloc _) | exact ((((((hk.alloc _).alloc _).alloc _).alloc _).alloc _).alloc _)))).mono ?_; rintro e w1 ⟨rfl, hn⟩; replace hk := Kept.trans (by first | exact hk | exact (hk.alloc _) | exact ((hk.alloc _).alloc _) | exact (((hk.alloc _).alloc _).alloc _) | exact ((((hk.alloc _).alloc _).alloc _).alloc _) | exact (((((hk.alloc _).alloc _).alloc _).alloc _).alloc _) | exact ((((((hk.alloc _).alloc _).alloc _).alloc _).alloc _).alloc _)) hn)
      | fail)
    refine with_box ?_
    intro hb
    simp only [World.size_alloc] at hb
    go_wp2_with (first
      | (go_at_call 9; refine (modeEdge_any _ _ _ _ (ht.kept (by first | exact hk | exact (hk.alloc _) | exact ((hk.alloc _).alloc _) | exact (((hk.alloc _).alloc _).alloc _) | exact ((((hk.alloc _).alloc _).alloc _).alloc _) | exact (((((hk.alloc _).alloc _).alloc _).alloc _).alloc _) | exact ((((((hk.alloc _).alloc _).alloc _).alloc _).alloc _).alloc _)))).mono ?_; rintro e w1 ⟨rfl, hn⟩; replace hk := Kept.trans (by first | exact hk | exact (hk.alloc _) | exact ((hk.alloc _).alloc _) | exact (((hk.alloc _).alloc _).alloc _) | exact ((((hk.alloc _).alloc _).alloc _).alloc _) | exact (((((hk.alloc _).alloc _).alloc _).alloc _).alloc _) | exact ((((((hk.alloc _).alloc _).alloc _).alloc _).alloc _).alloc _)) hn; replace hb := Boxed.kept (by first | exact hb | exact (hb.alloc _) | exact ((hb.alloc _).alloc _) | exact (((hb.alloc _).alloc _).alloc _) | exact ((((hb.alloc _).alloc _).alloc _).alloc _) | exact (((((hb.alloc _).alloc _).alloc _).alloc _).alloc _) | exact ((((((hb.alloc _).alloc _).alloc _).alloc _).alloc _).alloc _)) hn; have hb_l := hb.lt; have hb_0 := hb.cell 0 _ rfl; have hb_1 := hb.cell 1 _ rfl)
      | (go_at_call 11; refine (modeSide_any _ _ _ _ (ht.kept (by first | exact hk | exact (hk.alloc _) | exact ((hk.alloc _).alloc _) | exact (((hk.alloc _).alloc _).alloc _) | exact ((((hk.alloc _).alloc _).alloc _).alloc _) | exact (((((hk.alloc _).alloc _).alloc _).alloc _).alloc _) | exact ((((((hk.alloc _).alloc _).alloc _).alloc _).alloc _).alloc _)))).mono ?_; rintro e w1 ⟨rfl, hn⟩; replace hk := Kept.trans (by first | exact hk | exact (hk.alloc _) | exact ((hk.alloc _).alloc _) | exact (((hk.alloc _).alloc _).alloc _) | exact ((((hk.alloc _).alloc _).alloc _).alloc _) | exact (((((hk.alloc _).alloc _).alloc _).alloc _).alloc _) | exact ((((((hk.alloc _).alloc _).alloc _).alloc _).alloc _).alloc _)) hn; replace hb := Boxed.kept (by first | exact hb | exact (hb.alloc _) | exact ((hb.alloc _).alloc _) | exact (((hb.alloc _).alloc _).alloc _) | exact ((((hb.alloc _).alloc _).alloc _).alloc _) | exact (((((hb.alloc _).alloc _).alloc _).alloc _).alloc _) | exact ((((((hb.alloc _).alloc _).alloc _).alloc _).alloc _).alloc _)) hn; have hb_l := hb.lt; have hb_0 := hb.cell 0 _ rfl; have hb_1 := hb.cell 1 _ rfl)
      | (go_at_call 15; refine (modeMay_any _ _ _).mono ?_; rintro e w1 ⟨rfl, hn⟩; replace hk := Kept.trans (by first | exact hk | exact (hk.alloc _) | exact ((hk.alloc _).alloc _) | exact (((hk.alloc _).alloc _).alloc _) | exact ((((hk.alloc _).alloc _).alloc _).alloc _) | exact (((((hk.alloc _).alloc _).alloc _).alloc _).alloc _) | exact ((((((hk.alloc _).alloc _).alloc _).alloc _).alloc _).alloc _)) hn; replace hb := Boxed.kept (by first | exact hb | exact (hb.alloc _) | exact ((hb.alloc _).alloc _) | exact (((hb.alloc _).alloc _).alloc _) | exact ((((hb.alloc _).alloc _).alloc _).alloc _) | exact (((((hb.alloc _).alloc _).alloc _).alloc _).alloc _) | exact ((((((hb.alloc _).alloc _).alloc _).alloc _).alloc _).alloc _)) hn; have hb_l := hb.lt; have hb_0 := hb.cell 0 _ rfl; have hb_1 := hb.cell 1 _ rfl)
      | (go_at_call 17; refine (modeVertical_any _ _ _).mono ?_; rintro e w1 ⟨rfl, hn⟩; replace hk := Kept.trans (by first | exact hk | exact (hk.alloc _) | exact ((hk.alloc _).alloc _) | exact (((hk.alloc _).alloc _).alloc _) | exact ((((hk.alloc _).alloc _).alloc _).alloc _) | exact (((((hk.alloc _).alloc _).alloc _).alloc _).alloc _) | exact ((((((hk.alloc _).alloc _).alloc _).alloc _).alloc _).alloc _)) hn; replace hb := Boxed.kept (by first | exact hb | exact (hb.alloc _) | exact ((hb.alloc _).alloc _) | exact (((hb.alloc _).alloc _).alloc _) | exact ((((hb.alloc _).alloc _).alloc _).alloc _) | exact (((((hb.alloc _).alloc _).alloc _).alloc _).alloc _) | exact ((((((hb.alloc _).alloc _).alloc _).alloc _).alloc _).alloc _)) hn; have hb_l := hb.lt; have hb_0 := hb.cell 0 _ rfl; have hb_1 := hb.cell 1 _ rfl)
      | (go_at_call 14; refine (num_any _ _).mono ?_; rintro e w1 ⟨rfl, rfl⟩)
      | fail)
    go_ret
    exact ⟨rfl, (by first | exact hk | exact (hk.alloc _) | exact ((hk.alloc _).alloc _) | exact (((hk.alloc _).alloc _).alloc _) | exact ((((hk.alloc _).alloc _).alloc _).alloc _) | exact (((((hk.alloc _).alloc _).alloc _).alloc _).alloc _) | exact ((((((hk.alloc _).alloc _).alloc _).alloc _).alloc _).alloc _))⟩
  · have g1 : modeMayB 0 (1 + (1 + x)) = false := modeMayB_no (by omega)
    have g2 := vertB_no g1
    have g3 := edgeS_no (side := 0) (.inl g1)
    have g4 := sideS_no (edge := 0) (.inl g1)
    have hk : Kept w w := Kept.refl w
    go_enter Tryd.func5, Tryd.ntmps5
    go_wp2_with (first
      | (go_at_call 22; refine (awake2_any _ (ht.kept (by first | exact hk | exact (hk.alloc _) | exact ((hk.alloc _).alloc _) | exact (((hk.alloc _).alloc _).alloc _) | exact ((((hk.alloc _).alloc _).alloc _).alloc _) | exact (((((hk.alloc _).alloc _).alloc _).alloc _).alloc _) | exact ((((((hk.alloc _).alloc _).alloc _).alloc _).alloc _).alloc _)))).mono ?_; rintro e w1 ⟨rfl, hn⟩; replace hk := Kept.trans (by first | exact hk | exact (hk.alloc _) | exact ((hk.alloc _).alloc _) | exact (((hk.alloc _).alloc _).alloc _) | exact ((((hk.alloc _).alloc _).alloc _).alloc _) | exact (((((hk.alloc _).alloc _).alloc _).alloc _).alloc _) | exact ((((((hk.alloc _).alloc _).alloc _).alloc _).alloc _).alloc _)) hn)
      | fail)
    refine with_box ?_
    intro hb
    simp only [World.size_alloc] at hb
    go_wp2_with (first
      | (go_at_call 9; refine (modeEdge_any _ _ _ _ (ht.kept (by first | exact hk | exact (hk.alloc _) | exact ((hk.alloc _).alloc _) | exact (((hk.alloc _).alloc _).alloc _) | exact ((((hk.alloc _).alloc _).alloc _).alloc _) | exact (((((hk.alloc _).alloc _).alloc _).alloc _).alloc _) | exact ((((((hk.alloc _).alloc _).alloc _).alloc _).alloc _).alloc _)))).mono ?_; rintro e w1 ⟨rfl, hn⟩; replace hk := Kept.trans (by first | exact hk | exact (hk.alloc _) | exact ((hk.alloc _).alloc _) | exact (((hk.alloc _).alloc _).alloc _) | exact ((((hk.alloc _).alloc _).alloc _).alloc _) | exact (((((hk.alloc _).alloc _).alloc _).alloc _).alloc _) | exact ((((((hk.alloc _).alloc _).alloc _).alloc _).alloc _).alloc _)) hn; replace hb := Boxed.kept (by first | exact hb | exact (hb.alloc _) | exact ((hb.alloc _).alloc _) | exact (((hb.alloc _).alloc _).alloc _) | exact ((((hb.alloc _).alloc _).alloc _).alloc _) | exact (((((hb.alloc _).alloc _).alloc _).alloc _).alloc _) | exact ((((((hb.alloc _).alloc _).alloc _).alloc _).alloc _).alloc _)) hn; have hb_l := hb.lt; have hb_0 := hb.cell 0 _ rfl; have hb_1 := hb.cell 1 _ rfl)
      | (go_at_call 11; refine (modeSide_any _ _ _ _ (ht.kept (by first | exact hk | exact (hk.alloc _) | exact ((hk.alloc _).alloc _) | exact (((hk.alloc _).alloc _).alloc _) | exact ((((hk.alloc _).alloc _).alloc _).alloc _) | exact (((((hk.alloc _).alloc _).alloc _).alloc _).alloc _) | exact ((((((hk.alloc _).alloc _).alloc _).alloc _).alloc _).alloc _)))).mono ?_; rintro e w1 ⟨rfl, hn⟩; replace hk := Kept.trans (by first | exact hk | exact (hk.alloc _) | exact ((hk.alloc _).alloc _) | exact (((hk.alloc _).alloc _).alloc _) | exact ((((hk.alloc _).alloc _).alloc _).alloc _) | exact (((((hk.alloc _).alloc _).alloc _).alloc _).alloc _) | exact ((((((hk.alloc _).alloc _).alloc _).alloc _).alloc _).alloc _)) hn; replace hb := Boxed.kept (by first | exact hb | exact (hb.alloc _) | exact ((hb.alloc _).alloc _) | exact (((hb.alloc _).alloc _).alloc _) | exact ((((hb.alloc _).alloc _).alloc _).alloc _) | exact (((((hb.alloc _).alloc _).alloc _).alloc _).alloc _) | exact ((((((hb.alloc _).alloc _).alloc _).alloc _).alloc _).alloc _)) hn; have hb_l := hb.lt; have hb_0 := hb.cell 0 _ rfl; have hb_1 := hb.cell 1 _ rfl)
      | (go_at_call 15; refine (modeMay_any _ _ _).mono ?_; rintro e w1 ⟨rfl, hn⟩; replace hk := Kept.trans (by first | exact hk | exact (hk.alloc _) | exact ((hk.alloc _).alloc _) | exact (((hk.alloc _).alloc _).alloc _) | exact ((((hk.alloc _).alloc _).alloc _).alloc _) | exact (((((hk.alloc _).alloc _).alloc _).alloc _).alloc _) | exact ((((((hk.alloc _).alloc _).alloc _).alloc _).alloc _).alloc _)) hn; replace hb := Boxed.kept (by first | exact hb | exact (hb.alloc _) | exact ((hb.alloc _).alloc _) | exact (((hb.alloc _).alloc _).alloc _) | exact ((((hb.alloc _).alloc _).alloc _).alloc _) | exact (((((hb.alloc _).alloc _).alloc _).alloc _).alloc _) | exact ((((((hb.alloc _).alloc _).alloc _).alloc _).alloc _).alloc _)) hn; have hb_l := hb.lt; have hb_0 := hb.cell 0 _ rfl; have hb_1 := hb.cell 1 _ rfl)
      | (go_at_call 17; refine (modeVertical_any _ _ _).mono ?_; rintro e w1 ⟨rfl, hn⟩; replace hk := Kept.trans (by first | exact hk | exact (hk.alloc _) | exact ((hk.alloc _).alloc _) | exact (((hk.alloc _).alloc _).alloc _) | exact ((((hk.alloc _).alloc _).alloc _).alloc _) | exact (((((hk.alloc _).alloc _).alloc _).alloc _).alloc _) | exact ((((((hk.alloc _).alloc _).alloc _).alloc _).alloc _).alloc _)) hn; replace hb := Boxed.kept (by first | exact hb | exact (hb.alloc _) | exact ((hb.alloc _).alloc _) | exact (((hb.alloc _).alloc _).alloc _) | exact ((((hb.alloc _).alloc _).alloc _).alloc _) | exact (((((hb.alloc _).alloc _).alloc _).alloc _).alloc _) | exact ((((((hb.alloc _).alloc _).alloc _).alloc _).alloc _).alloc _)) hn; have hb_l := hb.lt; have hb_0 := hb.cell 0 _ rfl; have hb_1 := hb.cell 1 _ rfl)
      | (go_at_call 14; refine (num_any _ _).mono ?_; rintro e w1 ⟨rfl, rfl⟩)
      | fail)
    go_ret
    exact ⟨rfl, (by first | exact hk | exact (hk.alloc _) | exact ((hk.alloc _).alloc _) | exact (((hk.alloc _).alloc _).alloc _) | exact ((((hk.alloc _).alloc _).alloc _).alloc _) | exact (((((hk.alloc _).alloc _).alloc _).alloc _).alloc _) | exact ((((((hk.alloc _).alloc _).alloc _).alloc _).alloc _).alloc _))⟩
end Go.Proofs.YtkapmnbkmljpkaaDoor
