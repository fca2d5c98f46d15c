/- The document's answers of layer 2. -/
import Derived.Test.YtnbagilcbngdcaaDoorModeSide
import Derived.Test.YtnbagilcbngdcaaDoorModeAll
namespace Go.Proofs.YtnbagilcbngdcaaDoor
open Go.RowKit
theorem modeMayB_no' {wr di : Int} (h : modeMayB wr di = false) : wr < 0 ∨ 2 < wr ∨ di < 0 ∨ 1 < di := by
  rw [Bool.eq_false_iff, ne_eq, modeMayB_true] at h; omega
set_option maxHeartbeats 1000000 in
theorem refModeMay_any (wr di : Int) (w : World) :
    Calls Tryd.prog 39 #[modeV wr di] w fun e w' => e = .returned (.bool (modeMayB wr di)) ∧ Kept w w' := by
  cases h : modeMayB wr di
  · rcases modeMayB_no' h with h1 | h1
    · clear h
      have hk : Kept w w := Kept.refl w
      go_enter Tryd.func39, Tryd.ntmps39
      go_wp2
      go_ret
      exact ⟨rfl, (by first | ((repeat (first | with_reducible exact hk | with_reducible refine Kept.alloc ?_ _ | with_reducible refine Kept.drew ?_ | with_reducible refine Kept.drewN ?_ _ | with_reducible refine Kept.set ?_ (by first | (simp; done) | (simp; omega) | omega) _)); done) | exact hk | exact (hk.alloc _) | exact ((hk.alloc _).alloc _) | exact (((hk.alloc _).alloc _).alloc _) | exact ((((hk.alloc _).alloc _).alloc _).alloc _) | exact (((((hk.alloc _).alloc _).alloc _).alloc _).alloc _) | exact ((((((hk.alloc _).alloc _).alloc _).alloc _).alloc _).alloc _) | (repeat (first | exact hk | refine Kept.alloc ?_ _ | refine Kept.drew ?_ | refine Kept.drewN ?_ _ | refine Kept.set ?_ (by first | (simp; done) | (simp; omega) | omega) _)))⟩
    · by_cases h0 : 0 ≤ wr
      · rcases h1 with h1 | h1
        · clear h
          have hk : Kept w w := Kept.refl w
          go_enter Tryd.func39, Tryd.ntmps39
          go_wp2
          go_ret
          exact ⟨rfl, (by first | ((repeat (first | with_reducible exact hk | with_reducible refine Kept.alloc ?_ _ | with_reducible refine Kept.drew ?_ | with_reducible refine Kept.drewN ?_ _ | with_reducible refine Kept.set ?_ (by first | (simp; done) | (simp; omega) | omega) _)); done) | exact hk | exact (hk.alloc _) | exact ((hk.alloc _).alloc _) | exact (((hk.alloc _).alloc _).alloc _) | exact ((((hk.alloc _).alloc _).alloc _).alloc _) | exact (((((hk.alloc _).alloc _).alloc _).alloc _).alloc _) | exact ((((((hk.alloc _).alloc _).alloc _).alloc _).alloc _).alloc _) | (repeat (first | exact hk | refine Kept.alloc ?_ _ | refine Kept.drew ?_ | refine Kept.drewN ?_ _ | refine Kept.set ?_ (by first | (simp; done) | (simp; omega) | omega) _)))⟩
        · by_cases h2 : wr ≤ 2
          · rcases h1 with h1 | h1
            · clear h
              have hk : Kept w w := Kept.refl w
              go_enter Tryd.func39, Tryd.ntmps39
              go_wp2
              go_ret
              exact ⟨rfl, (by first | ((repeat (first | with_reducible exact hk | with_reducible refine Kept.alloc ?_ _ | with_reducible refine Kept.drew ?_ | with_reducible refine Kept.drewN ?_ _ | with_reducible refine Kept.set ?_ (by first | (simp; done) | (simp; omega) | omega) _)); done) | exact hk | exact (hk.alloc _) | exact ((hk.alloc _).alloc _) | exact (((hk.alloc _).alloc _).alloc _) | exact ((((hk.alloc _).alloc _).alloc _).alloc _) | exact (((((hk.alloc _).alloc _).alloc _).alloc _).alloc _) | exact ((((((hk.alloc _).alloc _).alloc _).alloc _).alloc _).alloc _) | (repeat (first | exact hk | refine Kept.alloc ?_ _ | refine Kept.drew ?_ | refine Kept.drewN ?_ _ | refine Kept.set ?_ (by first | (simp; done) | (simp; omega) | omega) _)))⟩
            · have h3 : 0 ≤ di := by omega
              have h4 : decide (di ≤ 1) = false := by simp; omega
              clear h
              have hk : Kept w w := Kept.refl w
              go_enter Tryd.func39, Tryd.ntmps39
              go_wp2
              go_ret
              exact ⟨rfl, (by first | ((repeat (first | with_reducible exact hk | with_reducible refine Kept.alloc ?_ _ | with_reducible refine Kept.drew ?_ | with_reducible refine Kept.drewN ?_ _ | with_reducible refine Kept.set ?_ (by first | (simp; done) | (simp; omega) | omega) _)); done) | exact hk | exact (hk.alloc _) | exact ((hk.alloc _).alloc _) | exact (((hk.alloc _).alloc _).alloc _) | exact ((((hk.alloc _).alloc _).alloc _).alloc _) | exact (((((hk.alloc _).alloc _).alloc _).alloc _).alloc _) | exact ((((((hk.alloc _).alloc _).alloc _).alloc _).alloc _).alloc _) | (repeat (first | exact hk | refine Kept.alloc ?_ _ | refine Kept.drew ?_ | refine Kept.drewN ?_ _ | refine Kept.set ?_ (by first | (simp; done) | (simp; omega) | omega) _)))⟩
          · have h2' : 2 < wr := by omega
            clear h h1 h2
            have hk : Kept w w := Kept.refl w
            go_enter Tryd.func39, Tryd.ntmps39
            go_wp2
            go_ret
            exact ⟨rfl, (by first | ((repeat (first | with_reducible exact hk | with_reducible refine Kept.alloc ?_ _ | with_reducible refine Kept.drew ?_ | with_reducible refine Kept.drewN ?_ _ | with_reducible refine Kept.set ?_ (by first | (simp; done) | (simp; omega) | omega) _)); done) | exact hk | exact (hk.alloc _) | exact ((hk.alloc _).alloc _) | exact (((hk.alloc _).alloc _).alloc _) | exact ((((hk.alloc _).alloc _).alloc _).alloc _) | exact (((((hk.alloc _).alloc _).alloc _).alloc _).alloc _) | exact ((((((hk.alloc _).alloc _).alloc _).alloc _).alloc _).alloc _) | (repeat (first | exact hk | refine Kept.alloc ?_ _ | refine Kept.drew ?_ | refine Kept.drewN ?_ _ | refine Kept.set ?_ (by first | (simp; done) | (simp; omega) | omega) _)))⟩
      · have h0' : wr < 0 := by omega
        clear h h1 h0
        have hk : Kept w w := Kept.refl w
        go_enter Tryd.func39, Tryd.ntmps39
        go_wp2
        go_ret
        exact ⟨rfl, (by first | ((repeat (first | with_reducible exact hk | with_reducible refine Kept.alloc ?_ _ | with_reducible refine Kept.drew ?_ | with_reducible refine Kept.drewN ?_ _ | with_reducible refine Kept.set ?_ (by first | (simp; done) | (simp; omega) | omega) _)); done) | exact hk | exact (hk.alloc _) | exact ((hk.alloc _).alloc _) | exact (((hk.alloc _).alloc _).alloc _) | exact ((((hk.alloc _).alloc _).alloc _).alloc _) | exact (((((hk.alloc _).alloc _).alloc _).alloc _).alloc _) | exact ((((((hk.alloc _).alloc _).alloc _).alloc _).alloc _).alloc _) | (repeat (first | exact hk | refine Kept.alloc ?_ _ | refine Kept.drew ?_ | refine Kept.drewN ?_ _ | refine Kept.set ?_ (by first | (simp; done) | (simp; omega) | omega) _)))⟩
  · obtain ⟨⟨h1, h2⟩, h3, h4⟩ := modeMayB_true.1 h
    clear h
    have hk : Kept w w := Kept.refl w
    go_enter Tryd.func39, Tryd.ntmps39
    go_wp2
    go_ret
    exact ⟨rfl, (by first | ((repeat (first | with_reducible exact hk | with_reducible refine Kept.alloc ?_ _ | with_reducible refine Kept.drew ?_ | with_reducible refine Kept.drewN ?_ _ | with_reducible refine Kept.set ?_ (by first | (simp; done) | (simp; omega) | omega) _)); done) | exact hk | exact (hk.alloc _) | exact ((hk.alloc _).alloc _) | exact (((hk.alloc _).alloc _).alloc _) | exact ((((hk.alloc _).alloc _).alloc _).alloc _) | exact (((((hk.alloc _).alloc _).alloc _).alloc _).alloc _) | exact ((((((hk.alloc _).alloc _).alloc _).alloc _).alloc _).alloc _) | (repeat (first | exact hk | refine Kept.alloc ?_ _ | refine Kept.drew ?_ | refine Kept.drewN ?_ _ | refine Kept.set ?_ (by first | (simp; done) | (simp; omega) | omega) _)))⟩
theorem refVertical_any (wr di : Int) (w : World) :
    Calls Tryd.prog 61 #[modeV wr di] w fun e w' => e = .returned (.bool (vertB wr di)) ∧ Kept w w' := by
  cases h : modeMayB wr di
  all_goals
    have hs : vertB wr di = (modeMayB wr di && wr != 0) := rfl
    rw [h] at hs
    have Hs := Lib.hid hs
    clear hs
    have hk : Kept w w := Kept.refl w
    go_enter Tryd.func61, Tryd.ntmps61
    go_wp2_with (go_at_call 39; refine (refModeMay_any _ _ _).mono ?_; rintro e w1 ⟨rfl, hn⟩; have hcell := hn.cell (p := ⟨w.heap.size, 0, none⟩) (by simp); replace hk := Kept.trans (by first | exact hk | exact hk.alloc _ | exact (hk.alloc _).alloc _) hn)
    go_ret
    exact ⟨ret_bool (by rw [Hs.out]; rfl), (by first | ((repeat (first | with_reducible exact hk | with_reducible refine Kept.alloc ?_ _ | with_reducible refine Kept.drew ?_ | with_reducible refine Kept.drewN ?_ _ | with_reducible refine Kept.set ?_ (by first | (simp; done) | (simp; omega) | omega) _)); done) | exact hk | exact (hk.alloc _) | exact ((hk.alloc _).alloc _) | exact (((hk.alloc _).alloc _).alloc _) | exact ((((hk.alloc _).alloc _).alloc _).alloc _) | exact (((((hk.alloc _).alloc _).alloc _).alloc _).alloc _) | exact ((((((hk.alloc _).alloc _).alloc _).alloc _).alloc _).alloc _) | (repeat (first | exact hk | refine Kept.alloc ?_ _ | refine Kept.drew ?_ | refine Kept.drewN ?_ _ | refine Kept.set ?_ (by first | (simp; done) | (simp; omega) | omega) _)))⟩
theorem edgeS_out {wr di side : Int} (h : side < 0 ∨ 3 < side) : edgeS wr di side = (0, 200) := if_neg (by
  rw [inB_true]; omega)
set_option maxHeartbeats 8000000 in
theorem refEdge_any (wr di side : Int) (w : World) :
    Calls Tryd.prog 74 #[modeV wr di, .int .i64 side] w fun e w' => e = .returned (.tuple #[.int .i64 (edgeS wr di side).1, .int .i64 (edgeS wr di side).2]) ∧ Kept w w' := by
  cases h1 : modeMayB wr di
  case false =>
    have hs : edgeS wr di side = (0, 200) := if_neg (by simp [h1])
    have Hs := Lib.hid hs
    clear hs
    have hk : Kept w w := Kept.refl w
    go_enter Tryd.func74, Tryd.ntmps74
    go_wp2_with (first
      | (go_at_call 39; refine (refModeMay_any _ _ _).mono ?_; rintro e w1 ⟨rfl, hn⟩; replace hk := Kept.trans (by first | ((repeat (first | with_reducible exact hk | with_reducible refine Kept.alloc ?_ _ | with_reducible refine Kept.drew ?_ | with_reducible refine Kept.drewN ?_ _ | with_reducible refine Kept.set ?_ (by first | (simp; done) | (simp; omega) | omega) _)); done) | exact hk | exact (hk.alloc _) | exact ((hk.alloc _).alloc _) | exact (((hk.alloc _).alloc _).alloc _) | exact ((((hk.alloc _).alloc _).alloc _).alloc _) | exact (((((hk.alloc _).alloc _).alloc _).alloc _).alloc _) | exact ((((((hk.alloc _).alloc _).alloc _).alloc _).alloc _).alloc _)) hn)
      | fail)
    go_ret2
    exact ⟨by rw [Hs.out]; rfl, (by first | ((repeat (first | with_reducible exact hk | with_reducible refine Kept.alloc ?_ _ | with_reducible refine Kept.drew ?_ | with_reducible refine Kept.drewN ?_ _ | with_reducible refine Kept.set ?_ (by first | (simp; done) | (simp; omega) | omega) _)); done) | exact hk | exact (hk.alloc _) | exact ((hk.alloc _).alloc _) | exact (((hk.alloc _).alloc _).alloc _) | exact ((((hk.alloc _).alloc _).alloc _).alloc _) | exact (((((hk.alloc _).alloc _).alloc _).alloc _).alloc _) | exact ((((((hk.alloc _).alloc _).alloc _).alloc _).alloc _).alloc _) | (repeat (first | exact hk | refine Kept.alloc ?_ _ | refine Kept.drew ?_ | refine Kept.drewN ?_ _ | refine Kept.set ?_ (by first | (simp; done) | (simp; omega) | omega) _)))⟩
  case true =>
    by_cases h2 : side < 0
    · have hs : edgeS wr di side = (0, 200) := edgeS_out (.inl h2)
      have Hs := Lib.hid hs
      clear hs
      have hk : Kept w w := Kept.refl w
      go_enter Tryd.func74, Tryd.ntmps74
      go_wp2_with (first
        | (go_at_call 39; refine (refModeMay_any _ _ _).mono ?_; rintro e w1 ⟨rfl, hn⟩; replace hk := Kept.trans (by first | ((repeat (first | with_reducible exact hk | with_reducible refine Kept.alloc ?_ _ | with_reducible refine Kept.drew ?_ | with_reducible refine Kept.drewN ?_ _ | with_reducible refine Kept.set ?_ (by first | (simp; done) | (simp; omega) | omega) _)); done) | exact hk | exact (hk.alloc _) | exact ((hk.alloc _).alloc _) | exact (((hk.alloc _).alloc _).alloc _) | exact ((((hk.alloc _).alloc _).alloc _).alloc _) | exact (((((hk.alloc _).alloc _).alloc _).alloc _).alloc _) | exact ((((((hk.alloc _).alloc _).alloc _).alloc _).alloc _).alloc _)) hn)
        | fail)
      go_ret2
      exact ⟨by rw [Hs.out]; rfl, (by first | ((repeat (first | with_reducible exact hk | with_reducible refine Kept.alloc ?_ _ | with_reducible refine Kept.drew ?_ | with_reducible refine Kept.drewN ?_ _ | with_reducible refine Kept.set ?_ (by first | (simp; done) | (simp; omega) | omega) _)); done) | exact hk | exact (hk.alloc _) | exact ((hk.alloc _).alloc _) | exact (((hk.alloc _).alloc _).alloc _) | exact ((((hk.alloc _).alloc _).alloc _).alloc _) | exact (((((hk.alloc _).alloc _).alloc _).alloc _).alloc _) | exact ((((((hk.alloc _).alloc _).alloc _).alloc _).alloc _).alloc _) | (repeat (first | exact hk | refine Kept.alloc ?_ _ | refine Kept.drew ?_ | refine Kept.drewN ?_ _ | refine Kept.set ?_ (by first | (simp; done) | (simp; omega) | omega) _)))⟩
    by_cases h3 : 3 < side
    · have hs : edgeS wr di side = (0, 200) := edgeS_out (.inr h3)
      have Hs := Lib.hid hs
      clear hs
      have hk : Kept w w := Kept.refl w
      go_enter Tryd.func74, Tryd.ntmps74
      go_wp2_with (first
        | (go_at_call 39; refine (refModeMay_any _ _ _).mono ?_; rintro e w1 ⟨rfl, hn⟩; replace hk := Kept.trans (by first | ((repeat (first | with_reducible exact hk | with_reducible refine Kept.alloc ?_ _ | with_reducible refine Kept.drew ?_ | with_reducible refine Kept.drewN ?_ _ | with_reducible refine Kept.set ?_ (by first | (simp; done) | (simp; omega) | omega) _)); done) | exact hk | exact (hk.alloc _) | exact ((hk.alloc _).alloc _) | exact (((hk.alloc _).alloc _).alloc _) | exact ((((hk.alloc _).alloc _).alloc _).alloc _) | exact (((((hk.alloc _).alloc _).alloc _).alloc _).alloc _) | exact ((((((hk.alloc _).alloc _).alloc _).alloc _).alloc _).alloc _)) hn)
        | fail)
      go_ret2
      exact ⟨by rw [Hs.out]; rfl, (by first | ((repeat (first | with_reducible exact hk | with_reducible refine Kept.alloc ?_ _ | with_reducible refine Kept.drew ?_ | with_reducible refine Kept.drewN ?_ _ | with_reducible refine Kept.set ?_ (by first | (simp; done) | (simp; omega) | omega) _)); done) | exact hk | exact (hk.alloc _) | exact ((hk.alloc _).alloc _) | exact (((hk.alloc _).alloc _).alloc _) | exact ((((hk.alloc _).alloc _).alloc _).alloc _) | exact (((((hk.alloc _).alloc _).alloc _).alloc _).alloc _) | exact ((((((hk.alloc _).alloc _).alloc _).alloc _).alloc _).alloc _) | (repeat (first | exact hk | refine Kept.alloc ?_ _ | refine Kept.drew ?_ | refine Kept.drewN ?_ _ | refine Kept.set ?_ (by first | (simp; done) | (simp; omega) | omega) _)))⟩
    obtain ⟨⟨a1, a2⟩, b1, b2⟩ := modeMayB_true.1 h1
    rcases (by omega : wr = 0 ∨ wr = 1 ∨ wr = 2) with rfl | rfl | rfl <;> rcases (by omega : di = 0 ∨ di = 1) with rfl | rfl <;> rcases (by omega : side = 0 ∨ side = 1 ∨ side = 2 ∨ side = 3) with rfl | rfl | rfl | rfl
    all_goals
      clear a1 a2 b1 b2 h2 h3
      have hk : Kept w w := Kept.refl w
      go_enter Tryd.func74, Tryd.ntmps74
      go_wp2_with fail
      refine with_box ?_
      intro hb
      go_wp2_with (first
        | (go_at_call 39; refine (refModeMay_any _ _ _).mono ?_; rintro e w1 ⟨rfl, hn⟩; replace hk := Kept.trans (by first | ((repeat (first | with_reducible exact hk | with_reducible refine Kept.alloc ?_ _ | with_reducible refine Kept.drew ?_ | with_reducible refine Kept.drewN ?_ _ | with_reducible refine Kept.set ?_ (by first | (simp; done) | (simp; omega) | omega) _)); done) | exact hk | exact (hk.alloc _) | exact ((hk.alloc _).alloc _) | exact (((hk.alloc _).alloc _).alloc _) | exact ((((hk.alloc _).alloc _).alloc _).alloc _) | exact (((((hk.alloc _).alloc _).alloc _).alloc _).alloc _) | exact ((((((hk.alloc _).alloc _).alloc _).alloc _).alloc _).alloc _)) hn; replace hb := Boxed.kept (by first | ((repeat (first | with_reducible exact hb | with_reducible refine Boxed.alloc ?_ _)); done) | exact hb | exact (hb.alloc _) | exact ((hb.alloc _).alloc _) | exact (((hb.alloc _).alloc _).alloc _) | exact ((((hb.alloc _).alloc _).alloc _).alloc _) | exact (((((hb.alloc _).alloc _).alloc _).alloc _).alloc _) | exact ((((((hb.alloc _).alloc _).alloc _).alloc _).alloc _).alloc _)) hn; have hb_l := hb.lt; have hb_0 := hb.cell 0 _ rfl; have hb_1 := hb.cell 1 _ rfl)
        | fail)
      go_ret2
      exact ⟨rfl, (by first | ((repeat (first | with_reducible exact hk | with_reducible refine Kept.alloc ?_ _ | with_reducible refine Kept.drew ?_ | with_reducible refine Kept.drewN ?_ _ | with_reducible refine Kept.set ?_ (by first | (simp; done) | (simp; omega) | omega) _)); done) | exact hk | exact (hk.alloc _) | exact ((hk.alloc _).alloc _) | exact (((hk.alloc _).alloc _).alloc _) | exact ((((hk.alloc _).alloc _).alloc _).alloc _) | exact (((((hk.alloc _).alloc _).alloc _).alloc _).alloc _) | exact ((((((hk.alloc _).alloc _).alloc _).alloc _).alloc _).alloc _) | (repeat (first | exact hk | refine Kept.alloc ?_ _ | refine Kept.drew ?_ | refine Kept.drewN ?_ _ | refine Kept.set ?_ (by first | (simp; done) | (simp; omega) | omega) _)))⟩
set_option maxHeartbeats 1000000 in
theorem refSide_any (wm di edge : Int) (w : World) :
    Calls Tryd.prog 62 #[modeV wm di, .int .i64 edge] w fun e w' => e = .returned (.tuple #[.int .i64 (sideS wm di edge).1, .int .i64 (sideS wm di edge).2]) ∧ Kept w w' := by
  go_enter Tryd.func62, Tryd.ntmps62
  go_wp2
  go_loopw [6] (fun i wx => ∃ k : Nat, k ≤ 4 ∧ i = .int .i64 k ∧ Kept (w.alloc (.cells #[.int .i64 wm, .int .i64 di] 38)) wx ∧ sideS wm di edge = sideF wm di edge (4 - k) k) (fun i _ => 4 - (intOf i).toNat)
  case atStart => exact ⟨0, Nat.zero_le _, rfl, Kept.refl _, rfl⟩
  case round =>
    obtain ⟨k, hk4, rfl, hkb, he⟩ := hrel
    have He := Lib.hid he
    clear he
    have hk : Kept w _ := ((Kept.refl w).alloc _).trans hkb
    have c0 := hkb.cell (p := ⟨w.heap.size, 0, none⟩) (by simp)
    have c1 := hkb.cell (p := ⟨w.heap.size, 1, none⟩) (by simp)
    by_cases hlt : k < 4
    · have hd := sideF_step (wr := wm) (di := di) (edge := edge) hlt
      have Hd := Lib.hid hd
      clear hd
      by_cases hE : (edgeS wm di k).2 = 0 ∧ (edgeS wm di k).1 = edge
      · obtain ⟨h1, h2⟩ := hE
        have b1 : ((edgeS wm di k).2 == 0) = true := by simp [h1]
        have b2 : ((edgeS wm di k).1 == edge) = true := by simp [h2]
        have H1 := Lib.hid h1
        have H2 := Lib.hid h2
        clear h1 h2
        go_wp2_with fail
        refine (refEdge_any _ _ _ _).mono ?_
        rintro e w1 ⟨rfl, hn⟩
        replace hkb := hkb.trans hn
        replace hk := Kept.trans (by first | ((repeat (first | with_reducible exact hk | with_reducible refine Kept.alloc ?_ _ | with_reducible refine Kept.drew ?_ | with_reducible refine Kept.drewN ?_ _ | with_reducible refine Kept.set ?_ (by first | (simp; done) | (simp; omega) | omega) _)); done) | exact hk | exact (hk.alloc _) | exact ((hk.alloc _).alloc _) | exact (((hk.alloc _).alloc _).alloc _) | exact ((((hk.alloc _).alloc _).alloc _).alloc _) | exact (((((hk.alloc _).alloc _).alloc _).alloc _).alloc _) | exact ((((((hk.alloc _).alloc _).alloc _).alloc _).alloc _).alloc _)) hn
        go_wp2
        go_ret2
        exact ⟨by rw [He.out, Hd.out, if_pos ⟨H1.out, H2.out⟩]; rfl, hk⟩
      · have b : ((edgeS wm di k).2 == 0 && (edgeS wm di k).1 == edge) = false := by
          rw [Bool.eq_false_iff]; simpa using hE
        have HE := Lib.hid hE
        clear hE
        cases b1 : ((edgeS wm di k).2 == 0)
        · clear b
          go_wp2_with fail
          refine (refEdge_any _ _ _ _).mono ?_
          rintro e w1 ⟨rfl, hn⟩
          replace hkb := hkb.trans hn
          replace hk := Kept.trans (by first | ((repeat (first | with_reducible exact hk | with_reducible refine Kept.alloc ?_ _ | with_reducible refine Kept.drew ?_ | with_reducible refine Kept.drewN ?_ _ | with_reducible refine Kept.set ?_ (by first | (simp; done) | (simp; omega) | omega) _)); done) | exact hk | exact (hk.alloc _) | exact ((hk.alloc _).alloc _) | exact (((hk.alloc _).alloc _).alloc _) | exact ((((hk.alloc _).alloc _).alloc _).alloc _) | exact (((((hk.alloc _).alloc _).alloc _).alloc _).alloc _) | exact ((((((hk.alloc _).alloc _).alloc _).alloc _).alloc _).alloc _)) hn
          go_wp2
          exact ⟨⟨k + 1, by omega, by go_num, hkb, by rw [He.out, Hd.out, if_neg HE.out]⟩, by simp [intOf]; omega⟩
        · have b2 : ((edgeS wm di k).1 == edge) = false := by simpa [b1] using b
          clear b
          go_wp2_with fail
          refine (refEdge_any _ _ _ _).mono ?_
          rintro e w1 ⟨rfl, hn⟩
          replace hkb := hkb.trans hn
          replace hk := Kept.trans (by first | ((repeat (first | with_reducible exact hk | with_reducible refine Kept.alloc ?_ _ | with_reducible refine Kept.drew ?_ | with_reducible refine Kept.drewN ?_ _ | with_reducible refine Kept.set ?_ (by first | (simp; done) | (simp; omega) | omega) _)); done) | exact hk | exact (hk.alloc _) | exact ((hk.alloc _).alloc _) | exact (((hk.alloc _).alloc _).alloc _) | exact ((((hk.alloc _).alloc _).alloc _).alloc _) | exact (((((hk.alloc _).alloc _).alloc _).alloc _).alloc _) | exact ((((((hk.alloc _).alloc _).alloc _).alloc _).alloc _).alloc _)) hn
          go_wp2
          exact ⟨⟨k + 1, by omega, by go_num, hkb, by rw [He.out, Hd.out, if_neg HE.out]⟩, by simp [intOf]; omega⟩
    · obtain rfl : k = 4 := by omega
      go_wp2
      go_ret2
      exact ⟨by rw [He.out]; rfl, hk⟩
end Go.Proofs.YtnbagilcbngdcaaDoor
