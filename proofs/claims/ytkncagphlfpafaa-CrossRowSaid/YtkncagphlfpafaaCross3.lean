/- Layer 21: where an item stands in its line. -/
import Derived.Test.YtkncagphlfpafaaCross2
import Derived.Test.YtkncagphlfpafaaUnitRef
namespace Go.Proofs.Ytkncagphlfpafaa
open Go.RowKit
set_option linter.unusedSimpArgs false
set_option linter.unusedVariables false
def crossB (item line size : Int) : Bool := inB 0 3 item && mayB line && mayB size
def crossS (item line size : Int) : Int × Int × Int :=
  if crossB item line size = true then (if item = 0 then (0, line, 0) else if item = 1 then (0, size, 0) else if item = 2 then (line - size, size, 0) else ((line - size) / 2, size, 0)) else (0, 0, 2100)
abbrev triV (p : Int × Int × Int) : Value := .tuple #[.int .i64 p.1, .int .i64 p.2.1, .int .i64 p.2.2]
theorem crossS_no {item line size : Int} (h : crossB item line size = false) : crossS item line size = (0, 0, 2100) := if_neg (by simp [h])
set_option maxHeartbeats 1000000 in
theorem crossCross_no (item line size : Int) (w : World) (h : crossB item line size = false) :
    Calls Try.prog 23 #[.int .i64 item, .int .i64 line, .int .i64 size] w fun e w' => e = .returned (triV (crossS item line size)) ∧ Kept w w' := by
  rw [crossS_no h]
  cases h1 : mayB line
  · skip
    have hk : Kept w w := Kept.refl w
    go_enter Try.func23, Try.ntmps23
    go_wp2_with fail
    refine (unitMay_any _ _).mono ?_
    rintro e w1 ⟨rfl, hn⟩
    replace hk := hk.trans hn
    clear hn
    go_wp2
    go_ret3
    exact ⟨rfl, hk⟩
  · cases h2 : mayB size
    · skip
      have hk : Kept w w := Kept.refl w
      go_enter Try.func23, Try.ntmps23
      go_wp2_with fail
      refine (unitMay_any _ _).mono ?_
      rintro e w1 ⟨rfl, hn⟩
      replace hk := hk.trans hn
      clear hn
      go_wp2_with fail
      refine (unitMay_any _ _).mono ?_
      rintro e w1 ⟨rfl, hn⟩
      replace hk := hk.trans hn
      clear hn
      go_wp2
      go_ret3
      exact ⟨rfl, hk⟩
    · have h3 : inB 0 3 item = false := by simpa [crossB, h1, h2] using h
      have h4 := inB_false.1 h3
      have n0 : item ≠ 0 := by omega
      have n1 : item ≠ 1 := by omega
      have n2 : item ≠ 2 := by omega
      have n3 : item ≠ 3 := by omega
      clear h h3 h4
      have hk : Kept w w := Kept.refl w
      go_enter Try.func23, Try.ntmps23
      go_wp2_with fail
      refine (unitMay_any _ _).mono ?_
      rintro e w1 ⟨rfl, hn⟩
      replace hk := hk.trans hn
      clear hn
      go_wp2_with fail
      refine (unitMay_any _ _).mono ?_
      rintro e w1 ⟨rfl, hn⟩
      replace hk := hk.trans hn
      clear hn
      go_wp2
      go_ret3
      exact ⟨rfl, hk⟩
set_option maxHeartbeats 1000000 in
theorem crossCross_yes (item line size : Int) (w : World) (h1 : mayB line = true) (h2 : mayB size = true) (hi : item = 0 ∨ item = 1 ∨ item = 2 ∨ item = 3) :
    Calls Try.prog 23 #[.int .i64 item, .int .i64 line, .int .i64 size] w fun e w' => e = .returned (triV (crossS item line size)) ∧ Kept w w' := by
  have b1 := mayB_true.1 h1
  have b2 := mayB_true.1 h2
  rcases hi with rfl | rfl | rfl | rfl
  · rw [show crossS 0 line size = (0, line, 0) by unfold crossS crossB; rw [h1, h2]; rfl]
    have hk : Kept w w := Kept.refl w
    go_enter Try.func23, Try.ntmps23
    go_wp2_with fail
    refine (unitMay_any _ _).mono ?_
    rintro e w1 ⟨rfl, hn⟩
    replace hk := hk.trans hn
    clear hn
    go_wp2_with fail
    refine (unitMay_any _ _).mono ?_
    rintro e w1 ⟨rfl, hn⟩
    replace hk := hk.trans hn
    clear hn
    go_wp2
    go_ret3
    exact ⟨rfl, hk⟩
  · rw [show crossS 1 line size = (0, size, 0) by unfold crossS crossB; rw [h1, h2]; rfl]
    have hk : Kept w w := Kept.refl w
    go_enter Try.func23, Try.ntmps23
    go_wp2_with fail
    refine (unitMay_any _ _).mono ?_
    rintro e w1 ⟨rfl, hn⟩
    replace hk := hk.trans hn
    clear hn
    go_wp2_with fail
    refine (unitMay_any _ _).mono ?_
    rintro e w1 ⟨rfl, hn⟩
    replace hk := hk.trans hn
    clear hn
    go_wp2
    go_ret3
    exact ⟨rfl, hk⟩
  · rw [show crossS 2 line size = (line - size, size, 0) by unfold crossS crossB; rw [h1, h2]; rfl]
    have hk : Kept w w := Kept.refl w
    go_enter Try.func23, Try.ntmps23
    go_wp2_with fail
    refine (unitMay_any _ _).mono ?_
    rintro e w1 ⟨rfl, hn⟩
    replace hk := hk.trans hn
    clear hn
    go_wp2_with fail
    refine (unitMay_any _ _).mono ?_
    rintro e w1 ⟨rfl, hn⟩
    replace hk := hk.trans hn
    clear hn
    go_wp2
    go_ret3
    exact ⟨rfl, hk⟩
  · rw [show crossS 3 line size = ((line - size) / 2, size, 0) by unfold crossS crossB; rw [h1, h2]; rfl]
    have hk : Kept w w := Kept.refl w
    go_enter Try.func23, Try.ntmps23
    go_wp2_with fail
    refine (unitMay_any _ _).mono ?_
    rintro e w1 ⟨rfl, hn⟩
    replace hk := hk.trans hn
    clear hn
    go_wp2_with fail
    refine (unitMay_any _ _).mono ?_
    rintro e w1 ⟨rfl, hn⟩
    replace hk := hk.trans hn
    clear hn
    go_wp2
    go_ret3
    exact ⟨rfl, hk⟩
theorem refUp11_any (x most : Int) (w : World) :
    Calls Try.prog 38 #[.int .i64 x, .int .i64 most] w fun e w' => e = .returned (.bool (inB 0 most x)) ∧ w = w' := by
  by_cases h1 : 0 ≤ x
  · skip
    go_enter Try.func38, Try.ntmps38
    go_wp2
    go_ret
    exact ⟨ret_bool (by unfold inB; simp [h1]), rfl⟩
  · have h2 : x < 0 := by omega
    go_enter Try.func38, Try.ntmps38
    go_wp2
    go_ret
    exact ⟨ret_bool (by unfold inB; simp; omega), rfl⟩
theorem refRoom11_any (x : Int) (w : World) :
    Calls Try.prog 39 #[.int .i64 x] w fun e w' => e = .returned (.bool (inB 0 4194304 x)) ∧ w = w' := by
  go_enter Try.func39, Try.ntmps39
  go_wp2_with (first
    | (go_at_call 38; refine (refUp11_any _ _ _).mono ?_; rintro e w1 ⟨rfl, rfl⟩)
    | fail)
  go_ret
  exact ⟨rfl, rfl⟩
theorem crossCross_any (item line size : Int) (w : World) :
    Calls Try.prog 23 #[.int .i64 item, .int .i64 line, .int .i64 size] w fun e w' => e = .returned (triV (crossS item line size)) ∧ Kept w w' := by
  cases h : crossB item line size with
  | false => exact crossCross_no item line size w h
  | true =>
    have h' := h
    unfold crossB at h'
    simp only [Bool.and_eq_true] at h'
    have := inB_true.1 h'.1.1
    exact crossCross_yes item line size w h'.1.2 h'.2 (by omega)
set_option maxHeartbeats 1000000 in
theorem refCross_no (item line size : Int) (w : World) (h : crossB item line size = false) :
    Calls Try.prog 24 #[.int .i64 item, .int .i64 line, .int .i64 size] w fun e w' => e = .returned (triV (crossS item line size)) ∧ Kept w w' := by
  rw [crossS_no h]
  cases h0 : inB 0 3 item
  · skip
    have hk : Kept w w := Kept.refl w
    go_enter Try.func24, Try.ntmps24
    go_wp2_with fail
    refine (refUp11_any _ _ _).mono ?_
    rintro e w1 ⟨rfl, rfl⟩
    go_wp2
    go_ret3
    exact ⟨rfl, hk⟩
  · cases h1 : mayB line
    · skip
      have hk : Kept w w := Kept.refl w
      go_enter Try.func24, Try.ntmps24
      go_wp2_with fail
      refine (refUp11_any _ _ _).mono ?_
      rintro e w1 ⟨rfl, rfl⟩
      go_wp2_with fail
      refine (refMayM_any _ _).mono ?_
      rintro e w1 ⟨rfl, hn⟩
      replace hk := hk.trans hn
      clear hn
      go_wp2
      go_ret3
      exact ⟨rfl, hk⟩
    · have h2 : mayB size = false := by simpa [crossB, h0, h1] using h
      have hk : Kept w w := Kept.refl w
      go_enter Try.func24, Try.ntmps24
      go_wp2_with fail
      refine (refUp11_any _ _ _).mono ?_
      rintro e w1 ⟨rfl, rfl⟩
      go_wp2_with fail
      refine (refMayM_any _ _).mono ?_
      rintro e w1 ⟨rfl, hn⟩
      replace hk := hk.trans hn
      clear hn
      go_wp2_with fail
      refine (refMayM_any _ _).mono ?_
      rintro e w1 ⟨rfl, hn⟩
      replace hk := hk.trans hn
      clear hn
      go_wp2
      go_ret3
      exact ⟨rfl, hk⟩
set_option maxHeartbeats 1000000 in
theorem refCross_yes (item line size : Int) (w : World) (h1 : mayB line = true) (h2 : mayB size = true) (hi : item = 0 ∨ item = 1 ∨ item = 2 ∨ item = 3) :
    Calls Try.prog 24 #[.int .i64 item, .int .i64 line, .int .i64 size] w fun e w' => e = .returned (triV (crossS item line size)) ∧ Kept w w' := by
  have b1 := mayB_true.1 h1
  have b2 := mayB_true.1 h2
  rcases hi with rfl | rfl | rfl | rfl
  · rw [show crossS 0 line size = (0, line, 0) by unfold crossS crossB; rw [h1, h2]; rfl]
    have h0 : inB 0 3 0 = true := by decide
    have hk : Kept w w := Kept.refl w
    go_enter Try.func24, Try.ntmps24
    go_wp2_with fail
    refine (refUp11_any _ _ _).mono ?_
    rintro e w1 ⟨rfl, rfl⟩
    go_wp2_with fail
    refine (refMayM_any _ _).mono ?_
    rintro e w1 ⟨rfl, hn⟩
    replace hk := hk.trans hn
    clear hn
    go_wp2_with fail
    refine (refMayM_any _ _).mono ?_
    rintro e w1 ⟨rfl, hn⟩
    replace hk := hk.trans hn
    clear hn
    go_wp2
    go_ret3
    exact ⟨rfl, hk⟩
  · rw [show crossS 1 line size = (0, size, 0) by unfold crossS crossB; rw [h1, h2]; rfl]
    have h0 : inB 0 3 1 = true := by decide
    have hk : Kept w w := Kept.refl w
    go_enter Try.func24, Try.ntmps24
    go_wp2_with fail
    refine (refUp11_any _ _ _).mono ?_
    rintro e w1 ⟨rfl, rfl⟩
    go_wp2_with fail
    refine (refMayM_any _ _).mono ?_
    rintro e w1 ⟨rfl, hn⟩
    replace hk := hk.trans hn
    clear hn
    go_wp2_with fail
    refine (refMayM_any _ _).mono ?_
    rintro e w1 ⟨rfl, hn⟩
    replace hk := hk.trans hn
    clear hn
    go_wp2
    go_ret3
    exact ⟨rfl, hk⟩
  · rw [show crossS 2 line size = (line - size, size, 0) by unfold crossS crossB; rw [h1, h2]; rfl]
    have h0 : inB 0 3 2 = true := by decide
    have hk : Kept w w := Kept.refl w
    go_enter Try.func24, Try.ntmps24
    go_wp2_with fail
    refine (refUp11_any _ _ _).mono ?_
    rintro e w1 ⟨rfl, rfl⟩
    go_wp2_with fail
    refine (refMayM_any _ _).mono ?_
    rintro e w1 ⟨rfl, hn⟩
    replace hk := hk.trans hn
    clear hn
    go_wp2_with fail
    refine (refMayM_any _ _).mono ?_
    rintro e w1 ⟨rfl, hn⟩
    replace hk := hk.trans hn
    clear hn
    go_wp2
    go_ret3
    exact ⟨rfl, hk⟩
  · rw [show crossS 3 line size = ((line - size) / 2, size, 0) by unfold crossS crossB; rw [h1, h2]; rfl]
    have h0 : inB 0 3 3 = true := by decide
    have hk : Kept w w := Kept.refl w
    go_enter Try.func24, Try.ntmps24
    go_wp2_with fail
    refine (refUp11_any _ _ _).mono ?_
    rintro e w1 ⟨rfl, rfl⟩
    go_wp2_with fail
    refine (refMayM_any _ _).mono ?_
    rintro e w1 ⟨rfl, hn⟩
    replace hk := hk.trans hn
    clear hn
    go_wp2_with fail
    refine (refMayM_any _ _).mono ?_
    rintro e w1 ⟨rfl, hn⟩
    replace hk := hk.trans hn
    clear hn
    go_wp2_with fail
    refine (refFloor_any _ _ _ (by omega) (by omega) (by decide) (by decide)).mono ?_
    rintro e w1 ⟨rfl, rfl⟩
    go_wp2
    go_ret3
    exact ⟨rfl, hk⟩
theorem refCross_any (item line size : Int) (w : World) :
    Calls Try.prog 24 #[.int .i64 item, .int .i64 line, .int .i64 size] w fun e w' => e = .returned (triV (crossS item line size)) ∧ Kept w w' := by
  cases h : crossB item line size with
  | false => exact refCross_no item line size w h
  | true =>
    have h' := h
    unfold crossB at h'
    simp only [Bool.and_eq_true] at h'
    have := inB_true.1 h'.1.1
    exact refCross_yes item line size w h'.1.2 h'.2 (by omega)
theorem crossMain_wrong (just room : Int) (v : Value) (n : Nat) (Z : Nat → Int) (w : World) (hz : IV w v n Z) (hn : n ≤ 17592186043904) (h : mainB just room n Z = false) :
    Calls Try.prog 21 #[.int .i64 just, .int .i64 room, v] w fun e w' => e = .returned (.tuple #[.slice none 0 0, .int .i64 2100]) ∧ Kept w w' := by
  obtain ⟨o, cap, rfl⟩ := hz.shape
  cases h1 : inB 0 3 just
  · skip
    have hk : Kept w w := Kept.refl w
    go_enter Try.func21, Try.ntmps21
    go_wp2_with fail
    refine with_boxes1 ?_
    intro X hX p
    have hsz := hk.size
    replace hk := hk.trans hX
    clear hX
    replace p_l := p.lt
    replace p_0 := p.at 0 _ rfl
    refine (each1_any _ _ _ _ _ p_0).mono ?_
    rintro e w1 ⟨rfl, rfl⟩
    go_wp2
    go_ret2
    exact ⟨rfl, (by first | ((repeat (first | with_reducible exact hk | with_reducible refine Kept.alloc ?_ _ | with_reducible refine Kept.drew ?_ | with_reducible refine Kept.drewN ?_ _ | with_reducible refine Kept.set ?_ (by first | (simp; done) | (simp; omega) | omega) _)); done) | exact hk | exact (hk.alloc _) | exact ((hk.alloc _).alloc _) | exact (((hk.alloc _).alloc _).alloc _) | exact ((((hk.alloc _).alloc _).alloc _).alloc _) | exact (((((hk.alloc _).alloc _).alloc _).alloc _).alloc _) | exact ((((((hk.alloc _).alloc _).alloc _).alloc _).alloc _).alloc _) | (repeat (first | exact hk | refine Kept.alloc ?_ _ | refine Kept.drew ?_ | refine Kept.drewN ?_ _ | refine Kept.set ?_ (by first | (simp; done) | (simp; omega) | omega) _)))⟩
  · cases h2 : inB 0 4194304 room
    · skip
      have hk : Kept w w := Kept.refl w
      go_enter Try.func21, Try.ntmps21
      go_wp2_with fail
      refine with_boxes1 ?_
      intro X hX p
      have hsz := hk.size
      replace hk := hk.trans hX
      clear hX
      replace p_l := p.lt
      replace p_0 := p.at 0 _ rfl
      refine (each1_any _ _ _ _ _ p_0).mono ?_
      rintro e w1 ⟨rfl, rfl⟩
      go_wp2_with fail
      refine with_boxes1 ?_
      intro X hX q
      have hsz := hk.size
      replace hk := hk.trans hX
      replace p := p.kept hX
      clear hX
      replace p_l := p.lt
      replace p_0 := p.at 0 _ rfl
      replace q_l := q.lt
      replace q_0 := q.at 0 _ rfl
      refine (each1_any _ _ _ _ _ q_0).mono ?_
      rintro e w1 ⟨rfl, rfl⟩
      go_wp2
      go_ret2
      exact ⟨rfl, (by first | ((repeat (first | with_reducible exact hk | with_reducible refine Kept.alloc ?_ _ | with_reducible refine Kept.drew ?_ | with_reducible refine Kept.drewN ?_ _ | with_reducible refine Kept.set ?_ (by first | (simp; done) | (simp; omega) | omega) _)); done) | exact hk | exact (hk.alloc _) | exact ((hk.alloc _).alloc _) | exact (((hk.alloc _).alloc _).alloc _) | exact ((((hk.alloc _).alloc _).alloc _).alloc _) | exact (((((hk.alloc _).alloc _).alloc _).alloc _).alloc _) | exact ((((((hk.alloc _).alloc _).alloc _).alloc _).alloc _).alloc _) | (repeat (first | exact hk | refine Kept.alloc ?_ _ | refine Kept.drew ?_ | refine Kept.drewN ?_ _ | refine Kept.set ?_ (by first | (simp; done) | (simp; omega) | omega) _)))⟩
    · by_cases h3 : n ≤ 32
      · have h4 : allX Z n = false := by simpa [mainB, h1, h2, h3] using h
        have hk : Kept w w := Kept.refl w
        go_enter Try.func21, Try.ntmps21
        go_wp2_with fail
        refine with_boxes1 ?_
        intro X hX p
        have hsz := hk.size
        replace hk := hk.trans hX
        clear hX
        replace p_l := p.lt
        replace p_0 := p.at 0 _ rfl
        refine (each1_any _ _ _ _ _ p_0).mono ?_
        rintro e w1 ⟨rfl, rfl⟩
        go_wp2_with fail
        refine with_boxes1 ?_
        intro X hX q
        have hsz := hk.size
        replace hk := hk.trans hX
        replace p := p.kept hX
        clear hX
        replace p_l := p.lt
        replace p_0 := p.at 0 _ rfl
        replace q_l := q.lt
        replace q_0 := q.at 0 _ rfl
        refine (each1_any _ _ _ _ _ q_0).mono ?_
        rintro e w1 ⟨rfl, rfl⟩
        go_wp2_with fail
        refine (crossContains_any _ n Z _ (hz.kept hk) hn).mono ?_
        rintro e w1 ⟨rfl, hn⟩
        replace hk := hk.trans hn
        replace p := p.kept hn
        replace q := q.kept hn
        clear hn
        replace p_l := p.lt
        replace p_0 := p.at 0 _ rfl
        replace q_l := q.lt
        replace q_0 := q.at 0 _ rfl
        go_wp2
        go_ret2
        exact ⟨rfl, hk⟩
      · skip
        have hk : Kept w w := Kept.refl w
        go_enter Try.func21, Try.ntmps21
        go_wp2_with fail
        refine with_boxes1 ?_
        intro X hX p
        have hsz := hk.size
        replace hk := hk.trans hX
        clear hX
        replace p_l := p.lt
        replace p_0 := p.at 0 _ rfl
        refine (each1_any _ _ _ _ _ p_0).mono ?_
        rintro e w1 ⟨rfl, rfl⟩
        go_wp2_with fail
        refine with_boxes1 ?_
        intro X hX q
        have hsz := hk.size
        replace hk := hk.trans hX
        replace p := p.kept hX
        clear hX
        replace p_l := p.lt
        replace p_0 := p.at 0 _ rfl
        replace q_l := q.lt
        replace q_0 := q.at 0 _ rfl
        refine (each1_any _ _ _ _ _ q_0).mono ?_
        rintro e w1 ⟨rfl, rfl⟩
        go_wp2
        go_ret2
        exact ⟨rfl, (by first | ((repeat (first | with_reducible exact hk | with_reducible refine Kept.alloc ?_ _ | with_reducible refine Kept.drew ?_ | with_reducible refine Kept.drewN ?_ _ | with_reducible refine Kept.set ?_ (by first | (simp; done) | (simp; omega) | omega) _)); done) | exact hk | exact (hk.alloc _) | exact ((hk.alloc _).alloc _) | exact (((hk.alloc _).alloc _).alloc _) | exact ((((hk.alloc _).alloc _).alloc _).alloc _) | exact (((((hk.alloc _).alloc _).alloc _).alloc _).alloc _) | exact ((((((hk.alloc _).alloc _).alloc _).alloc _).alloc _).alloc _) | (repeat (first | exact hk | refine Kept.alloc ?_ _ | refine Kept.drew ?_ | refine Kept.drewN ?_ _ | refine Kept.set ?_ (by first | (simp; done) | (simp; omega) | omega) _)))⟩
end Go.Proofs.Ytkncagphlfpafaa
