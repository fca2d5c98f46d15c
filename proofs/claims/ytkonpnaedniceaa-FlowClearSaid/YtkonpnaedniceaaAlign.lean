/- Layer 7: where in its room a line stands. -/
import Derived.Test.YtkonpnaedniceaaIntRow
import Derived.Test.YtkonpnaedniceaaBoxes
namespace Go.Proofs.Ytkonpnaedniceaa
open Go.RowKit
set_option linter.unusedSimpArgs false
def szB (a b : Int) : Bool := inB 0 1073741824 a && inB 0 1073741824 b
theorem szB_true {a b : Int} : szB a b = true ↔ (0 ≤ a ∧ a ≤ 1073741824) ∧ 0 ≤ b ∧ b ≤ 1073741824 := by unfold szB; rw [Bool.and_eq_true, inB_true, inB_true]
def almB (how room adv : Int) : Bool := inB 0 3 how && szB room adv
theorem almB_true {how room adv : Int} : almB how room adv = true ↔ (0 ≤ how ∧ how ≤ 3) ∧ (0 ≤ room ∧ room ≤ 1073741824) ∧ 0 ≤ adv ∧ adv ≤ 1073741824 := by unfold almB; rw [Bool.and_eq_true, inB_true, szB_true]
theorem alignMay_any (how room adv : Int) (w : World) :
    Calls Try.prog 40 #[.int .i64 how, .int .i64 room, .int .i64 adv] w fun e w' => e = .returned (.bool (almB how room adv)) ∧ Kept w w' := by
  have hs : almB how room adv = (inB 0 3 how && szB room adv) := rfl
  have Hs := Lib.hid hs
  clear hs
  cases h1 : inB 0 3 how
  · skip
    have hk : Kept w w := Kept.refl w
    go_enter Try.func40, Try.ntmps40
    go_wp2_with fail
    refine with_boxes1 ?_
    intro X hX p
    have hsz := hk.size
    replace hk := hk.trans hX
    clear hX
    replace p_l := p.lt
    replace p_0 := p.at 0 _ rfl
    refine (each1_any _ _ _ _ _ p_0).mono ?_
    rintro e w1 ⟨rfl, rfl⟩
    go_wp2
    go_ret
    exact ⟨ret_bool (by rw [Hs.out, h1]; rfl), (by first | ((repeat (first | with_reducible exact hk | with_reducible refine Kept.alloc ?_ _ | with_reducible refine Kept.drew ?_ | with_reducible refine Kept.drewN ?_ _ | with_reducible refine Kept.set ?_ (by first | (simp; done) | (simp; omega) | omega) _)); done) | exact hk | exact (hk.alloc _) | exact ((hk.alloc _).alloc _) | exact (((hk.alloc _).alloc _).alloc _) | exact ((((hk.alloc _).alloc _).alloc _).alloc _) | exact (((((hk.alloc _).alloc _).alloc _).alloc _).alloc _) | exact ((((((hk.alloc _).alloc _).alloc _).alloc _).alloc _).alloc _) | (repeat (first | exact hk | refine Kept.alloc ?_ _ | refine Kept.drew ?_ | refine Kept.drewN ?_ _ | refine Kept.set ?_ (by first | (simp; done) | (simp; omega) | omega) _)))⟩
  · skip
    have hk : Kept w w := Kept.refl w
    go_enter Try.func40, Try.ntmps40
    go_wp2_with fail
    refine with_boxes1 ?_
    intro X hX p
    have hsz := hk.size
    replace hk := hk.trans hX
    clear hX
    replace p_l := p.lt
    replace p_0 := p.at 0 _ rfl
    refine (each1_any _ _ _ _ _ p_0).mono ?_
    rintro e w1 ⟨rfl, rfl⟩
    go_wp2_with fail
    refine with_boxes1 ?_
    intro X hX q
    have hsz := hk.size
    replace hk := hk.trans hX
    replace p := p.kept hX
    clear hX
    replace p_l := p.lt
    replace p_0 := p.at 0 _ rfl
    replace q_l := q.lt
    replace q_0 := q.at 0 _ rfl
    replace q_1 := q.at 1 _ rfl
    refine (each2_any _ _ _ _ _ _ q_0 q_1).mono ?_
    rintro e w1 ⟨rfl, rfl⟩
    go_wp2
    go_ret
    exact ⟨ret_bool (by rw [Hs.out, h1]; rfl), (by first | ((repeat (first | with_reducible exact hk | with_reducible refine Kept.alloc ?_ _ | with_reducible refine Kept.drew ?_ | with_reducible refine Kept.drewN ?_ _ | with_reducible refine Kept.set ?_ (by first | (simp; done) | (simp; omega) | omega) _)); done) | exact hk | exact (hk.alloc _) | exact ((hk.alloc _).alloc _) | exact (((hk.alloc _).alloc _).alloc _) | exact ((((hk.alloc _).alloc _).alloc _).alloc _) | exact (((((hk.alloc _).alloc _).alloc _).alloc _).alloc _) | exact ((((((hk.alloc _).alloc _).alloc _).alloc _).alloc _).alloc _) | (repeat (first | exact hk | refine Kept.alloc ?_ _ | refine Kept.drew ?_ | refine Kept.drewN ?_ _ | refine Kept.set ?_ (by first | (simp; done) | (simp; omega) | omega) _)))⟩
def upB (x most : Int) : Bool := decide (0 ≤ x ∧ x ≤ most)
def leftS (room adv : Int) : Int := if adv < room then room - adv else 0
def offS (how room adv : Int) : Int × Int := if almB how room adv = true then ((if how = 1 then leftS room adv else if how = 2 then leftS room adv / 2 else 0), 0) else (0, 700)
theorem offS_no {how room adv : Int} (h : almB how room adv = false) : offS how room adv = (0, 700) := if_neg (by simp [h])
set_option maxHeartbeats 1000000 in
theorem alignOffset_any (how room adv : Int) (w : World) :
    Calls Try.prog 39 #[.int .i64 how, .int .i64 room, .int .i64 adv] w fun e w' => e = .returned (.tuple #[.int .i64 (offS how room adv).1, .int .i64 (offS how room adv).2]) ∧ Kept w w' := by
  cases h : almB how room adv
  · have Hs := Lib.hid (offS_no h)
    have hk : Kept w w := Kept.refl w
    go_enter Try.func39, Try.ntmps39
    go_wp2_with fail
    refine (alignMay_any _ _ _ _).mono ?_
    rintro e w1 ⟨rfl, hn⟩
    replace hk := hk.trans hn
    clear hn
    go_wp2
    go_ret2
    exact ⟨by rw [Hs.out]; rfl, (by first | ((repeat (first | with_reducible exact hk | with_reducible refine Kept.alloc ?_ _ | with_reducible refine Kept.drew ?_ | with_reducible refine Kept.drewN ?_ _ | with_reducible refine Kept.set ?_ (by first | (simp; done) | (simp; omega) | omega) _)); done) | exact hk | exact (hk.alloc _) | exact ((hk.alloc _).alloc _) | exact (((hk.alloc _).alloc _).alloc _) | exact ((((hk.alloc _).alloc _).alloc _).alloc _) | exact (((((hk.alloc _).alloc _).alloc _).alloc _).alloc _) | exact ((((((hk.alloc _).alloc _).alloc _).alloc _).alloc _).alloc _) | (repeat (first | exact hk | refine Kept.alloc ?_ _ | refine Kept.drew ?_ | refine Kept.drewN ?_ _ | refine Kept.set ?_ (by first | (simp; done) | (simp; omega) | omega) _)))⟩
  · obtain ⟨⟨a1, a2⟩, ⟨b1, b2⟩, c1, c2⟩ := almB_true.1 h
    have hs : offS how room adv = ((if how = 1 then leftS room adv else if how = 2 then leftS room adv / 2 else 0), 0) := if_pos h
    have Hs := Lib.hid hs
    clear hs
    rcases Int.lt_trichotomy room adv with hd | hd | hd
    · have hl : leftS room adv = 0 := if_neg (by omega)
      have Hl := Lib.hid hl
      clear hl
      rcases (by omega : how = 0 ∨ how = 1 ∨ how = 2 ∨ how = 3) with rfl | rfl | rfl | rfl
      all_goals
        have hk : Kept w w := Kept.refl w
        go_enter Try.func39, Try.ntmps39
        go_wp2_with fail
        refine (alignMay_any _ _ _ _).mono ?_
        rintro e w1 ⟨rfl, hn⟩
        replace hk := hk.trans hn
        clear hn
        go_wp2
        go_ret2
        exact ⟨by rw [Hs.out, Hl.out]; rfl, (by first | ((repeat (first | with_reducible exact hk | with_reducible refine Kept.alloc ?_ _ | with_reducible refine Kept.drew ?_ | with_reducible refine Kept.drewN ?_ _ | with_reducible refine Kept.set ?_ (by first | (simp; done) | (simp; omega) | omega) _)); done) | exact hk | exact (hk.alloc _) | exact ((hk.alloc _).alloc _) | exact (((hk.alloc _).alloc _).alloc _) | exact ((((hk.alloc _).alloc _).alloc _).alloc _) | exact (((((hk.alloc _).alloc _).alloc _).alloc _).alloc _) | exact ((((((hk.alloc _).alloc _).alloc _).alloc _).alloc _).alloc _) | (repeat (first | exact hk | refine Kept.alloc ?_ _ | refine Kept.drew ?_ | refine Kept.drewN ?_ _ | refine Kept.set ?_ (by first | (simp; done) | (simp; omega) | omega) _)))⟩
    · subst hd
      have hl : leftS room room = 0 := if_neg (by omega)
      have Hl := Lib.hid hl
      clear hl
      rcases (by omega : how = 0 ∨ how = 1 ∨ how = 2 ∨ how = 3) with rfl | rfl | rfl | rfl
      all_goals
        have hk : Kept w w := Kept.refl w
        go_enter Try.func39, Try.ntmps39
        go_wp2_with fail
        refine (alignMay_any _ _ _ _).mono ?_
        rintro e w1 ⟨rfl, hn⟩
        replace hk := hk.trans hn
        clear hn
        go_wp2
        go_ret2
        exact ⟨by rw [Hs.out, Hl.out]; rfl, (by first | ((repeat (first | with_reducible exact hk | with_reducible refine Kept.alloc ?_ _ | with_reducible refine Kept.drew ?_ | with_reducible refine Kept.drewN ?_ _ | with_reducible refine Kept.set ?_ (by first | (simp; done) | (simp; omega) | omega) _)); done) | exact hk | exact (hk.alloc _) | exact ((hk.alloc _).alloc _) | exact (((hk.alloc _).alloc _).alloc _) | exact ((((hk.alloc _).alloc _).alloc _).alloc _) | exact (((((hk.alloc _).alloc _).alloc _).alloc _).alloc _) | exact ((((((hk.alloc _).alloc _).alloc _).alloc _).alloc _).alloc _) | (repeat (first | exact hk | refine Kept.alloc ?_ _ | refine Kept.drew ?_ | refine Kept.drewN ?_ _ | refine Kept.set ?_ (by first | (simp; done) | (simp; omega) | omega) _)))⟩
    · have hl : leftS room adv = room - adv := if_pos hd
      have Hl := Lib.hid hl
      clear hl
      rcases (by omega : how = 0 ∨ how = 1 ∨ how = 2 ∨ how = 3) with rfl | rfl | rfl | rfl
      all_goals
        have hk : Kept w w := Kept.refl w
        go_enter Try.func39, Try.ntmps39
        go_wp2_with fail
        refine (alignMay_any _ _ _ _).mono ?_
        rintro e w1 ⟨rfl, hn⟩
        replace hk := hk.trans hn
        clear hn
        go_wp2
        go_ret2
        exact ⟨by rw [Hs.out, Hl.out]; rfl, (by first | ((repeat (first | with_reducible exact hk | with_reducible refine Kept.alloc ?_ _ | with_reducible refine Kept.drew ?_ | with_reducible refine Kept.drewN ?_ _ | with_reducible refine Kept.set ?_ (by first | (simp; done) | (simp; omega) | omega) _)); done) | exact hk | exact (hk.alloc _) | exact ((hk.alloc _).alloc _) | exact (((hk.alloc _).alloc _).alloc _) | exact ((((hk.alloc _).alloc _).alloc _).alloc _) | exact (((((hk.alloc _).alloc _).alloc _).alloc _).alloc _) | exact ((((((hk.alloc _).alloc _).alloc _).alloc _).alloc _).alloc _) | (repeat (first | exact hk | refine Kept.alloc ?_ _ | refine Kept.drew ?_ | refine Kept.drewN ?_ _ | refine Kept.set ?_ (by first | (simp; done) | (simp; omega) | omega) _)))⟩
end Go.Proofs.Ytkonpnaedniceaa
