/- Layer 1: numbers that stay small: the program's functions and the document's, each by what it comes to. -/
import Derived.Test.YtpblajjfgnhkdaaDoorEach
namespace Go.Proofs.YtpblajjfgnhkdaaDoor
open Go.RowKit
def mayB (x : Int) : Bool := decide (-1073741824 ≤ x ∧ x ≤ 1073741824)
theorem mayB_true {x : Int} : mayB x = true ↔ -1073741824 ≤ x ∧ x ≤ 1073741824 := by unfold mayB; simp
theorem mayB_false {x : Int} : mayB x = false ↔ x < -1073741824 ∨ 1073741824 < x := by unfold mayB; simp; omega
theorem mayB_in (x : Int) : mayB x = inB (-1073741824) 1073741824 x := rfl
theorem unitMay_any (x : Int) (w : World) :
    Calls Tryd.prog 92 #[.int .i64 x] w fun e w' => e = .returned (.bool (mayB x)) ∧ Kept w w' := by
  go_enter Tryd.func92, Tryd.ntmps92
  go_wp2_with (first
    | (go_at_call 29; refine (each1_any _ _ _ _ _ (cell_at _ _ _ _ _ _ (by simp) rfl)).mono ?_; rintro e w1 ⟨rfl, rfl⟩)
    | fail)
  go_ret
  exact ⟨rfl, (Kept.refl _).alloc _⟩
/-- a number, if it may be -/
def smallS (x : Int) : Int × Int := if mayB x = true then (x, 0) else (0, 101)
theorem unitSmall_any (x : Int) (w : World) :
    Calls Tryd.prog 101 #[.int .i64 x] w fun e w' => e = .returned (.tuple #[.int .i64 (smallS x).1, .int .i64 (smallS x).2]) ∧ Kept w w' := by
  by_cases h : mayB x = true
  · have hs : smallS x = (x, 0) := if_pos h
    rw [hs]
    clear hs
    have hk : Kept w w := Kept.refl w
    go_enter Tryd.func101, Tryd.ntmps101
    go_wp2_with (first
      | (go_at_call 92; refine (unitMay_any _ _).mono ?_; rintro e w1 ⟨rfl, hn⟩; replace hk := Kept.trans (by first | ((repeat (first | with_reducible exact hk | with_reducible refine Kept.alloc ?_ _ | with_reducible refine Kept.drew ?_ | with_reducible refine Kept.drewN ?_ _ | with_reducible refine Kept.set ?_ (by first | (simp; done) | (simp; omega) | omega) _)); done) | exact hk | exact (hk.alloc _) | exact ((hk.alloc _).alloc _) | exact (((hk.alloc _).alloc _).alloc _) | exact ((((hk.alloc _).alloc _).alloc _).alloc _) | exact (((((hk.alloc _).alloc _).alloc _).alloc _).alloc _) | exact ((((((hk.alloc _).alloc _).alloc _).alloc _).alloc _).alloc _)) hn)
      | fail)
    go_ret2
    exact ⟨rfl, hk⟩
  · have hs : smallS x = (0, 101) := if_neg h
    rw [hs]
    clear hs
    have hk : Kept w w := Kept.refl w
    go_enter Tryd.func101, Tryd.ntmps101
    go_wp2_with (first
      | (go_at_call 92; refine (unitMay_any _ _).mono ?_; rintro e w1 ⟨rfl, hn⟩; replace hk := Kept.trans (by first | ((repeat (first | with_reducible exact hk | with_reducible refine Kept.alloc ?_ _ | with_reducible refine Kept.drew ?_ | with_reducible refine Kept.drewN ?_ _ | with_reducible refine Kept.set ?_ (by first | (simp; done) | (simp; omega) | omega) _)); done) | exact hk | exact (hk.alloc _) | exact ((hk.alloc _).alloc _) | exact (((hk.alloc _).alloc _).alloc _) | exact ((((hk.alloc _).alloc _).alloc _).alloc _) | exact (((((hk.alloc _).alloc _).alloc _).alloc _).alloc _) | exact ((((((hk.alloc _).alloc _).alloc _).alloc _).alloc _).alloc _)) hn)
      | fail)
    go_ret2
    exact ⟨rfl, hk⟩
theorem floor_div (x c : Int) (hc : 1 ≤ c) : x / c = if x.tmod c < 0 then x.tdiv c - 1 else x.tdiv c := by
  have h3 := Int.emod_nonneg x (show c ≠ 0 by omega)
  have h4 := Int.emod_lt_of_pos x (show 0 < c by omega)
  have h5 : c.sign = 1 := Int.sign_eq_one_of_pos (by omega)
  rw [Int.tmod_eq_emod, Int.tdiv_eq_ediv, h5]
  by_cases h : 0 ≤ x ∨ c ∣ x
  · rw [if_pos h, if_pos h, if_neg (by omega)]; omega
  · rw [if_neg h, if_neg h, if_pos (by omega)]; omega
theorem tdiv_bd (x c : Int) (h1 : -4611686018427387904 ≤ x) (h2 : x ≤ 4611686018427387904) : -4611686018427387904 ≤ x.tdiv c ∧ x.tdiv c ≤ 4611686018427387904 := by
  have h := Int.natAbs_tdiv x c
  have h' := Nat.div_le_self x.natAbs c.natAbs
  have : (x.tdiv c).natAbs ≤ x.natAbs := by rw [h]; exact h'
  omega
theorem unitFloor_any (x c : Int) (w : World) (h1 : -4611686018427387904 ≤ x) (h2 : x ≤ 4611686018427387904) (h3 : 1 ≤ c) (h4 : c ≤ 4611686018427387904) :
    Calls Tryd.prog 102 #[.int .i64 x, .int .i64 c] w fun e w' => e = .returned (.int .i64 (x / c)) ∧ w = w' := by
  have hf := floor_div x c h3
  have Hf := Lib.hid hf
  clear hf
  obtain ⟨h5, h6⟩ := tdiv_bd x c h1 h2
  go_enter Tryd.func102, Tryd.ntmps102
  go_wp2
  · have h7 : x.tmod c < 0 := by assumption
    go_ret
    exact ⟨ret_int (by rw [Hf.out, if_pos h7]), rfl⟩
  · have h7 : 0 ≤ x.tmod c := by assumption
    go_ret
    exact ⟨ret_int (by rw [Hf.out, if_neg (by omega)]), rfl⟩
def addS (a b : Int) : Int × Int := if mayB a = true ∧ mayB b = true then smallS (a + b) else (0, 100)
def mulDivS (a b c : Int) : Int × Int := if mayB a = true ∧ mayB b = true ∧ mayB c = true ∧ 1 ≤ c then smallS (a * b / c) else (0, 100)
theorem mul_bd {a b : Int} (h1 : -1073741824 ≤ a ∧ a ≤ 1073741824) (h2 : -1073741824 ≤ b ∧ b ≤ 1073741824) : -1152921504606846976 ≤ a * b ∧ a * b ≤ 1152921504606846976 := by
  have h : (a * b).natAbs ≤ 1073741824 * 1073741824 := by rw [Int.natAbs_mul]; exact Nat.mul_le_mul (by omega) (by omega)
  omega
theorem unitMulDiv_any (a b c : Int) (w : World) :
    Calls Tryd.prog 97 #[.int .i64 a, .int .i64 b, .int .i64 c] w fun e w' => e = .returned (.tuple #[.int .i64 (mulDivS a b c).1, .int .i64 (mulDivS a b c).2]) ∧ Kept w w' := by
  cases ha : mayB a <;> cases hb : mayB b <;> cases hc : mayB c
  case true.true.true =>
    have h1 := mayB_true.1 ha
    have h2 := mayB_true.1 hb
    have h3 := mayB_true.1 hc
    have h4 := mul_bd h1 h2
    by_cases h5 : c < 1
    · have hs : mulDivS a b c = (0, 100) := if_neg (by omega)
      have Hs := Lib.hid hs
      clear hs
      have hk : Kept w w := Kept.refl w
      go_enter Tryd.func97, Tryd.ntmps97
      go_wp2_with (first
        | (go_at_call 92; refine (unitMay_any _ _).mono ?_; rintro e w1 ⟨rfl, hn⟩; replace hk := Kept.trans (by first | ((repeat (first | with_reducible exact hk | with_reducible refine Kept.alloc ?_ _ | with_reducible refine Kept.drew ?_ | with_reducible refine Kept.drewN ?_ _ | with_reducible refine Kept.set ?_ (by first | (simp; done) | (simp; omega) | omega) _)); done) | exact hk | exact (hk.alloc _) | exact ((hk.alloc _).alloc _) | exact (((hk.alloc _).alloc _).alloc _) | exact ((((hk.alloc _).alloc _).alloc _).alloc _) | exact (((((hk.alloc _).alloc _).alloc _).alloc _).alloc _) | exact ((((((hk.alloc _).alloc _).alloc _).alloc _).alloc _).alloc _)) hn)
        | fail)
      go_ret2
      exact ⟨by rw [Hs.out]; rfl, (by first | ((repeat (first | with_reducible exact hk | with_reducible refine Kept.alloc ?_ _ | with_reducible refine Kept.drew ?_ | with_reducible refine Kept.drewN ?_ _ | with_reducible refine Kept.set ?_ (by first | (simp; done) | (simp; omega) | omega) _)); done) | exact hk | exact (hk.alloc _) | exact ((hk.alloc _).alloc _) | exact (((hk.alloc _).alloc _).alloc _) | exact ((((hk.alloc _).alloc _).alloc _).alloc _) | exact (((((hk.alloc _).alloc _).alloc _).alloc _).alloc _) | exact ((((((hk.alloc _).alloc _).alloc _).alloc _).alloc _).alloc _) | (repeat (first | exact hk | refine Kept.alloc ?_ _ | refine Kept.drew ?_ | refine Kept.drewN ?_ _ | refine Kept.set ?_ (by first | (simp; done) | (simp; omega) | omega) _)))⟩
    · have hs : mulDivS a b c = smallS (a * b / c) := if_pos ⟨ha, hb, hc, by omega⟩
      have Hs := Lib.hid hs
      clear hs
      have hk : Kept w w := Kept.refl w
      go_enter Tryd.func97, Tryd.ntmps97
      go_wp2_with (first
        | (go_at_call 92; refine (unitMay_any _ _).mono ?_; rintro e w1 ⟨rfl, hn⟩; replace hk := Kept.trans (by first | ((repeat (first | with_reducible exact hk | with_reducible refine Kept.alloc ?_ _ | with_reducible refine Kept.drew ?_ | with_reducible refine Kept.drewN ?_ _ | with_reducible refine Kept.set ?_ (by first | (simp; done) | (simp; omega) | omega) _)); done) | exact hk | exact (hk.alloc _) | exact ((hk.alloc _).alloc _) | exact (((hk.alloc _).alloc _).alloc _) | exact ((((hk.alloc _).alloc _).alloc _).alloc _) | exact (((((hk.alloc _).alloc _).alloc _).alloc _).alloc _) | exact ((((((hk.alloc _).alloc _).alloc _).alloc _).alloc _).alloc _)) hn)
        | (go_at_call 102; refine (unitFloor_any _ _ _ (by omega) (by omega) (by omega) (by omega)).mono ?_; rintro e w1 ⟨rfl, rfl⟩)
        | (go_at_call 101; refine (unitSmall_any _ _).mono ?_; rintro e w1 ⟨rfl, hn⟩; replace hk := Kept.trans (by first | ((repeat (first | with_reducible exact hk | with_reducible refine Kept.alloc ?_ _ | with_reducible refine Kept.drew ?_ | with_reducible refine Kept.drewN ?_ _ | with_reducible refine Kept.set ?_ (by first | (simp; done) | (simp; omega) | omega) _)); done) | exact hk | exact (hk.alloc _) | exact ((hk.alloc _).alloc _) | exact (((hk.alloc _).alloc _).alloc _) | exact ((((hk.alloc _).alloc _).alloc _).alloc _) | exact (((((hk.alloc _).alloc _).alloc _).alloc _).alloc _) | exact ((((((hk.alloc _).alloc _).alloc _).alloc _).alloc _).alloc _)) hn)
        | fail)
      go_ret2
      exact ⟨by rw [Hs.out]; rfl, (by first | ((repeat (first | with_reducible exact hk | with_reducible refine Kept.alloc ?_ _ | with_reducible refine Kept.drew ?_ | with_reducible refine Kept.drewN ?_ _ | with_reducible refine Kept.set ?_ (by first | (simp; done) | (simp; omega) | omega) _)); done) | exact hk | exact (hk.alloc _) | exact ((hk.alloc _).alloc _) | exact (((hk.alloc _).alloc _).alloc _) | exact ((((hk.alloc _).alloc _).alloc _).alloc _) | exact (((((hk.alloc _).alloc _).alloc _).alloc _).alloc _) | exact ((((((hk.alloc _).alloc _).alloc _).alloc _).alloc _).alloc _) | (repeat (first | exact hk | refine Kept.alloc ?_ _ | refine Kept.drew ?_ | refine Kept.drewN ?_ _ | refine Kept.set ?_ (by first | (simp; done) | (simp; omega) | omega) _)))⟩
  all_goals
    have hs : mulDivS a b c = (0, 100) := if_neg (by simp [ha, hb, hc])
    have Hs := Lib.hid hs
    clear hs
    have hk : Kept w w := Kept.refl w
    go_enter Tryd.func97, Tryd.ntmps97
    go_wp2_with (first
      | (go_at_call 92; refine (unitMay_any _ _).mono ?_; rintro e w1 ⟨rfl, hn⟩; replace hk := Kept.trans (by first | ((repeat (first | with_reducible exact hk | with_reducible refine Kept.alloc ?_ _ | with_reducible refine Kept.drew ?_ | with_reducible refine Kept.drewN ?_ _ | with_reducible refine Kept.set ?_ (by first | (simp; done) | (simp; omega) | omega) _)); done) | exact hk | exact (hk.alloc _) | exact ((hk.alloc _).alloc _) | exact (((hk.alloc _).alloc _).alloc _) | exact ((((hk.alloc _).alloc _).alloc _).alloc _) | exact (((((hk.alloc _).alloc _).alloc _).alloc _).alloc _) | exact ((((((hk.alloc _).alloc _).alloc _).alloc _).alloc _).alloc _)) hn)
      | fail)
    go_ret2
    exact ⟨by rw [Hs.out]; rfl, (by first | ((repeat (first | with_reducible exact hk | with_reducible refine Kept.alloc ?_ _ | with_reducible refine Kept.drew ?_ | with_reducible refine Kept.drewN ?_ _ | with_reducible refine Kept.set ?_ (by first | (simp; done) | (simp; omega) | omega) _)); done) | exact hk | exact (hk.alloc _) | exact ((hk.alloc _).alloc _) | exact (((hk.alloc _).alloc _).alloc _) | exact ((((hk.alloc _).alloc _).alloc _).alloc _) | exact (((((hk.alloc _).alloc _).alloc _).alloc _).alloc _) | exact ((((((hk.alloc _).alloc _).alloc _).alloc _).alloc _).alloc _) | (repeat (first | exact hk | refine Kept.alloc ?_ _ | refine Kept.drew ?_ | refine Kept.drewN ?_ _ | refine Kept.set ?_ (by first | (simp; done) | (simp; omega) | omega) _)))⟩
def percentS (p o : Int) : Int × Int := if mayB o = true ∧ -100 ≤ p ∧ p ≤ 100 then mulDivS o p 100 else (0, 100)
theorem unitPercent_any (p o : Int) (w : World) :
    Calls Tryd.prog 93 #[.int .i64 p, .int .i64 o] w fun e w' => e = .returned (.tuple #[.int .i64 (percentS p o).1, .int .i64 (percentS p o).2]) ∧ Kept w w' := by
  cases ho : mayB o <;> cases hp : inB (-100) 100 p
  case true.true =>
    have h1 : -100 ≤ p ∧ p ≤ 100 := inB_true.1 hp
    have hs : percentS p o = mulDivS o p 100 := if_pos ⟨ho, h1⟩
    have Hs := Lib.hid hs
    clear hs
    have hk : Kept w w := Kept.refl w
    go_enter Tryd.func93, Tryd.ntmps93
    go_wp2_with (first
      | (go_at_call 92; refine (unitMay_any _ _).mono ?_; rintro e w1 ⟨rfl, hn⟩; replace hk := Kept.trans (by first | ((repeat (first | with_reducible exact hk | with_reducible refine Kept.alloc ?_ _ | with_reducible refine Kept.drew ?_ | with_reducible refine Kept.drewN ?_ _ | with_reducible refine Kept.set ?_ (by first | (simp; done) | (simp; omega) | omega) _)); done) | exact hk | exact (hk.alloc _) | exact ((hk.alloc _).alloc _) | exact (((hk.alloc _).alloc _).alloc _) | exact ((((hk.alloc _).alloc _).alloc _).alloc _) | exact (((((hk.alloc _).alloc _).alloc _).alloc _).alloc _) | exact ((((((hk.alloc _).alloc _).alloc _).alloc _).alloc _).alloc _)) hn)
      | (go_at_call 29; refine (each1_any _ _ _ _ _ (cell_at _ _ _ _ _ _ (by simp) rfl)).mono ?_; rintro e w1 ⟨rfl, rfl⟩)
      | (go_at_call 97; refine (unitMulDiv_any _ _ _ _).mono ?_; rintro e w1 ⟨rfl, hn⟩; replace hk := Kept.trans (by first | ((repeat (first | with_reducible exact hk | with_reducible refine Kept.alloc ?_ _ | with_reducible refine Kept.drew ?_ | with_reducible refine Kept.drewN ?_ _ | with_reducible refine Kept.set ?_ (by first | (simp; done) | (simp; omega) | omega) _)); done) | exact hk | exact (hk.alloc _) | exact ((hk.alloc _).alloc _) | exact (((hk.alloc _).alloc _).alloc _) | exact ((((hk.alloc _).alloc _).alloc _).alloc _) | exact (((((hk.alloc _).alloc _).alloc _).alloc _).alloc _) | exact ((((((hk.alloc _).alloc _).alloc _).alloc _).alloc _).alloc _)) hn)
      | fail)
    go_ret2
    exact ⟨by rw [Hs.out]; rfl, (by first | ((repeat (first | with_reducible exact hk | with_reducible refine Kept.alloc ?_ _ | with_reducible refine Kept.drew ?_ | with_reducible refine Kept.drewN ?_ _ | with_reducible refine Kept.set ?_ (by first | (simp; done) | (simp; omega) | omega) _)); done) | exact hk | exact (hk.alloc _) | exact ((hk.alloc _).alloc _) | exact (((hk.alloc _).alloc _).alloc _) | exact ((((hk.alloc _).alloc _).alloc _).alloc _) | exact (((((hk.alloc _).alloc _).alloc _).alloc _).alloc _) | exact ((((((hk.alloc _).alloc _).alloc _).alloc _).alloc _).alloc _) | (repeat (first | exact hk | refine Kept.alloc ?_ _ | refine Kept.drew ?_ | refine Kept.drewN ?_ _ | refine Kept.set ?_ (by first | (simp; done) | (simp; omega) | omega) _)))⟩
  all_goals
    have hs : percentS p o = (0, 100) := if_neg (by first | (rw [inB_false] at hp; omega) | simp [ho])
    have Hs := Lib.hid hs
    clear hs
    have hk : Kept w w := Kept.refl w
    go_enter Tryd.func93, Tryd.ntmps93
    go_wp2_with (first
      | (go_at_call 92; refine (unitMay_any _ _).mono ?_; rintro e w1 ⟨rfl, hn⟩; replace hk := Kept.trans (by first | ((repeat (first | with_reducible exact hk | with_reducible refine Kept.alloc ?_ _ | with_reducible refine Kept.drew ?_ | with_reducible refine Kept.drewN ?_ _ | with_reducible refine Kept.set ?_ (by first | (simp; done) | (simp; omega) | omega) _)); done) | exact hk | exact (hk.alloc _) | exact ((hk.alloc _).alloc _) | exact (((hk.alloc _).alloc _).alloc _) | exact ((((hk.alloc _).alloc _).alloc _).alloc _) | exact (((((hk.alloc _).alloc _).alloc _).alloc _).alloc _) | exact ((((((hk.alloc _).alloc _).alloc _).alloc _).alloc _).alloc _)) hn)
      | (go_at_call 29; refine (each1_any _ _ _ _ _ (cell_at _ _ _ _ _ _ (by simp) rfl)).mono ?_; rintro e w1 ⟨rfl, rfl⟩)
      | fail)
    go_ret2
    exact ⟨by rw [Hs.out]; rfl, (by first | ((repeat (first | with_reducible exact hk | with_reducible refine Kept.alloc ?_ _ | with_reducible refine Kept.drew ?_ | with_reducible refine Kept.drewN ?_ _ | with_reducible refine Kept.set ?_ (by first | (simp; done) | (simp; omega) | omega) _)); done) | exact hk | exact (hk.alloc _) | exact ((hk.alloc _).alloc _) | exact (((hk.alloc _).alloc _).alloc _) | exact ((((hk.alloc _).alloc _).alloc _).alloc _) | exact (((((hk.alloc _).alloc _).alloc _).alloc _).alloc _) | exact ((((((hk.alloc _).alloc _).alloc _).alloc _).alloc _).alloc _) | (repeat (first | exact hk | refine Kept.alloc ?_ _ | refine Kept.drew ?_ | refine Kept.drewN ?_ _ | refine Kept.set ?_ (by first | (simp; done) | (simp; omega) | omega) _)))⟩
end Go.Proofs.YtpblajjfgnhkdaaDoor
