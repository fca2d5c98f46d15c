/- Layer 1: numbers that stay small: the program's functions and the document's, each by what it comes to. -/
import Derived.Test.YtkonpnaedniceaaEach
namespace Go.Proofs.Ytkonpnaedniceaa
open Go.RowKit
def mayB (x : Int) : Bool := decide (-1073741824 ≤ x ∧ x ≤ 1073741824)
theorem mayB_true {x : Int} : mayB x = true ↔ -1073741824 ≤ x ∧ x ≤ 1073741824 := by unfold mayB; simp
theorem mayB_false {x : Int} : mayB x = false ↔ x < -1073741824 ∨ 1073741824 < x := by unfold mayB; simp; omega
theorem mayB_in (x : Int) : mayB x = inB (-1073741824) 1073741824 x := rfl
theorem unitMay_any (x : Int) (w : World) :
    Calls Try.prog 16 #[.int .i64 x] w fun e w' => e = .returned (.bool (mayB x)) ∧ Kept w w' := by
  go_enter Try.func16, Try.ntmps16
  go_wp2_with (first
    | (go_at_call 15; refine (each1_any _ _ _ _ _ (cell_at _ _ _ _ _ _ (by simp) rfl)).mono ?_; rintro e w1 ⟨rfl, rfl⟩)
    | fail)
  go_ret
  exact ⟨rfl, (Kept.refl _).alloc _⟩
/-- a number, if it may be -/
def smallS (x : Int) : Int × Int := if mayB x = true then (x, 0) else (0, 101)
theorem floor_div (x c : Int) (hc : 1 ≤ c) : x / c = if x.tmod c < 0 then x.tdiv c - 1 else x.tdiv c := by
  have h3 := Int.emod_nonneg x (show c ≠ 0 by omega)
  have h4 := Int.emod_lt_of_pos x (show 0 < c by omega)
  have h5 : c.sign = 1 := Int.sign_eq_one_of_pos (by omega)
  rw [Int.tmod_eq_emod, Int.tdiv_eq_ediv, h5]
  by_cases h : 0 ≤ x ∨ c ∣ x
  · rw [if_pos h, if_pos h, if_neg (by omega)]; omega
  · rw [if_neg h, if_neg h, if_pos (by omega)]; omega
theorem tdiv_bd (x c : Int) (h1 : -4611686018427387904 ≤ x) (h2 : x ≤ 4611686018427387904) : -4611686018427387904 ≤ x.tdiv c ∧ x.tdiv c ≤ 4611686018427387904 := by
  have h := Int.natAbs_tdiv x c
  have h' := Nat.div_le_self x.natAbs c.natAbs
  have : (x.tdiv c).natAbs ≤ x.natAbs := by rw [h]; exact h'
  omega
def addS (a b : Int) : Int × Int := if mayB a = true ∧ mayB b = true then smallS (a + b) else (0, 100)
def mulDivS (a b c : Int) : Int × Int := if mayB a = true ∧ mayB b = true ∧ mayB c = true ∧ 1 ≤ c then smallS (a * b / c) else (0, 100)
theorem mul_bd {a b : Int} (h1 : -1073741824 ≤ a ∧ a ≤ 1073741824) (h2 : -1073741824 ≤ b ∧ b ≤ 1073741824) : -1152921504606846976 ≤ a * b ∧ a * b ≤ 1152921504606846976 := by
  have h : (a * b).natAbs ≤ 1073741824 * 1073741824 := by rw [Int.natAbs_mul]; exact Nat.mul_le_mul (by omega) (by omega)
  omega
def percentS (p o : Int) : Int × Int := if mayB o = true ∧ -100 ≤ p ∧ p ≤ 100 then mulDivS o p 100 else (0, 100)
end Go.Proofs.Ytkonpnaedniceaa
