/- The document's answers of layer 1. -/
import Derived.Test.YtlhhejgmgagbnaaDoorUnit
namespace Go.Proofs.YtlhhejgmgagbnaaDoor
open Go.RowKit
theorem refMay_any (x : Int) (w : World) :
    Calls Tryd.prog 36 #[.int .i64 x] w fun e w' => e = .returned (.bool (mayB x)) ∧ w = w' := by
  by_cases h1 : -1073741824 ≤ x
  · skip
    go_enter Tryd.func36, Tryd.ntmps36
    go_wp2
    go_ret
    exact ⟨ret_bool (by unfold mayB; simp [h1]), rfl⟩
  · have h2 : x < -1073741824 := by omega
    go_enter Tryd.func36, Tryd.ntmps36
    go_wp2
    go_ret
    exact ⟨ret_bool (by unfold mayB; simp; omega), rfl⟩
theorem refFloor_any (x c : Int) (w : World) (h1 : -4611686018427387904 ≤ x) (h2 : x ≤ 4611686018427387904) (h3 : 1 ≤ c) (h4 : c ≤ 4611686018427387904) :
    Calls Tryd.prog 76 #[.int .i64 x, .int .i64 c] w fun e w' => e = .returned (.int .i64 (x / c)) ∧ w = w' := by
  have hf := floor_div x c h3
  have Hf := Lib.hid hf
  clear hf
  obtain ⟨h5, h6⟩ := tdiv_bd x c h1 h2
  go_enter Tryd.func76, Tryd.ntmps76
  go_wp2
  · have h7 : x.tmod c < 0 := by assumption
    go_ret
    exact ⟨ret_int (by rw [Hf.out, if_pos h7]), rfl⟩
  · have h7 : 0 ≤ x.tmod c := by assumption
    go_ret
    exact ⟨ret_int (by rw [Hf.out, if_neg (by omega)]), rfl⟩
theorem refMulDiv_any (a b c : Int) (w : World) :
    Calls Tryd.prog 58 #[.int .i64 a, .int .i64 b, .int .i64 c] w fun e w' => e = .returned (.tuple #[.int .i64 (mulDivS a b c).1, .int .i64 (mulDivS a b c).2]) ∧ w = w' := by
  cases ha : mayB a <;> cases hb : mayB b <;> cases hc : mayB c
  case true.true.true =>
    have h1 := mayB_true.1 ha
    have h2 := mayB_true.1 hb
    have h3 := mayB_true.1 hc
    have h4 := mul_bd h1 h2
    by_cases h5 : c < 1
    · have hs : mulDivS a b c = (0, 100) := if_neg (by omega)
      have Hs := Lib.hid hs
      clear hs
      go_enter Tryd.func58, Tryd.ntmps58
      go_wp2_with (first
        | (go_at_call 36; refine (refMay_any _ _).mono ?_; rintro e w1 ⟨rfl, rfl⟩)
        | fail)
      go_ret2
      exact ⟨by rw [Hs.out]; rfl, rfl⟩
    · have hs : mulDivS a b c = smallS (a * b / c) := if_pos ⟨ha, hb, hc, by omega⟩
      have Hs := Lib.hid hs
      clear hs
      cases hd : mayB (a * b / c)
      all_goals
        have Hd := Lib.hid hd
        go_enter Tryd.func58, Tryd.ntmps58
        go_wp2_with (first
          | (go_at_call 36; refine (refMay_any _ _).mono ?_; rintro e w1 ⟨rfl, rfl⟩)
          | (go_at_call 76; refine (refFloor_any _ _ _ (by omega) (by omega) (by omega) (by omega)).mono ?_; rintro e w1 ⟨rfl, rfl⟩)
          | fail)
        go_ret2
        exact ⟨by rw [Hs.out]; unfold smallS; rw [Hd.out]; rfl, rfl⟩
  all_goals
    have hs : mulDivS a b c = (0, 100) := if_neg (by simp [ha, hb, hc])
    have Hs := Lib.hid hs
    clear hs
    go_enter Tryd.func58, Tryd.ntmps58
    go_wp2_with (first
      | (go_at_call 36; refine (refMay_any _ _).mono ?_; rintro e w1 ⟨rfl, rfl⟩)
      | fail)
    go_ret2
    exact ⟨by rw [Hs.out]; rfl, rfl⟩
theorem refPercent_any (p o : Int) (w : World) :
    Calls Tryd.prog 37 #[.int .i64 p, .int .i64 o] w fun e w' => e = .returned (.tuple #[.int .i64 (percentS p o).1, .int .i64 (percentS p o).2]) ∧ w = w' := by
  cases ho : mayB o
  case true =>
    by_cases h1 : p < -100
    · have hs : percentS p o = (0, 100) := if_neg (by omega)
      have Hs := Lib.hid hs
      clear hs
      go_enter Tryd.func37, Tryd.ntmps37
      go_wp2_with (first
        | (go_at_call 36; refine (refMay_any _ _).mono ?_; rintro e w1 ⟨rfl, rfl⟩)
        | fail)
      go_ret2
      exact ⟨by rw [Hs.out]; rfl, rfl⟩
    · by_cases h2 : 100 < p
      · have hs : percentS p o = (0, 100) := if_neg (by omega)
        have Hs := Lib.hid hs
        clear hs
        go_enter Tryd.func37, Tryd.ntmps37
        go_wp2_with (first
          | (go_at_call 36; refine (refMay_any _ _).mono ?_; rintro e w1 ⟨rfl, rfl⟩)
          | fail)
        go_ret2
        exact ⟨by rw [Hs.out]; rfl, rfl⟩
      · have hs : percentS p o = mulDivS o p 100 := if_pos ⟨ho, by omega, by omega⟩
        have Hs := Lib.hid hs
        clear hs
        go_enter Tryd.func37, Tryd.ntmps37
        go_wp2_with (first
          | (go_at_call 36; refine (refMay_any _ _).mono ?_; rintro e w1 ⟨rfl, rfl⟩)
          | (go_at_call 58; refine (refMulDiv_any _ _ _ _).mono ?_; rintro e w1 ⟨rfl, rfl⟩)
          | fail)
        go_ret2
        exact ⟨by rw [Hs.out]; rfl, rfl⟩
  case false =>
    have hs : percentS p o = (0, 100) := if_neg (by simp [ho])
    have Hs := Lib.hid hs
    clear hs
    go_enter Tryd.func37, Tryd.ntmps37
    go_wp2_with (first
      | (go_at_call 36; refine (refMay_any _ _).mono ?_; rintro e w1 ⟨rfl, rfl⟩)
      | fail)
    go_ret2
    exact ⟨by rw [Hs.out]; rfl, rfl⟩
end Go.Proofs.YtlhhejgmgagbnaaDoor
