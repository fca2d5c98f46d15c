/- Layer 6: words as they may be. -/
import Derived.Test.YtbegdnpckjfgbaaOpenWords
import Derived.Test.YtbegdnpckjfgbaaBoxes
import Derived.Deep.QuietTactic
import Derived.BigQuiet
namespace Go.Proofs.Ytbegdnpckjfgbaa
open Go.RowKit
set_option linter.unusedSimpArgs false
set_option linter.unusedVariables false
def allB (A : Nat → Int) : Nat → Bool
  | 0 => true
  | n + 1 => allB A n && inB 0 4194304 (A n)
theorem allB_no {A : Nat → Int} {k n : Nat} (h : k < n) (hk : inB 0 4194304 (A k) = false) : allB A n = false := by
  induction n with
  | zero => omega
  | succ n ih =>
    unfold allB
    rcases Nat.lt_or_ge k n with h1 | h1
    · rw [ih h1]; rfl
    · obtain rfl : k = n := by omega
      rw [hk, Bool.and_false]
theorem allB_yes {A : Nat → Int} {n : Nat} (h : allB A n = true) : ∀ k, k < n → 0 ≤ A k ∧ A k ≤ 4194304 := by
  intro k hk
  cases hb : inB 0 4194304 (A k) with
  | true => exact inB_true.1 hb
  | false => rw [allB_no hk hb] at h; cases h
def mayW (n : Nat) (A : Nat → Int) : Bool := decide (n ≤ 80) && allB A n
theorem mayW_true {n : Nat} {A : Nat → Int} : mayW n A = true ↔ n ≤ 80 ∧ allB A n = true := by unfold mayW; rw [Bool.and_eq_true, decide_eq_true_eq]
end Go.Proofs.Ytbegdnpckjfgbaa
