/- Layer 17: what clears stands below those that it clears, wherever these are. -/
import Derived.Test.YtkonpnaedniceaaLaw17All
import Derived.Deep.QuietTactic
import Derived.BigQuiet
namespace Go.Proofs.Ytkonpnaedniceaa
open Go.RowKit Go.Deep
set_option linter.unusedSimpArgs false
set_option linter.unusedVariables false
theorem topS_all (E : Nat → Exc) (y : Int) : ∀ k, y ≤ topS E y k ∧ ∀ i, i < k → (E i).ab ≤ topS E y k := by
  intro k
  induction k with
  | zero => exact ⟨Int.le_refl _, fun i hi => by omega⟩
  | succ k ih =>
    have e : topS E y (k + 1) = max (topS E y k) (E k).ab := rfl
    rw [e]
    refine ⟨by omega, fun i hi => ?_⟩
    rcases Nat.lt_or_ge i k with h | h
    · have := ih.2 i h; omega
    · obtain rfl : i = k := by omega
      omega
theorem belowS_clears (E : Nat → Exc) (c : Int) : ∀ k i, i < k → clearsB c (E i).side = true → endS (E i) ≤ belowS E c k := by
  intro k
  induction k with
  | zero => intro i hi; omega
  | succ k ih =>
    intro i hi hc
    have e : belowS E c (k + 1) = if clearsB c (E k).side = true then max (belowS E c k) (endS (E k)) else belowS E c k := rfl
    rw [e]
    rcases Nat.lt_or_ge i k with h | h
    · have := ih i h hc
      split <;> omega
    · obtain rfl : i = k := by omega
      rw [if_pos hc]; omega
/-- a float is not above where it was asked, nor above one that stands, nor above the end of one that it clears -/
theorem placeY_low (E : Nat → Exc) (room : Int) (n : Nat) (y clear si sb : Int) : y ≤ placeY E room n y clear si sb ∧ (∀ i, i < n → (E i).ab ≤ placeY E room n y clear si sb) ∧ ∀ i, i < n → clearsB clear (E i).side = true → endS (E i) ≤ placeY E room n y clear si sb := by
  have h1 : startS E n y clear ≤ placeY E room n y clear si sb := (settle_ind (E := E) (room := room) (n := n) (si := si) (sb := sb) (fun _ => True) (fun _ _ _ _ _ => trivial) _ trivial).2.2
  have h2 := topS_all E (max y (belowS E clear n)) n
  unfold startS at h1
  exact ⟨by omega, fun i hi => by have := h2.2 i hi; omega, fun i hi hc => by have := belowS_clears E clear n i hi hc; omega⟩
end Go.Proofs.Ytkonpnaedniceaa
