/- Layer 11: kids, plainly: which they are; of a tree each beginning is one. -/
import Derived.Test.YtpblajjfgnhkdaaDoorAwake11
namespace Go.Proofs.YtpblajjfgnhkdaaDoor
open Go.RowKit
set_option linter.unusedSimpArgs false
set_option linter.unusedVariables false
theorem kidN_mono (N : Nat → Nd) (a : Int) {i k : Nat} (h : i ≤ k) : kidN N a i ≤ kidN N a k := by
  induction k with
  | zero => obtain rfl : i = 0 := by omega
            exact Nat.le_refl _
  | succ k ih =>
    rcases Nat.lt_or_ge i (k + 1) with h1 | h1
    · have := ih (by omega)
      show _ ≤ kidN N a k + _
      omega
    · obtain rfl : i = k + 1 := by omega
      exact Nat.le_refl _
theorem kidN_more {N : Nat → Nd} {a : Int} {i k : Nat} (h : i < k) (hp : (N i).parent = a) : kidN N a i < kidN N a k := by
  have h1 : kidN N a (i + 1) = kidN N a i + 1 := by show kidN N a i + (if (N i).parent = a then 1 else 0) = _; rw [if_pos hp]
  have := kidN_mono N a (show i + 1 ≤ k by omega)
  omega
/-- the kid of number j -/
theorem kid_at {N : Nat → Nd} {a : Int} : ∀ {k j : Nat}, j < kidN N a k → ∃ i, i < k ∧ kidZ N a k j = (i : Int) ∧ (N i).parent = a ∧ kidN N a i = j := by
  intro k
  induction k with
  | zero => intro j h; exact absurd h (Nat.not_lt_zero _)
  | succ k ih =>
    intro j h
    by_cases hp : (N k).parent = a ∧ j = kidN N a k
    · obtain ⟨h1, rfl⟩ := hp
      exact ⟨k, by omega, kidZ_new h1, h1, rfl⟩
    · have hj : j < kidN N a k := by
        have h2 : kidN N a (k + 1) = kidN N a k + (if (N k).parent = a then 1 else 0) := rfl
        by_cases h3 : (N k).parent = a
        · rw [if_pos h3] at h2
          have : ¬ j = kidN N a k := fun e => hp ⟨h3, e⟩
          omega
        · rw [if_neg h3] at h2; omega
      obtain ⟨i, h1, h2, h3, h4⟩ := ih hj
      exact ⟨i, by omega, by rw [kidZ_step N a k j hj]; exact h2, h3, h4⟩
theorem kid_uniq {N : Nat → Nd} {a : Int} {i i' : Nat} (h : (N i).parent = a) (h' : (N i').parent = a) (e : kidN N a i = kidN N a i') : i = i' := by
  rcases Nat.lt_trichotomy i i' with h1 | h1 | h1
  · have := kidN_more h1 h; omega
  · exact h1
  · have := kidN_more h1 h'; omega
theorem kidZ_of {N : Nat → Nd} {a : Int} {i k : Nat} (h : i < k) (hp : (N i).parent = a) : kidZ N a k (kidN N a i) = (i : Int) := by
  obtain ⟨i', h1, h2, h3, h4⟩ := kid_at (kidN_more h hp)
  rw [h2, kid_uniq h3 hp h4]
/-- a beginning's kids -/
theorem kidZ_less {N : Nat → Nd} {a : Int} {m k j : Nat} (hm : m ≤ k) (hj : j < kidN N a m) : kidZ N a k j = kidZ N a m j := by
  obtain ⟨i, h1, h2, h3, h4⟩ := kid_at hj
  rw [h2, ← h4, kidZ_of (by omega) h3]
theorem kidZ_low {N : Nat → Nd} {a : Int} {m j : Nat} (hj : j < kidN N a m) : 0 ≤ kidZ N a m j ∧ kidZ N a m j < (m : Int) := by
  obtain ⟨i, h1, h2, h3, h4⟩ := kid_at hj
  omega
theorem kidZ_high {N : Nat → Nd} {a : Int} {m k j : Nat} (h1 : kidN N a m ≤ j) (h2 : j < kidN N a k) : (m : Int) ≤ kidZ N a k j ∧ kidZ N a k j < (k : Int) := by
  obtain ⟨i, h3, h4, h5, h6⟩ := kid_at h2
  have : m ≤ i := by
    rcases Nat.lt_or_ge i m with h7 | h7
    · have := kidN_more h7 h5; omega
    · exact h7
  omega
/-- each beginning of a tree is one -/
theorem tree_less {N : Nat → Nd} {n k : Nat} (h : treeB N n = true) (h1 : 1 ≤ k) (hk : k ≤ n) : treeB N k = true := by
  obtain ⟨h2, h3, h4, h5⟩ := treeB_true.1 h
  exact treeB_true.2 ⟨by omega, nodesB_of fun i hi => nodesB_at h3 i (by omega), h4, linksB_of fun i h0 hi => linksB_at h5 i h0 (by omega)⟩
theorem good_of {N : Nat → Nd} {n i : Nat} (h : treeB N n = true) (hi : i < n) : goodT N n (i : Int) = true := by
  unfold goodT
  rw [h, inB_true.2 ⟨by omega, by omega⟩]; rfl
end Go.Proofs.YtpblajjfgnhkdaaDoor
