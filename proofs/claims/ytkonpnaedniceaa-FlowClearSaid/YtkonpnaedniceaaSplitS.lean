/- Layer 5: where the words of a text begin and end. -/
import Derived.Test.YtkonpnaedniceaaBase
namespace Go.Proofs.Ytkonpnaedniceaa
open Go.RowKit
set_option linter.unusedSimpArgs false
set_option linter.unusedVariables false
/-- the first place from i on that is m or where p doesn't hold -/
def runF (p : Nat → Bool) (m : Nat) : Nat → Nat → Nat
  | 0, i => i
  | f + 1, i => if i < m ∧ p i = true then runF p m f (i + 1) else i
def runS (p : Nat → Bool) (m i : Nat) : Nat := runF p m (m - i) i
theorem run_done {p : Nat → Bool} {m i : Nat} (h : m ≤ i ∨ p i = false) : runS p m i = i := by
  unfold runS
  cases hf : m - i with
  | zero => rfl
  | succ f => exact if_neg (by rintro ⟨h1, h2⟩; rcases h with h | h; omega; rw [h] at h2; cases h2)
theorem run_step {p : Nat → Bool} {m i : Nat} (h : i < m) (hp : p i = true) : runS p m i = runS p m (i + 1) := by
  unfold runS
  obtain ⟨f, hf⟩ : ∃ f, m - i = f + 1 := ⟨m - i - 1, by omega⟩
  rw [hf, show m - (i + 1) = f by omega]
  exact if_pos ⟨h, hp⟩
theorem run_bd (p : Nat → Bool) (m : Nat) : ∀ d i, m - i ≤ d → i ≤ runS p m i ∧ (i ≤ m → runS p m i ≤ m) := by
  intro d
  induction d with
  | zero => intro i hi; rw [run_done (.inl (by omega))]; exact ⟨Nat.le_refl _, id⟩
  | succ d ih =>
    intro i hi
    by_cases h : i < m
    · cases hp : p i with
      | true =>
        rw [run_step h hp]
        have := ih (i + 1) (by omega)
        exact ⟨by omega, fun _ => this.2 (by omega)⟩
      | false => rw [run_done (.inr hp)]; exact ⟨Nat.le_refl _, id⟩
    · rw [run_done (.inl (by omega))]; exact ⟨Nat.le_refl _, id⟩
theorem run_ge (p : Nat → Bool) (m i : Nat) : i ≤ runS p m i := (run_bd p m (m - i) i (Nat.le_refl _)).1
theorem run_le {p : Nat → Bool} {m i : Nat} (h : i ≤ m) : runS p m i ≤ m := (run_bd p m (m - i) i (Nat.le_refl _)).2 h
theorem run_more {p : Nat → Bool} {m i : Nat} (h : i < m) (hp : p i = true) : i < runS p m i := by
  rw [run_step h hp]; have := run_ge p m (i + 1); omega
/-- where it stops, p doesn't hold -/
theorem run_stop (p : Nat → Bool) (m : Nat) : ∀ d i, m - i ≤ d → runS p m i < m → p (runS p m i) = false := by
  intro d
  induction d with
  | zero => intro i hi h; have := run_ge p m i; omega
  | succ d ih =>
    intro i hi h
    by_cases h1 : i < m
    · cases hp : p i with
      | true => rw [run_step h1 hp] at h ⊢; exact ih (i + 1) (by omega) h
      | false => rw [run_done (.inr hp)]; exact hp
    · have := run_ge p m i; omega
/-- the words of a text of m bytes, sp tells the spaces: where word j begins, where it ends -/
def bW (sp : Nat → Bool) (m : Nat) : Nat → Nat
  | 0 => runS sp m 0
  | j + 1 => runS sp m (runS (fun k => !sp k) m (bW sp m j))
def eW (sp : Nat → Bool) (m : Nat) (j : Nat) : Nat := runS (fun k => !sp k) m (bW sp m j)
theorem bW_next (sp : Nat → Bool) (m j : Nat) : bW sp m (j + 1) = runS sp m (eW sp m j) := rfl
theorem bW_le (sp : Nat → Bool) (m : Nat) : ∀ j, bW sp m j ≤ m := by
  intro j
  induction j with
  | zero => exact run_le (Nat.zero_le _)
  | succ j ih => exact run_le (run_le ih)
theorem eW_le (sp : Nat → Bool) (m j : Nat) : eW sp m j ≤ m := run_le (bW_le sp m j)
theorem bW_word {sp : Nat → Bool} {m j : Nat} (h : bW sp m j < m) : bW sp m j < eW sp m j := by
  refine run_more h ?_
  cases j with
  | zero => have := run_stop sp m m 0 (by omega) h; simp only [bW]; rw [this]; rfl
  | succ j =>
    have := run_stop sp m m (eW sp m j) (by omega) h
    rw [bW_next, this]; rfl
theorem bW_ge (sp : Nat → Bool) (m j : Nat) : eW sp m j ≤ bW sp m (j + 1) := run_ge _ _ _
end Go.Proofs.Ytkonpnaedniceaa
