/- Layer 6: how wide words are in one line; how far a line goes. -/
import Derived.Test.YtkonpnaedniceaaWordsMay
namespace Go.Proofs.Ytkonpnaedniceaa
open Go.RowKit
set_option linter.unusedSimpArgs false
set_option linter.unusedVariables false
/-- the words from f on, one and k more -/
def wid (A : Nat → Int) (f : Nat) : Nat → Int
  | 0 => A f
  | k + 1 => wid A f k + 256 + A (f + k + 1)
theorem wid_bounds {A : Nat → Int} {n f : Nat} (h : allB A n = true) : ∀ k, f + k < n → 0 ≤ wid A f k ∧ wid A f k ≤ 4194304 + 4194560 * (k : Int) := by
  intro k
  induction k with
  | zero => intro hk; have := allB_yes h f (by omega); unfold wid; omega
  | succ k ih =>
    intro hk
    have h1 := ih (by omega)
    have h2 := allB_yes h (f + k + 1) (by omega)
    unfold wid
    omega
theorem wid_mono {A : Nat → Int} {n f : Nat} (h : allB A n = true) : ∀ j k, j ≤ k → f + k < n → wid A f j ≤ wid A f k := by
  intro j k hjk
  induction k with
  | zero => intro _; obtain rfl : j = 0 := by omega
            exact Int.le_refl _
  | succ k ih =>
    intro hk
    rcases Nat.eq_or_lt_of_le hjk with rfl | hlt
    · exact Int.le_refl _
    · have h1 := ih (by omega) (by omega)
      have h2 := allB_yes h (f + k + 1) (by omega)
      rw [show wid A f (k + 1) = wid A f k + 256 + A (f + k + 1) from rfl]
      omega
/-- the line from f on takes K words more -/
structure IsK (A : Nat → Int) (n : Nat) (room : Int) (f K : Nat) : Prop where
  fits : ∀ j, j < K → wid A f (j + 1) ≤ room
  le : f + K + 1 ≤ n
  stop : f + K + 1 < n → room < wid A f (K + 1)
theorem IsK.unique {A : Nat → Int} {n : Nat} {room : Int} {f K L : Nat} (h : IsK A n room f K) (g : IsK A n room f L) : K = L := by
  rcases Nat.lt_trichotomy K L with h1 | h1 | h1
  · have := h.stop (by have := g.le; omega)
    have := g.fits K h1
    omega
  · exact h1
  · have := g.stop (by have := h.le; omega)
    have := h.fits L h1
    omega
theorem isK_from {A : Nat → Int} {n : Nat} {room : Int} {f : Nat} : ∀ d j, f + j + 1 + d = n → (∀ i, i < j → wid A f (i + 1) ≤ room) → ∃ K, IsK A n room f K := by
  intro d
  induction d with
  | zero => exact fun j hj hf => ⟨j, hf, by omega, fun h => by omega⟩
  | succ d ih =>
    intro j hj hf
    by_cases hw : wid A f (j + 1) ≤ room
    · refine ih (j + 1) (by omega) fun i hi => ?_
      rcases Nat.lt_or_ge i j with h1 | h1
      · exact hf i h1
      · obtain rfl : i = j := by omega
        exact hw
    · exact ⟨j, hf, by omega, fun _ => by omega⟩
theorem isK_some (A : Nat → Int) {n : Nat} (room : Int) {f : Nat} (h : f < n) : ∃ K, IsK A n room f K := isK_from (n - (f + 1)) 0 (by omega) (fun i hi => by omega)
/-- how many more, as a function -/
noncomputable def kS (A : Nat → Int) (n : Nat) (room : Int) (f : Nat) : Nat := open Classical in if h : ∃ K, IsK A n room f K then h.choose else 0
theorem kS_is (A : Nat → Int) {n : Nat} (room : Int) {f : Nat} (h : f < n) : IsK A n room f (kS A n room f) := by
  unfold kS
  rw [dif_pos (isK_some A room h)]
  exact (isK_some A room h).choose_spec
abbrev lineV (a b c : Int) : Value := .agg #[.int .i64 a, .int .i64 b, .int .i64 c]
end Go.Proofs.Ytkonpnaedniceaa
