/- Layer 20: shares, plainly: they are f together; each is by its weight, but for one unit. -/
import Derived.Test.YticnfoppdgeioaaFlexS
namespace Go.Proofs.Yticnfoppdgeioaa
open Go.RowKit
set_option linter.unusedSimpArgs false
set_option linter.unusedVariables false
theorem sumW_add (W V : Nat → Int) (n : Nat) : sumW (fun i => W i + V i) n = sumW W n + sumW V n := by
  induction n with
  | zero => rfl
  | succ n ih => unfold sumW; rw [ih]; omega
theorem shS_upto {f : Int} {W : Nat → Int} {n : Nat} (hp : sumW W n ≠ 0) (k : Nat) : sumW (shS f W n) k = quS f W n k := by
  induction k with
  | zero => rw [quS_zero]; rfl
  | succ k ih =>
    show sumW (shS f W n) k + shS f W n k = _
    rw [ih]
    unfold shS
    rw [if_neg hp]
    omega
/-- the shares are f together -/
theorem shS_sum {f : Int} {W : Nat → Int} {n : Nat} (hp : sumW W n ≠ 0) : sumW (shS f W n) n = f := by rw [shS_upto hp, quS_all hp]
theorem quS_floor {f : Int} {W : Nat → Int} {n : Nat} (h : ∀ i, i < n → 0 ≤ W i) (hf : 0 ≤ f) (hp : sumW W n ≠ 0) (k : Nat) (hk : k ≤ n) : quS f W n k * sumW W n ≤ f * sumW W k ∧ f * sumW W k < quS f W n k * sumW W n + sumW W n := by
  have hs : 0 < sumW W n := by have := (sumW_mono h n (Nat.le_refl _)).1; omega
  have e : quS f W n k = (f * sumW W k) / sumW W n := by
    unfold quS
    rw [Int.tdiv_eq_ediv_of_nonneg (Int.mul_nonneg hf (sumW_mono h k hk).1)]
  rw [e]
  have h1 := Int.emod_add_mul_ediv (f * sumW W k) (sumW W n)
  have h2 := Int.emod_nonneg (f * sumW W k) hp
  have h3 := Int.emod_lt_of_pos (f * sumW W k) hs
  have h4 : sumW W n * ((f * sumW W k) / sumW W n) = (f * sumW W k) / sumW W n * sumW W n := Int.mul_comm _ _
  omega
/-- each share is by its weight, but for one unit -/
theorem shS_near {f : Int} {W : Nat → Int} {n : Nat} (h : ∀ i, i < n → 0 ≤ W i) (hf : 0 ≤ f) (hp : sumW W n ≠ 0) (i : Nat) (hi : i < n) : shS f W n i * sumW W n ≤ f * W i + sumW W n ∧ f * W i - sumW W n ≤ shS f W n i * sumW W n := by
  have h1 := quS_floor h hf hp i (by omega)
  have h2 := quS_floor h hf hp (i + 1) (by omega)
  have e : f * sumW W (i + 1) = f * sumW W i + f * W i := by show f * (sumW W i + W i) = _; rw [Int.mul_add]
  have e2 : shS f W n i * sumW W n = quS f W n (i + 1) * sumW W n - quS f W n i * sumW W n := by unfold shS; rw [if_neg hp, Int.sub_mul]
  rw [e2]
  omega
end Go.Proofs.Yticnfoppdgeioaa
