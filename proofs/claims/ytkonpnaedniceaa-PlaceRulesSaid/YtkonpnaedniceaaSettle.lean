/- Layer 17: the first place at which a float fits. -/
import Derived.Test.YtkonpnaedniceaaAnyE
namespace Go.Proofs.Ytkonpnaedniceaa
open Go.RowKit Go.Deep
set_option linter.unusedSimpArgs false
set_option linter.unusedVariables false
/-- how many end behind y -/
def cntE (E : Nat → Exc) (y : Int) : Nat → Nat
  | 0 => 0
  | n + 1 => cntE E y n + (if y < endS (E n) then 1 else 0)
theorem cntE_le (E : Nat → Exc) (y : Int) (n : Nat) : cntE E y n ≤ n := by
  induction n with
  | zero => exact Nat.le_refl _
  | succ n ih => unfold cntE; split <;> omega
theorem cntE_mono (E : Nat → Exc) {y z : Int} (h : y ≤ z) (n : Nat) : cntE E z n ≤ cntE E y n := by
  induction n with
  | zero => exact Nat.le_refl _
  | succ n ih =>
    unfold cntE
    by_cases h1 : z < endS (E n)
    · rw [if_pos h1, if_pos (by omega)]; omega
    · rw [if_neg h1]; omega
theorem cntE_less {E : Nat → Exc} {y z : Int} {n k : Nat} (h : y ≤ z) (hk : k < n) (h1 : y < endS (E k)) (h2 : endS (E k) ≤ z) : cntE E z n < cntE E y n := by
  induction n with
  | zero => omega
  | succ n ih =>
    unfold cntE
    rcases Nat.lt_or_ge k n with h3 | h3
    · have := ih h3
      by_cases h4 : z < endS (E n)
      · rw [if_pos h4, if_pos (by omega)]; omega
      · rw [if_neg h4]; split <;> omega
    · obtain rfl : k = n := by omega
      have := cntE_mono E h k
      rw [if_pos h1, if_neg (by omega)]; omega
/-- the next end behind y: there is one, it is one of them, none lies between -/
theorem nextS_is {E : Nat → Exc} {y : Int} : ∀ n, (∃ k, k < n ∧ y < endS (E k)) → (nextS E y n).2 = true ∧ y < (nextS E y n).1 ∧ (∃ k, k < n ∧ (nextS E y n).1 = endS (E k)) ∧ ∀ k, k < n → y < endS (E k) → (nextS E y n).1 ≤ endS (E k) := by
  intro n
  induction n with
  | zero => rintro ⟨k, hk, _⟩; omega
  | succ n ih =>
    intro hex
    have e : nextS E y (n + 1) = if nextB y (endS (E n)) (nextS E y n).1 (nextS E y n).2 = true then (endS (E n), true) else nextS E y n := rfl
    by_cases hold : ∃ k, k < n ∧ y < endS (E k)
    · obtain ⟨h1, h2, ⟨k, hk, h3⟩, h4⟩ := ih hold
      rw [e]
      by_cases hn : nextB y (endS (E n)) (nextS E y n).1 (nextS E y n).2 = true
      · rw [if_pos hn]
        unfold nextB at hn
        simp only [Bool.and_eq_true, decide_eq_true_eq, Bool.or_eq_true, h1] at hn
        have hlt : endS (E n) < (nextS E y n).1 := by rcases hn.2 with h | h; cases h; exact h
        refine ⟨rfl, hn.1, ⟨n, by omega, rfl⟩, fun j hj hjy => ?_⟩
        rcases Nat.lt_or_ge j n with h5 | h5
        · have := h4 j h5 hjy; dsimp only; omega
        · obtain rfl : j = n := by omega
          exact Int.le_refl _
      · rw [if_neg hn]
        refine ⟨h1, h2, ⟨k, by omega, h3⟩, fun j hj hjy => ?_⟩
        rcases Nat.lt_or_ge j n with h5 | h5
        · exact h4 j h5 hjy
        · obtain rfl : j = n := by omega
          unfold nextB at hn
          simp only [Bool.and_eq_true, decide_eq_true_eq, Bool.or_eq_true, h1] at hn
          have := fun h => hn ⟨hjy, .inr h⟩
          omega
    · have hno : nextS E y n = (0, false) := by
        clear ih e hex
        induction n with
        | zero => rfl
        | succ m ihm =>
          have := ihm fun ⟨k, hk, h⟩ => hold ⟨k, by omega, h⟩
          rw [show nextS E y (m + 1) = if nextB y (endS (E m)) (nextS E y m).1 (nextS E y m).2 = true then (endS (E m), true) else nextS E y m from rfl, this, if_neg]
          unfold nextB
          rw [decide_eq_false (fun h => hold ⟨m, by omega, h⟩)]
          simp
      obtain ⟨k, hk, hky⟩ := hex
      have hkn : k = n := by
        rcases Nat.lt_or_ge k n with h | h
        · exact absurd ⟨k, h, hky⟩ hold
        · omega
      subst hkn
      rw [e, if_pos (by unfold nextB; rw [decide_eq_true hky, hno]; rfl)]
      refine ⟨rfl, hky, ⟨k, by omega, rfl⟩, fun j hj hjy => ?_⟩
      rcases Nat.lt_or_ge j k with h5 | h5
      · exact absurd ⟨j, h5, hjy⟩ hold
      · obtain rfl : j = k := by omega
        exact Int.le_refl _
theorem anyE_ends {E : Nat → Exc} {y h : Int} {n : Nat} (ha : anyE E y h n = true) : ∃ k, k < n ∧ y < endS (E k) := by
  obtain ⟨k, hk, hm⟩ := anyE_some ha
  unfold meetsB at hm
  simp only [Bool.and_eq_true, decide_eq_true_eq] at hm
  exact ⟨k, hk, hm.2⟩
theorem next_less {E : Nat → Exc} {y h : Int} {n : Nat} (ha : anyE E y h n = true) : cntE E (nextS E y n).1 n < cntE E y n := by
  obtain ⟨_, h2, ⟨k, hk, h3⟩, _⟩ := nextS_is n (anyE_ends ha)
  exact cntE_less (Int.le_of_lt h2) hk (by rw [← h3]; exact h2) (by rw [h3]; exact Int.le_refl _)
/-- does a float of a size fit at y? -/
def fitsB (E : Nat → Exc) (room : Int) (n : Nat) (si sb y : Int) : Bool := decide (si ≤ max (bandS E room y sb n).1 (bandS E room y sb n).2 - (bandS E room y sb n).1) || !anyE E y sb n
theorem fits_any {E : Nat → Exc} {room : Int} {n : Nat} {si sb y : Int} (h : fitsB E room n si sb y = false) : anyE E y sb n = true := by
  unfold fitsB at h
  simp only [Bool.or_eq_false_iff, Bool.not_eq_false'] at h
  exact h.2
/-- the first place from y on, where f steps are enough -/
def stepS (E : Nat → Exc) (room : Int) (n : Nat) (si sb : Int) : Nat → Int → Int
  | 0, y => y
  | f + 1, y => if fitsB E room n si sb y = true then y else stepS E room n si sb f (nextS E y n).1
def settleS (E : Nat → Exc) (room : Int) (n : Nat) (si sb y : Int) : Int := stepS E room n si sb (cntE E y n) y
theorem step_fits {E : Nat → Exc} {room : Int} {n : Nat} {si sb y : Int} (h : fitsB E room n si sb y = true) (f : Nat) : stepS E room n si sb f y = y := by
  cases f with
  | zero => rfl
  | succ f => rw [show stepS E room n si sb (f + 1) y = if fitsB E room n si sb y = true then y else stepS E room n si sb f (nextS E y n).1 from rfl, if_pos h]
theorem step_not {E : Nat → Exc} {room : Int} {n : Nat} {si sb y : Int} (h : fitsB E room n si sb y = false) (f : Nat) : stepS E room n si sb (f + 1) y = stepS E room n si sb f (nextS E y n).1 := by
  rw [show stepS E room n si sb (f + 1) y = if fitsB E room n si sb y = true then y else stepS E room n si sb f (nextS E y n).1 from rfl, if_neg (by simp [h])]
theorem step_eq (E : Nat → Exc) (room : Int) (n : Nat) (si sb : Int) : ∀ f g y, cntE E y n ≤ f → cntE E y n ≤ g → stepS E room n si sb f y = stepS E room n si sb g y := by
  intro f
  induction f with
  | zero =>
    intro g y h1 h2
    cases hf : fitsB E room n si sb y with
    | true => rw [step_fits hf, step_fits hf]
    | false => have := next_less (fits_any hf); omega
  | succ f ih =>
    intro g y h1 h2
    cases hf : fitsB E room n si sb y with
    | true => rw [step_fits hf, step_fits hf]
    | false =>
      have := next_less (fits_any hf)
      obtain ⟨g, rfl⟩ : ∃ c, g = c + 1 := ⟨g - 1, by omega⟩
      rw [step_not hf, step_not hf]
      exact ih g _ (by omega) (by omega)
theorem settle_fits {E : Nat → Exc} {room : Int} {n : Nat} {si sb y : Int} (h : fitsB E room n si sb y = true) : settleS E room n si sb y = y := step_fits h _
theorem settle_not {E : Nat → Exc} {room : Int} {n : Nat} {si sb y : Int} (h : fitsB E room n si sb y = false) : settleS E room n si sb y = settleS E room n si sb (nextS E y n).1 := by
  have hl := next_less (fits_any h)
  unfold settleS
  obtain ⟨c, hc⟩ : ∃ c, cntE E y n = c + 1 := ⟨cntE E y n - 1, by omega⟩
  rw [hc, step_not h]
  exact step_eq E room n si sb _ _ _ (by omega) (Nat.le_refl _)
/-- what holds at y and at each end holds where it is settled; it fits there; it is not above y -/
theorem settle_ind {E : Nat → Exc} {room : Int} {n : Nat} {si sb : Int} (P : Int → Prop) (hP : ∀ y, P y → (nextS E y n).2 = true → y < (nextS E y n).1 → (∃ k, k < n ∧ (nextS E y n).1 = endS (E k)) → P (nextS E y n).1) :
    ∀ y, P y → P (settleS E room n si sb y) ∧ fitsB E room n si sb (settleS E room n si sb y) = true ∧ y ≤ settleS E room n si sb y := by
  have key : ∀ c y, cntE E y n ≤ c → P y → P (settleS E room n si sb y) ∧ fitsB E room n si sb (settleS E room n si sb y) = true ∧ y ≤ settleS E room n si sb y := by
    intro c
    induction c with
    | zero =>
      intro y hc hp
      cases hf : fitsB E room n si sb y with
      | true => rw [settle_fits hf]; exact ⟨hp, hf, Int.le_refl _⟩
      | false => have := next_less (fits_any hf); omega
    | succ c ih =>
      intro y hc hp
      cases hf : fitsB E room n si sb y with
      | true => rw [settle_fits hf]; exact ⟨hp, hf, Int.le_refl _⟩
      | false =>
        have hl := next_less (fits_any hf)
        obtain ⟨h1, h2, h3, _⟩ := nextS_is n (anyE_ends (fits_any hf))
        rw [settle_not hf]
        obtain ⟨a, b, d⟩ := ih (nextS E y n).1 (by omega) (hP y hp h1 h2 h3)
        exact ⟨a, b, by omega⟩
  exact fun y hp => key _ y (Nat.le_refl _) hp
end Go.Proofs.Ytkonpnaedniceaa
