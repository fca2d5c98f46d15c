/- Layer 20: how long each item of a line is: plainly. -/
import Derived.Test.YticnfoppdgeioaaColS
namespace Go.Proofs.Yticnfoppdgeioaa
open Go.RowKit
set_option linter.unusedSimpArgs false
set_option linter.unusedVariables false
/-- the sum of the first n -/
def sumW (W : Nat → Int) : Nat → Int
  | 0 => 0
  | n + 1 => sumW W n + W n
theorem sumW_bd {W : Nat → Int} {a b : Int} : ∀ {n : Nat}, (∀ i, i < n → a ≤ W i ∧ W i ≤ b) → a * n ≤ sumW W n ∧ sumW W n ≤ b * n := by
  intro n
  induction n with
  | zero => intro _; simp [sumW]
  | succ n ih =>
    intro h
    have h1 := ih fun i hi => h i (by omega)
    have h2 := h n (by omega)
    unfold sumW
    rw [Int.natCast_succ, Int.mul_add, Int.mul_add, Int.mul_one, Int.mul_one]
    omega
theorem sumW_mono {W : Nat → Int} {n : Nat} (h : ∀ i, i < n → 0 ≤ W i) : ∀ k, k ≤ n → 0 ≤ sumW W k ∧ ∀ m, k ≤ m → m ≤ n → sumW W k ≤ sumW W m := by
  have h0 : ∀ k, k ≤ n → 0 ≤ sumW W k := by
    intro k
    induction k with
    | zero => intro _; simp [sumW]
    | succ k ih => intro hk; have h1 := ih (by omega); have h2 := h k (by omega); unfold sumW; omega
  intro k hk
  refine ⟨h0 k hk, fun m => ?_⟩
  induction m with
  | zero => intro hm _; obtain rfl : k = 0 := by omega
            exact Int.le_refl _
  | succ m ih =>
    intro hm hm2
    rcases Nat.lt_or_ge k (m + 1) with h1 | h1
    · have h2 := ih (by omega) (by omega)
      have h3 := h m (by omega)
      have e : sumW W (m + 1) = sumW W m + W m := rfl
      omega
    · obtain rfl : k = m + 1 := by omega
      exact Int.le_refl _
theorem sumW_congr {W V : Nat → Int} : ∀ {n : Nat}, (∀ i, i < n → W i = V i) → sumW W n = sumW V n := by
  intro n
  induction n with
  | zero => intro _; rfl
  | succ n ih => intro h; unfold sumW; rw [ih fun i hi => h i (by omega), h n (by omega)]
/-- what the first k of n have of f, by weights -/
def quS (f : Int) (W : Nat → Int) (n k : Nat) : Int := (f * sumW W k).tdiv (sumW W n)
def shS (f : Int) (W : Nat → Int) (n i : Nat) : Int := if sumW W n = 0 then 0 else quS f W n (i + 1) - quS f W n i
theorem quS_bd {f : Int} {W : Nat → Int} {n : Nat} (h : ∀ i, i < n → 0 ≤ W i) (hf : 0 ≤ f) (hp : sumW W n ≠ 0) : ∀ k, k ≤ n → (0 ≤ quS f W n k ∧ quS f W n k ≤ f) ∧ ∀ m, k ≤ m → m ≤ n → quS f W n k ≤ quS f W n m := by
  intro k hk
  obtain ⟨h1, h2⟩ := sumW_mono h k hk
  have h3 := h2 n hk (Nat.le_refl _)
  have hs : 0 < sumW W n := by omega
  have e : ∀ m, m ≤ n → quS f W n m = (f * sumW W m) / sumW W n := by
    intro m hm
    unfold quS
    rw [Int.tdiv_eq_ediv_of_nonneg (Int.mul_nonneg hf (sumW_mono h m hm).1)]
  rw [e k hk]
  refine ⟨⟨Int.ediv_nonneg (Int.mul_nonneg hf h1) (Int.le_of_lt hs), ?_⟩, fun m hm hm2 => ?_⟩
  · have h4 : f * sumW W k ≤ f * sumW W n := Int.mul_le_mul_of_nonneg_left h3 hf
    have h5 := Int.ediv_le_ediv hs h4
    rwa [Int.mul_ediv_cancel _ hp] at h5
  · rw [e m hm2]
    exact Int.ediv_le_ediv hs (Int.mul_le_mul_of_nonneg_left (h2 m hm hm2) hf)
theorem quS_zero (f : Int) (W : Nat → Int) (n : Nat) : quS f W n 0 = 0 := by unfold quS sumW; simp
theorem quS_all {f : Int} {W : Nat → Int} {n : Nat} (hp : sumW W n ≠ 0) : quS f W n n = f := by unfold quS; exact Int.mul_tdiv_cancel _ hp
theorem shS_bd {f : Int} {W : Nat → Int} {n : Nat} (h : ∀ i, i < n → 0 ≤ W i) (hf : 0 ≤ f) (i : Nat) (hi : i < n) : 0 ≤ shS f W n i ∧ shS f W n i ≤ f := by
  unfold shS
  split
  · omega
  · rename_i hp
    have h1 := (quS_bd h hf hp i (by omega)).2 (i + 1) (by omega) (by omega)
    have h2 := (quS_bd h hf hp i (by omega)).1
    have h3 := (quS_bd h hf hp (i + 1) (by omega)).1
    omega
/-- by what an item that is not frozen shares -/
def wtS (g : Bool) (I : Nat → Item) (F : Nat → Bool) (i : Nat) : Int := if F i = true then 0 else if g = true then (I i).grow else (I i).shrink * (I i).base
theorem wtS_bd {g : Bool} {I : Nat → Item} {F : Nat → Bool} {n : Nat} (h : ∀ i, i < n → itemB (I i) = true) (i : Nat) (hi : i < n) : 0 ≤ wtS g I F i ∧ wtS g I F i ≤ 419430400 := by
  have h1 := itemB_parts (h i hi)
  unfold wtS
  split
  · omega
  · split
    · omega
    · have h2 := Int.mul_nonneg h1.2.2.2.2.1.1 h1.1.1
      have h3 : (I i).shrink * (I i).base ≤ 100 * 4194304 := Int.mul_le_mul h1.2.2.2.2.1.2 h1.1.2 h1.1.1 (by decide)
      omega
/-- what an item takes of the room -/
def ocS (I : Nat → Item) (S : Nat → Int) (F : Nat → Bool) (i : Nat) : Int := (I i).extra + if F i = true then S i else (I i).base
def freeS (g : Bool) (I : Nat → Item) (S : Nat → Int) (F : Nat → Bool) (room : Int) (n : Nat) : Int := max 0 (if g = true then room - sumW (ocS I S F) n else -(room - sumW (ocS I S F) n))
def mostS (g : Bool) : Int := if g = true then 536870912 else 4194304
/-- sizes as they may be under way -/
def OkS (g : Bool) (S : Nat → Int) (n : Nat) : Prop := ∀ i, i < n → 0 ≤ S i ∧ S i ≤ mostS g
theorem ocS_bd {g : Bool} {I : Nat → Item} {S : Nat → Int} {F : Nat → Bool} {n : Nat} (h : ∀ i, i < n → itemB (I i) = true) (hS : OkS g S n) (i : Nat) (hi : i < n) : -4194304 ≤ ocS I S F i ∧ ocS I S F i ≤ 4194304 + mostS g := by
  have h1 := itemB_parts (h i hi)
  have h2 := hS i hi
  have h3 : (4194304 : Int) ≤ mostS g := by unfold mostS; split <;> omega
  unfold ocS
  split <;> omega
theorem freeS_bd {g : Bool} {I : Nat → Item} {S : Nat → Int} {F : Nat → Bool} {n : Nat} {room : Int} (h : ∀ i, i < n → itemB (I i) = true) (hS : OkS g S n) (hn : n ≤ 32) (hr : 0 ≤ room ∧ room ≤ 4194304) : 0 ≤ freeS g I S F room n ∧ freeS g I S F room n ≤ 268435456 := by
  have h1 := sumW_bd (fun i hi => ocS_bd (F := F) h hS i hi)
  unfold freeS
  unfold mostS at h1
  cases g with
  | true => rw [if_pos rfl] at h1 ⊢; omega
  | false => rw [if_neg (by decide)] at h1 ⊢; omega
def rawS (g : Bool) (I : Nat → Item) (H : Nat → Int) (i : Nat) : Int := if g = true then (I i).base + H i else (I i).base - H i
def sizeS (g : Bool) (I : Nat → Item) (H : Nat → Int) (i : Nat) : Int := max 0 (clampS (rawS g I H i) (I i).min (I i).max)
def overS (g : Bool) (I : Nat → Item) (H : Nat → Int) (i : Nat) : Int := sizeS g I H i - rawS g I H i
def moreS (g : Bool) (I : Nat → Item) (F : Nat → Bool) (H : Nat → Int) (i : Nat) : Int := if F i = true then 0 else overS g I H i
def nextS (g : Bool) (I : Nat → Item) (S : Nat → Int) (F : Nat → Bool) (H : Nat → Int) (i : Nat) : Int := if F i = true then S i else sizeS g I H i
def hitS (t x : Int) : Bool := t == 0 || (decide (0 < t) && decide (0 < x)) || (decide (t < 0) && decide (x < 0))
def nextF (g : Bool) (I : Nat → Item) (F : Nat → Bool) (H : Nat → Int) (n i : Nat) : Bool := F i || hitS (sumW (moreS g I F H) n) (overS g I H i)
/-- how many are not frozen -/
def openS (F : Nat → Bool) : Nat → Nat
  | 0 => 0
  | n + 1 => openS F n + if F n = true then 0 else 1
theorem openS_le (F : Nat → Bool) (n : Nat) : openS F n ≤ n := by
  induction n with
  | zero => exact Nat.le_refl _
  | succ n ih => unfold openS; split <;> omega
theorem openS_zero {F : Nat → Bool} : ∀ {n : Nat}, openS F n = 0 ↔ ∀ i, i < n → F i = true := by
  intro n
  induction n with
  | zero => simp [openS]
  | succ n ih =>
    unfold openS
    constructor
    · intro h i hi
      rcases Nat.lt_or_ge i n with h1 | h1
      · exact ih.1 (by omega) i h1
      · obtain rfl : i = n := by omega
        cases hF : F i with
        | true => rfl
        | false => rw [hF] at h; simp at h
    · intro h
      rw [ih.2 fun i hi => h i (by omega), if_pos (h n (by omega))]
theorem openS_less {F G : Nat → Bool} (hm : ∀ i, F i = true → G i = true) : ∀ {n : Nat}, openS G n ≤ openS F n ∧ ((∃ i, i < n ∧ F i = false ∧ G i = true) → openS G n < openS F n) := by
  intro n
  induction n with
  | zero => exact ⟨Nat.le_refl _, fun ⟨i, hi, _⟩ => by omega⟩
  | succ n ih =>
    obtain ⟨h1, h2⟩ := ih
    unfold openS
    cases hF : F n with
    | true => rw [hm n hF]; refine ⟨by simpa using h1, fun ⟨i, hi, a, b⟩ => ?_⟩
              have : i < n := by
                rcases Nat.lt_or_ge i n with h3 | h3
                · exact h3
                · obtain rfl : i = n := by omega
                  rw [hF] at a; cases a
              have := h2 ⟨i, this, a, b⟩
              simpa using this
    | false =>
      cases hG : G n with
      | true => refine ⟨by simp; omega, fun _ => by simp; omega⟩
      | false =>
        refine ⟨by simp; omega, fun ⟨i, hi, a, b⟩ => ?_⟩
        have : i < n := by
          rcases Nat.lt_or_ge i n with h3 | h3
          · exact h3
          · obtain rfl : i = n := by omega
            rw [hG] at b; cases b
        have := h2 ⟨i, this, a, b⟩
        simp; omega
theorem some_pos {W : Nat → Int} : ∀ {n : Nat}, 0 < sumW W n → ∃ i, i < n ∧ 0 < W i := by
  intro n
  induction n with
  | zero => intro h; simp [sumW] at h
  | succ n ih =>
    intro h
    unfold sumW at h
    by_cases h1 : 0 < W n
    · exact ⟨n, by omega, h1⟩
    · obtain ⟨i, hi, h2⟩ := ih (by omega)
      exact ⟨i, by omega, h2⟩
theorem some_neg {W : Nat → Int} : ∀ {n : Nat}, sumW W n < 0 → ∃ i, i < n ∧ W i < 0 := by
  intro n
  induction n with
  | zero => intro h; simp [sumW] at h
  | succ n ih =>
    intro h
    unfold sumW at h
    by_cases h1 : W n < 0
    · exact ⟨n, by omega, h1⟩
    · obtain ⟨i, hi, h2⟩ := ih (by omega)
      exact ⟨i, by omega, h2⟩
/-- each round freezes one at least -/
theorem next_less {g : Bool} {I : Nat → Item} {F : Nat → Bool} {H : Nat → Int} {n : Nat} (h : 0 < openS F n) : openS (nextF g I F H n) n < openS F n := by
  refine (openS_less (G := nextF g I F H n) (fun i hi => by unfold nextF; rw [hi]; rfl)).2 ?_
  rcases Int.lt_trichotomy (sumW (moreS g I F H) n) 0 with h1 | h1 | h1
  · obtain ⟨i, hi, h2⟩ := some_neg h1
    cases hF : F i with
    | true => unfold moreS at h2; rw [if_pos hF] at h2; omega
    | false =>
      unfold moreS at h2
      rw [hF, if_neg (by decide)] at h2
      exact ⟨i, hi, hF, by unfold nextF hitS; rw [decide_eq_true h1, decide_eq_true h2]; simp⟩
  · have : ∃ i, i < n ∧ F i = false := by
      refine Classical.byContradiction fun hc => ?_
      have : openS F n = 0 := openS_zero.2 fun i hi => by
        cases hF : F i with
        | true => rfl
        | false => exact absurd ⟨i, hi, hF⟩ hc
      omega
    obtain ⟨i, hi, hF⟩ := this
    exact ⟨i, hi, hF, by unfold nextF hitS; rw [h1]; simp⟩
  · obtain ⟨i, hi, h2⟩ := some_pos h1
    cases hF : F i with
    | true => unfold moreS at h2; rw [if_pos hF] at h2; omega
    | false =>
      unfold moreS at h2
      rw [hF, if_neg (by decide)] at h2
      exact ⟨i, hi, hF, by unfold nextF hitS; rw [decide_eq_true h1, decide_eq_true h2]; simp⟩
/-- shares of what is free -/
def partS (g : Bool) (I : Nat → Item) (S : Nat → Int) (F : Nat → Bool) (room : Int) (n : Nat) : Nat → Int := shS (freeS g I S F room n) (wtS g I F) n
/-- rounds till all are frozen -/
def runS (g : Bool) (I : Nat → Item) (room : Int) (n : Nat) : Nat → (Nat → Int) → (Nat → Bool) → Nat → Int
  | 0, S, _ => S
  | m + 1, S, F => if openS F n = 0 then S else runS g I room n m (nextS g I S F (partS g I S F room n)) (nextF g I F (partS g I S F room n) n)
theorem runS_done {g : Bool} {I : Nat → Item} {room : Int} {n m : Nat} {S : Nat → Int} {F : Nat → Bool} (h : openS F n = 0) : runS g I room n m S F = S := by
  cases m with
  | zero => rfl
  | succ m => unfold runS; rw [if_pos h]
def growS (I : Nat → Item) (room : Int) (n : Nat) : Bool := decide (sumW (fun i => wishS (I i) + (I i).extra) n < room)
def firstF (g : Bool) (I : Nat → Item) (i : Nat) : Bool := if g = true then (I i).grow == 0 || decide (wishS (I i) < (I i).base) else (I i).shrink == 0 || decide ((I i).base < wishS (I i))
/-- the sizes -/
def resS (I : Nat → Item) (room : Int) (n : Nat) : Nat → Int := runS (growS I room n) I room n n (fun i => wishS (I i)) (firstF (growS I room n) I)
theorem part_bd {g : Bool} {I : Nat → Item} {S : Nat → Int} {F : Nat → Bool} {room : Int} {n : Nat} (h : ∀ i, i < n → itemB (I i) = true) (hS : OkS g S n) (hn : n ≤ 32) (hr : 0 ≤ room ∧ room ≤ 4194304) (i : Nat) (hi : i < n) : 0 ≤ partS g I S F room n i ∧ partS g I S F room n i ≤ 268435456 := by
  have h1 := freeS_bd (F := F) h hS hn hr
  have h2 := shS_bd (W := wtS g I F) (fun i hi => (wtS_bd h i hi).1) h1.1 i hi
  unfold partS
  omega
theorem size_bd {g : Bool} {I : Nat → Item} {H : Nat → Int} {i : Nat} (h : itemB (I i) = true) (hH : 0 ≤ H i ∧ H i ≤ 268435456) : (0 ≤ sizeS g I H i ∧ sizeS g I H i ≤ mostS g) ∧ (-268435456 ≤ rawS g I H i ∧ rawS g I H i ≤ 272629760) ∧ -272629760 ≤ overS g I H i ∧ overS g I H i ≤ 272629760 := by
  have h1 := itemB_parts h
  unfold overS sizeS rawS clampS mostS
  cases g with
  | true => rw [if_pos rfl, if_pos rfl]; omega
  | false => rw [if_neg (by decide), if_neg (by decide)]; omega
theorem next_ok {g : Bool} {I : Nat → Item} {S : Nat → Int} {F : Nat → Bool} {H : Nat → Int} {n : Nat} (h : ∀ i, i < n → itemB (I i) = true) (hS : OkS g S n) (hH : ∀ i, i < n → 0 ≤ H i ∧ H i ≤ 268435456) : OkS g (nextS g I S F H) n := by
  intro i hi
  unfold nextS
  split
  · exact hS i hi
  · exact (size_bd (h i hi) (hH i hi)).1
theorem wish_ok {g : Bool} {I : Nat → Item} {n : Nat} (h : ∀ i, i < n → itemB (I i) = true) : OkS g (fun i => wishS (I i)) n := by
  intro i hi
  have := wishS_bd (h i hi)
  unfold mostS
  dsimp only
  split <;> omega
end Go.Proofs.Yticnfoppdgeioaa
