/- Layer 20: items that grow by their factors, items that shrink to nothing: plainly. -/
import Derived.Test.YticnfoppdgeioaaSumS
namespace Go.Proofs.Yticnfoppdgeioaa
open Go.RowKit
set_option linter.unusedSimpArgs false
set_option linter.unusedVariables false
theorem sumW_const (b : Int) (n : Nat) : sumW (fun _ => b) n = n * b := by
  induction n with
  | zero => simp [sumW]
  | succ n ih => unfold sumW; rw [ih, Int.natCast_succ, Int.add_mul, Int.one_mul]
theorem sumW_sub (W V : Nat → Int) (n : Nat) : sumW (fun i => W i - V i) n = sumW W n - sumW V n := by
  induction n with
  | zero => rfl
  | succ n ih => unfold sumW; rw [ih]; omega
/-- items of one base that may grow without end -/
def grwI (b : Int) (G : Nat → Int) (i : Nat) : Item := ⟨b, 0, 1073741824, G i, 0, 0⟩
theorem grow_res {b r : Int} {G : Nat → Int} {n : Nat} (hb : 0 ≤ b ∧ b ≤ 63) (hG : ∀ i, i < n → 0 ≤ G i ∧ G i ≤ 7) (hr : 0 ≤ r ∧ r ≤ 8191) (hn : n ≤ 9) (i : Nat) (hi : i < n) :
    resS (grwI b G) r n i = if r - n * b ≤ 0 then b else b + shS (r - n * b) G n i := by
  have hw : ∀ i, wishS (grwI b G i) = b := by intro i; show max 0 (min b 1073741824) = b; omega
  have hsum : sumW (fun i => wishS (grwI b G i) + (grwI b G i).extra) n = n * b := by
    rw [← sumW_const]
    refine sumW_congr fun i _ => ?_
    rw [hw]; show b + 0 = b; omega
  have hgrow : growS (grwI b G) r n = decide ((n : Int) * b < r) := by unfold growS; rw [hsum]
  have hres : resS (grwI b G) r n = runS (growS (grwI b G) r n) (grwI b G) r n n (fun i => wishS (grwI b G i)) (firstF (growS (grwI b G) r n) (grwI b G)) := rfl
  by_cases h0 : r - n * b ≤ 0
  · rw [if_pos h0, hres, hgrow, decide_eq_false (by omega)]
    rw [runS_done (openS_zero.2 fun i _ => by unfold firstF; rw [if_neg (by decide)]; rfl)]
    exact hw i
  · rw [if_neg h0, hres, hgrow, decide_eq_true (by omega)]
    have hF : ∀ i, firstF true (grwI b G) i = (G i == 0) := by
      intro i
      unfold firstF
      rw [if_pos rfl, hw, decide_eq_false (show ¬ b < (grwI b G i).base from Int.lt_irrefl b), Bool.or_false]
      rfl
    have hW : wtS true (grwI b G) (firstF true (grwI b G)) = G := by
      funext i
      unfold wtS
      rw [hF]
      by_cases e : G i = 0
      · rw [e]; rfl
      · rw [if_neg (by simpa using e), if_pos rfl]; rfl
    have hfree : freeS true (grwI b G) (fun i => wishS (grwI b G i)) (firstF true (grwI b G)) r n = r - n * b := by
      unfold freeS
      have : sumW (ocS (grwI b G) (fun i => wishS (grwI b G i)) (firstF true (grwI b G))) n = n * b := by
        rw [← sumW_const]
        refine sumW_congr fun i _ => ?_
        unfold ocS
        dsimp only
        rw [hw]
        split
        · show 0 + b = b; omega
        · show 0 + b = b; omega
      rw [this, if_pos rfl]; omega
    have hH : partS true (grwI b G) (fun i => wishS (grwI b G i)) (firstF true (grwI b G)) r n = shS (r - n * b) G n := by unfold partS; rw [hfree, hW]
    have hbd := shS_bd (f := r - n * b) (W := G) (n := n) (fun i hi => (hG i hi).1) (by omega)
    have hnb : 0 ≤ (n : Int) * b := Int.mul_nonneg (by omega) hb.1
    have hsz : ∀ i, i < n → sizeS true (grwI b G) (shS (r - n * b) G n) i = b + shS (r - n * b) G n i ∧ overS true (grwI b G) (shS (r - n * b) G n) i = 0 := by
      intro i hi
      have h1 := hbd i hi
      have h2 : rawS true (grwI b G) (shS (r - n * b) G n) i = b + shS (r - n * b) G n i := rfl
      have h3 : sizeS true (grwI b G) (shS (r - n * b) G n) i = b + shS (r - n * b) G n i := by
        unfold sizeS
        rw [h2]
        show max 0 (max 0 (min _ 1073741824)) = _
        omega
      refine ⟨h3, ?_⟩
      unfold overS
      rw [h3, h2]; omega
    by_cases ho : openS (firstF true (grwI b G)) n = 0
    · rw [runS_done ho]
      have := openS_zero.1 ho i hi
      rw [hF] at this
      rw [hw, sh_zero (by simpa using this)]; omega
    · obtain ⟨m, rfl⟩ : ∃ m, n = m + 1 := ⟨n - 1, by omega⟩
      rw [one_round ho fun i hi _ hne => absurd (by rw [hH]; exact (hsz i hi).2) hne, hH]
      unfold nextS
      rw [hF]
      by_cases e : G i = 0
      · rw [if_pos (by simpa using e)]
        dsimp only
        rw [hw, sh_zero e]; omega
      · rw [if_neg (by simpa using e)]
        exact (hsz i hi).1
/-- what they are together -/
theorem grow_all {b r : Int} {G : Nat → Int} {n : Nat} (hb : 0 ≤ b ∧ b ≤ 63) (hG : ∀ i, i < n → 0 ≤ G i ∧ G i ≤ 7) (hr : 0 ≤ r ∧ r ≤ 8191) (hn : n ≤ 9) (hp : sumW G n ≠ 0) (hf : ¬ r - n * b ≤ 0) : sumW (resS (grwI b G) r n) n = r := by
  have : sumW (resS (grwI b G) r n) n = sumW (fun i => b + shS (r - n * b) G n i) n := sumW_congr fun i hi => by rw [grow_res hb hG hr hn i hi, if_neg hf]
  rw [this, sumW_add (fun _ => b), sumW_const, shS_sum hp]; omega
/-- items that may shrink to nothing -/
def shrI (B : Nat → Int) (i : Nat) : Item := ⟨B i, 0, 1073741824, 0, 1, 0⟩
theorem sh_le {f : Int} {W : Nat → Int} {n : Nat} (h : ∀ i, i < n → 0 ≤ W i) (hf : 0 ≤ f) (hfs : f ≤ sumW W n) (i : Nat) (hi : i < n) : shS f W n i ≤ W i := by
  by_cases hp : sumW W n = 0
  · unfold shS; rw [if_pos hp]; exact h i hi
  · have h1 := quS_floor h hf hp i (by omega)
    have h2 := quS_floor h hf hp (i + 1) (by omega)
    have hs : 0 < sumW W n := by have := (sumW_mono h n (Nat.le_refl _)).1; omega
    have e : f * sumW W (i + 1) = f * sumW W i + f * W i := by show f * (sumW W i + W i) = _; rw [Int.mul_add]
    have h3 : f * W i ≤ W i * sumW W n := by rw [Int.mul_comm (W i)]; exact Int.mul_le_mul_of_nonneg_right hfs (h i hi)
    unfold shS
    rw [if_neg hp]
    refine Classical.byContradiction fun hc => ?_
    have h4 : quS f W n i + W i + 1 ≤ quS f W n (i + 1) := by omega
    have h5 := Int.mul_le_mul_of_nonneg_right h4 (Int.le_of_lt hs)
    rw [Int.add_mul, Int.add_mul, Int.one_mul] at h5
    omega
theorem shrink_res {r : Int} {B : Nat → Int} {n : Nat} (hB : ∀ i, i < n → 0 ≤ B i ∧ B i ≤ 1023) (hr : 0 ≤ r ∧ r ≤ 4095) (hn : n ≤ 9) (i : Nat) (hi : i < n) :
    resS (shrI B) r n i = if sumW B n < r then B i else B i - shS (sumW B n - r) B n i := by
  have hw : ∀ i, i < n → wishS (shrI B i) = B i := by intro i hi; have := hB i hi; show max 0 (min (B i) 1073741824) = B i; omega
  have hsum : sumW (fun i => wishS (shrI B i) + (shrI B i).extra) n = sumW B n := by
    refine sumW_congr fun i hi => ?_
    rw [hw i hi]; show B i + 0 = B i; omega
  have hgrow : growS (shrI B) r n = decide (sumW B n < r) := by unfold growS; rw [hsum]
  have hres : resS (shrI B) r n = runS (growS (shrI B) r n) (shrI B) r n n (fun i => wishS (shrI B i)) (firstF (growS (shrI B) r n) (shrI B)) := rfl
  by_cases h0 : sumW B n < r
  · rw [if_pos h0, hres, hgrow, decide_eq_true h0]
    rw [runS_done (openS_zero.2 fun i _ => by unfold firstF; rw [if_pos rfl]; rfl)]
    exact hw i hi
  · rw [if_neg h0, hres, hgrow, decide_eq_false h0]
    have hF : ∀ i, i < n → firstF false (shrI B) i = false := by
      intro i hi
      unfold firstF
      rw [if_neg (by decide), hw i hi, decide_eq_false (show ¬ (shrI B i).base < B i from Int.lt_irrefl _), Bool.or_false]
      rfl
    have hW : ∀ i, i < n → wtS false (shrI B) (firstF false (shrI B)) i = B i := by
      intro i hi
      unfold wtS
      rw [hF i hi, if_neg (by decide), if_neg (by decide)]
      show 1 * B i = B i
      omega
    have hfree : freeS false (shrI B) (fun i => wishS (shrI B i)) (firstF false (shrI B)) r n = sumW B n - r := by
      unfold freeS
      have : sumW (ocS (shrI B) (fun i => wishS (shrI B i)) (firstF false (shrI B))) n = sumW B n := by
        refine sumW_congr fun i hi => ?_
        unfold ocS
        rw [hF i hi, if_neg (by decide)]
        show 0 + B i = B i; omega
      rw [this, if_neg (by decide)]; omega
    have hH : ∀ i, i < n → partS false (shrI B) (fun i => wishS (shrI B i)) (firstF false (shrI B)) r n i = shS (sumW B n - r) B n i := by
      intro i hi
      have e : ∀ k, k ≤ n → sumW (wtS false (shrI B) (firstF false (shrI B))) k = sumW B k := fun k hk => sumW_congr fun i hi => hW i (by omega)
      unfold partS
      rw [hfree]
      unfold shS quS
      rw [e n (Nat.le_refl _), e i (by omega), e (i + 1) (by omega)]
    have hle := sh_le (f := sumW B n - r) (W := B) (n := n) (fun i hi => (hB i hi).1) (by omega) (by omega)
    have hge := shS_bd (f := sumW B n - r) (W := B) (n := n) (fun i hi => (hB i hi).1) (by omega)
    have hsz : ∀ i, i < n → ∀ H : Nat → Int, H i = shS (sumW B n - r) B n i → sizeS false (shrI B) H i = B i - shS (sumW B n - r) B n i ∧ overS false (shrI B) H i = 0 := by
      intro i hi H hHi
      have h1 := hle i hi
      have h4 := (hge i hi).1
      have h5 := hB i hi
      have h2 : rawS false (shrI B) H i = B i - shS (sumW B n - r) B n i := by rw [← hHi]; rfl
      have h3 : sizeS false (shrI B) H i = B i - shS (sumW B n - r) B n i := by
        unfold sizeS
        rw [h2]
        show max 0 (max 0 (min _ 1073741824)) = _
        omega
      refine ⟨h3, ?_⟩
      unfold overS
      rw [h3, h2]; omega
    have ho : ¬ openS (firstF false (shrI B)) n = 0 := fun ho => by
      have := openS_zero.1 ho i hi
      rw [hF i hi] at this; cases this
    obtain ⟨m, rfl⟩ : ∃ m, n = m + 1 := ⟨n - 1, by omega⟩
    rw [one_round ho fun i hi _ hne => absurd (hsz i hi _ (hH i hi)).2 hne]
    unfold nextS
    rw [hF i hi, if_neg (by decide)]
    exact (hsz i hi _ (hH i hi)).1
theorem shrink_all {r : Int} {B : Nat → Int} {n : Nat} (hB : ∀ i, i < n → 0 ≤ B i ∧ B i ≤ 1023) (hr : 0 ≤ r ∧ r ≤ 4095) (hn : n ≤ 9) :
    (∀ i, i < n → 0 ≤ resS (shrI B) r n i ∧ resS (shrI B) r n i ≤ B i) ∧ sumW (resS (shrI B) r n) n = min (sumW B n) r := by
  by_cases h0 : sumW B n < r
  · have e : ∀ i, i < n → resS (shrI B) r n i = B i := fun i hi => by rw [shrink_res hB hr hn i hi, if_pos h0]
    refine ⟨fun i hi => ?_, ?_⟩
    · rw [e i hi]; have := hB i hi; omega
    · rw [sumW_congr e]; omega
  · have hle := sh_le (f := sumW B n - r) (W := B) (n := n) (fun i hi => (hB i hi).1) (by omega) (by omega)
    have hge := shS_bd (f := sumW B n - r) (W := B) (n := n) (fun i hi => (hB i hi).1) (by omega)
    have e : ∀ i, i < n → resS (shrI B) r n i = B i - shS (sumW B n - r) B n i := fun i hi => by rw [shrink_res hB hr hn i hi, if_neg h0]
    refine ⟨fun i hi => ?_, ?_⟩
    · rw [e i hi]; have := hle i hi; have := hge i hi; omega
    · rw [sumW_congr e, sumW_sub B]
      by_cases hp : sumW B n = 0
      · have hz : sumW (shS (sumW B n - r) B n) n = sumW (fun _ => 0) n := sumW_congr fun i _ => by unfold shS; rw [if_pos hp]
        rw [hz, sumW_const]; omega
      · rw [shS_sum hp]; omega
end Go.Proofs.Yticnfoppdgeioaa
