/- Layer 20: where no item stands at its least or at its greatest one, and one has a factor, sizes and extras are the room. -/
import Derived.Test.YticnfoppdgeioaaFlexSum
namespace Go.Proofs.Yticnfoppdgeioaa
open Go.RowKit
set_option linter.unusedSimpArgs false
set_option linter.unusedVariables false
/-- what is frozen stays -/
theorem run_frozen {g : Bool} {I : Nat → Item} {room : Int} {n i : Nat} : ∀ (m : Nat) (S : Nat → Int) (F : Nat → Bool), F i = true → runS g I room n m S F i = S i := by
  intro m
  induction m with
  | zero => intro S F _; rfl
  | succ m ih =>
    intro S F h
    unfold runS
    split
    · rfl
    · rw [ih _ _ (by unfold nextF; rw [h]; rfl)]
      unfold nextS
      rw [if_pos h]
/-- between the least and the greatest one -/
def MidS (I : Nat → Item) (S : Nat → Int) (n : Nat) : Prop := ∀ i, i < n → 0 ≤ S i ∧ (I i).min ≤ S i ∧ S i ≤ max (I i).min (I i).max
theorem size_mid {g : Bool} {x : Nat → Item} {H : Nat → Int} {i : Nat} (h : itemB (x i) = true) : 0 ≤ sizeS g x H i ∧ (x i).min ≤ sizeS g x H i ∧ sizeS g x H i ≤ max (x i).min (x i).max := by
  have h1 := itemB_parts h
  unfold sizeS clampS
  omega
theorem wish_mid {x : Item} (h : itemB x = true) : 0 ≤ wishS x ∧ x.min ≤ wishS x ∧ wishS x ≤ max x.min x.max := by
  have h1 := itemB_parts h
  unfold wishS clampS
  omega
theorem run_mid {g : Bool} {I : Nat → Item} {room : Int} {n : Nat} (hI : ∀ i, i < n → itemB (I i) = true) : ∀ (m : Nat) (S : Nat → Int) (F : Nat → Bool), MidS I S n → MidS I (runS g I room n m S F) n := by
  intro m
  induction m with
  | zero => intro S F h; exact h
  | succ m ih =>
    intro S F h
    unfold runS
    split
    · exact h
    · refine ih _ _ fun i hi => ?_
      unfold nextS
      split
      · exact h i hi
      · exact size_mid (hI i hi)
theorem res_mid {I : Nat → Item} {room : Int} {n : Nat} (hI : ∀ i, i < n → itemB (I i) = true) : MidS I (resS I room n) n :=
  run_mid hI _ _ _ fun i hi => wish_mid (hI i hi)
/-- where all rounds but one are none -/
theorem one_round {g : Bool} {I : Nat → Item} {room : Int} {n : Nat} {S : Nat → Int} {F : Nat → Bool} {m : Nat} (h0 : ¬ openS F n = 0)
    (hc : ∀ i, i < n → F i = false → overS g I (partS g I S F room n) i ≠ 0 → runS g I room n (m + 1) S F i ≠ sizeS g I (partS g I S F room n) i) :
    runS g I room n (m + 1) S F = nextS g I S F (partS g I S F room n) := by
  have hstep : runS g I room n (m + 1) S F = runS g I room n m (nextS g I S F (partS g I S F room n)) (nextF g I F (partS g I S F room n) n) := by
    rw [runS, if_neg h0]
  have hz : sumW (moreS g I F (partS g I S F room n)) n = 0 := by
    refine Classical.byContradiction fun hne => ?_
    have hx : ∃ i, i < n ∧ F i = false ∧ overS g I (partS g I S F room n) i ≠ 0 ∧ nextF g I F (partS g I S F room n) n i = true := by
      rcases Int.lt_trichotomy (sumW (moreS g I F (partS g I S F room n)) n) 0 with h1 | h1 | h1
      · obtain ⟨i, hi, h2⟩ := some_neg h1
        cases hF : F i with
        | true => unfold moreS at h2; rw [if_pos hF] at h2; omega
        | false =>
          unfold moreS at h2
          rw [hF, if_neg (by decide)] at h2
          exact ⟨i, hi, hF, by omega, by unfold nextF hitS; rw [decide_eq_true h1, decide_eq_true h2]; simp⟩
      · exact absurd h1 hne
      · obtain ⟨i, hi, h2⟩ := some_pos h1
        cases hF : F i with
        | true => unfold moreS at h2; rw [if_pos hF] at h2; omega
        | false =>
          unfold moreS at h2
          rw [hF, if_neg (by decide)] at h2
          exact ⟨i, hi, hF, by omega, by unfold nextF hitS; rw [decide_eq_true h1, decide_eq_true h2]; simp⟩
    obtain ⟨i, hi, hF, ho, hn⟩ := hx
    refine hc i hi hF ho ?_
    rw [hstep, run_frozen _ _ _ hn]
    unfold nextS
    rw [hF, if_neg (by decide)]
  rw [hstep]
  exact runS_done (openS_zero.2 fun i hi => by unfold nextF hitS; rw [hz]; simp)
theorem sh_zero {f : Int} {W : Nat → Int} {n i : Nat} (h : W i = 0) : shS f W n i = 0 := by
  unfold shS
  split
  · rfl
  · have : sumW W (i + 1) = sumW W i := by show sumW W i + W i = _; omega
    unfold quS
    rw [this]; omega
theorem sum_zero {W : Nat → Int} : ∀ {n : Nat}, (∀ i, i < n → 0 ≤ W i) → sumW W n = 0 → ∀ i, i < n → W i = 0 := by
  intro n
  induction n with
  | zero => intro _ _ i hi; omega
  | succ n ih =>
    intro h h0 i hi
    have h1 := (sumW_mono (n := n) (fun i hi => h i (by omega)) n (Nat.le_refl _)).1
    have h2 := h n (by omega)
    have h3 : sumW W n + W n = 0 := h0
    rcases Nat.lt_or_ge i n with h4 | h4
    · exact ih (fun i hi => h i (by omega)) (by omega) i h4
    · obtain rfl : i = n := by omega
      omega
theorem sumW_neg (W : Nat → Int) (n : Nat) : sumW (fun i => - W i) n = - sumW W n := by
  induction n with
  | zero => rfl
  | succ n ih => unfold sumW; rw [ih]; omega
/-- by what an item turns at all -/
def facS (g : Bool) (x : Item) : Int := if g = true then x.grow else x.shrink * x.base
theorem sum_main {I : Nat → Item} {room : Int} {n : Nat} (hI : ∀ i, i < n → itemB (I i) = true)
    (hc : ∀ i, i < n → resS I room n i ≠ (I i).min ∧ resS I room n i ≠ (I i).max ∧ resS I room n i ≠ 0) (hfix : ∃ i, i < n ∧ facS (growS I room n) (I i) ≠ 0) :
    sumW (fun i => resS I room n i + (I i).extra) n = room := by
  have hmid := res_mid (room := room) hI
  obtain ⟨g, hg⟩ : ∃ g, growS I room n = g := ⟨_, rfl⟩
  have hgrow : (g = true ↔ sumW (fun i => wishS (I i) + (I i).extra) n < room) := by rw [← hg]; unfold growS; simp
  rw [hg] at hfix
  have hres : resS I room n = runS g I room n n (fun i => wishS (I i)) (firstF g I) := by unfold resS; rw [hg]
  generalize hR : resS I room n = R at *
  -- what is frozen at first stands where it stood, and has no factor
  have hfirst : ∀ i, i < n → firstF g I i = true → R i = (I i).base ∧ facS g (I i) = 0 := by
    intro i hi hF
    have h1 : R i = wishS (I i) := by rw [hres, run_frozen _ _ _ hF]
    have h2 := hc i hi
    have h3 := itemB_parts (hI i hi)
    have hb : wishS (I i) = (I i).base := by unfold wishS clampS at h1 ⊢; omega
    refine ⟨by omega, ?_⟩
    unfold firstF at hF
    unfold facS
    cases g with
    | true =>
      rw [if_pos rfl] at hF ⊢
      simp at hF
      omega
    | false =>
      rw [if_neg (by decide)] at hF ⊢
      simp at hF
      rcases hF with h | h
      · rw [h, Int.zero_mul]
      · omega
  have hopen : ¬ openS (firstF g I) n = 0 := by
    intro h0
    obtain ⟨i, hi, hne⟩ := hfix
    exact hne (hfirst i hi (openS_zero.1 h0 i hi)).2
  obtain ⟨m, rfl⟩ : ∃ m, n = m + 1 := by
    obtain ⟨i, hi, _⟩ := hfix
    exact ⟨n - 1, by omega⟩
  obtain ⟨H, hH⟩ : ∃ H, partS g I (fun i => wishS (I i)) (firstF g I) room (m + 1) = H := ⟨_, rfl⟩
  have hone : R = nextS g I (fun i => wishS (I i)) (firstF g I) H := by
    rw [hres, ← hH]
    refine one_round hopen fun i hi hF ho => ?_
    rw [hH] at ho ⊢
    rw [← hres]
    intro e
    have h1 := hc i hi
    have h2 := itemB_parts (hI i hi)
    rw [e] at h1
    unfold overS at ho
    unfold sizeS clampS at h1 ho
    omega
  -- the weights
  obtain ⟨W, hW⟩ : ∃ W, wtS g I (firstF g I) = W := ⟨_, rfl⟩
  have hW0 : ∀ i, i < m + 1 → 0 ≤ W i := fun i hi => by rw [← hW]; exact (wtS_bd hI i hi).1
  have hWf : ∀ i, i < m + 1 → W i = facS g (I i) := by
    intro i hi
    rw [← hW]
    unfold wtS
    cases hF : firstF g I i with
    | true => rw [if_pos rfl, (hfirst i hi hF).2]
    | false => rw [if_neg (by decide)]; rfl
  have hp : sumW W (m + 1) ≠ 0 := by
    intro h0
    obtain ⟨i, hi, hne⟩ := hfix
    exact hne (by rw [← hWf i hi]; exact sum_zero hW0 h0 i hi)
  obtain ⟨f, hf⟩ : ∃ f, freeS g I (fun i => wishS (I i)) (firstF g I) room (m + 1) = f := ⟨_, rfl⟩
  have hHs : H = shS f W (m + 1) := by rw [← hH]; unfold partS; rw [hf, hW]
  have hsum : sumW H (m + 1) = f := by rw [hHs]; exact shS_sum hp
  -- each size: its base, and its share
  have heach : ∀ i, i < m + 1 → R i = if g = true then (I i).base + H i else (I i).base - H i := by
    intro i hi
    have h1 := hc i hi
    have h2 := hmid i hi
    have h3 := itemB_parts (hI i hi)
    cases hF : firstF g I i with
    | true =>
      have h4 := (hfirst i hi hF).1
      have h5 : H i = 0 := by rw [hHs]; exact sh_zero (by rw [hWf i hi]; exact (hfirst i hi hF).2)
      rw [h4, h5]
      split <;> omega
    | false =>
      have h4 : R i = sizeS g I H i := by rw [hone]; unfold nextS; rw [hF, if_neg (by decide)]
      have h5 : R i = rawS g I H i := by
        rw [h4] at h1 h2 ⊢
        unfold sizeS clampS at h1 h2 ⊢
        omega
      rw [h5]; rfl
  have hoc : sumW (ocS I (fun i => wishS (I i)) (firstF g I)) (m + 1) = sumW (fun i => (I i).base + (I i).extra) (m + 1) := by
    refine sumW_congr fun i hi => ?_
    unfold ocS
    cases hF : firstF g I i with
    | true =>
      have h4 := (hfirst i hi hF).1
      have h1 : R i = wishS (I i) := by rw [hres, run_frozen _ _ _ hF]
      rw [if_pos rfl]
      dsimp only
      omega
    | false => rw [if_neg (by decide)]; omega
  obtain ⟨T, hT⟩ : ∃ T, sumW (fun i => (I i).base + (I i).extra) (m + 1) = T := ⟨_, rfl⟩
  have hfree : f = max 0 (if g = true then room - T else -(room - T)) := by rw [← hf]; unfold freeS; rw [hoc, hT]
  have hfn : 0 ≤ f := by rw [hfree]; omega
  -- were nothing free, all would stand as they wish
  have hwish : f = 0 → sumW (fun i => wishS (I i) + (I i).extra) (m + 1) = T := by
    intro h0
    rw [← hT]
    refine sumW_congr fun i hi => ?_
    have h1 := hc i hi
    have h2 := hmid i hi
    have h3 := itemB_parts (hI i hi)
    have h4 := heach i hi
    have h5 : H i = 0 := by
      have := shS_bd (f := f) hW0 hfn i hi
      rw [hHs]; omega
    have h6 : R i = (I i).base := by rw [h4, h5]; split <;> omega
    have : wishS (I i) = (I i).base := by unfold wishS clampS; omega
    show wishS (I i) + (I i).extra = (I i).base + (I i).extra
    omega
  have hall : sumW (fun i => R i + (I i).extra) (m + 1) = if g = true then T + f else T - f := by
    cases g with
    | true =>
      rw [if_pos rfl, ← hT, ← hsum, ← sumW_add]
      refine sumW_congr fun i hi => ?_
      have h4 := heach i hi
      rw [if_pos rfl] at h4
      show R i + (I i).extra = (I i).base + (I i).extra + H i
      omega
    | false =>
      rw [if_neg (by decide), ← hT, ← hsum]
      have : (sumW (fun i => (I i).base + (I i).extra) (m + 1)) - sumW H (m + 1) = sumW (fun i => ((I i).base + (I i).extra) + - H i) (m + 1) := by
        rw [sumW_add (fun i => (I i).base + (I i).extra) (fun i => - H i), sumW_neg]; omega
      rw [this]
      refine sumW_congr fun i hi => ?_
      have h4 := heach i hi
      rw [if_neg (by decide)] at h4
      show R i + (I i).extra = (I i).base + (I i).extra + - H i
      omega
  rw [hall]
  by_cases h0 : f = 0
  · have h1 := hwish h0
    rw [h1] at hgrow
    cases g with
    | true =>
      rw [if_pos rfl] at hfree ⊢
      have := hgrow.1 rfl
      omega
    | false =>
      rw [if_neg (by decide)] at hfree ⊢
      have : ¬ T < room := fun h => by have := hgrow.2 h; cases this
      omega
  · cases g with
    | true => rw [if_pos rfl] at hfree ⊢; omega
    | false => rw [if_neg (by decide)] at hfree ⊢; omega
end Go.Proofs.Yticnfoppdgeioaa
