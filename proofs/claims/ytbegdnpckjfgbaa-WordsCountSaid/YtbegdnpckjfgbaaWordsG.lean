/- Layer 5: texts that are put together word by word. -/
import Derived.Test.YtbegdnpckjfgbaaWordsB
namespace Go.Proofs.Ytbegdnpckjfgbaa
open Go.RowKit Go.Lib
set_option linter.unusedSimpArgs false
set_option linter.unusedVariables false
def spS (n : Nat) : ByteArray := strOfNums (List.replicate n 32)
theorem spS_size (n : Nat) : (spS n).size = n := by unfold spS; rw [strOfNums_size]; simp
theorem byteAt_append (a b : ByteArray) (i : Nat) : byteAt (a ++ b) i = if i < a.size then byteAt a i else byteAt b (i - a.size) := by
  have e : (a ++ b).data = a.data ++ b.data := ByteArray.data_append
  have hs : a.data.size = a.size := rfl
  have hs2 : b.data.size = b.size := rfl
  unfold byteAt
  show ((a ++ b).data[i]!).toNat = if i < a.size then (a.data[i]!).toNat else (b.data[i - a.size]!).toNat
  rw [e]
  split
  · rename_i h
    rw [getElem!_pos (a.data ++ b.data) i (by simp; omega), getElem!_pos a.data i (by omega), Array.getElem_append_left]
  · rename_i h
    rcases Nat.lt_or_ge i (a.data.size + b.data.size) with h1 | h1
    · rw [getElem!_pos (a.data ++ b.data) i (by simp; omega), getElem!_pos b.data (i - a.size) (by omega), Array.getElem_append_right (by omega)]
      rfl
    · rw [getElem!_neg (a.data ++ b.data) i (by simp; omega), getElem!_neg b.data (i - a.size) (by omega)]
theorem size_append' (a b : ByteArray) : (a ++ b).size = a.size + b.size := ByteArray.size_append
theorem bytes_ext {a b : ByteArray} (hs : a.size = b.size) (h : ∀ i, i < a.size → byteAt a i = byteAt b i) : a = b := by
  apply ByteArray.ext
  apply Array.ext
  · exact hs
  · intro i h1 h2
    have h3 := h i h1
    unfold byteAt at h3
    have h4 : (a.data[i]!).toNat = (b.data[i]!).toNat := h3
    rw [getElem!_pos a.data i h1, getElem!_pos b.data i h2] at h4
    exact UInt8.toNat_inj.1 h4
theorem spS_at (n i : Nat) (h : i < n) : byteAt (spS n) i = 32 := by
  induction n with
  | zero => omega
  | succ n ih =>
    have e : spS (n + 1) = (spS n).push 32 := by
      apply ByteArray.ext
      unfold spS strOfNums
      rw [List.replicate_succ']
      apply Array.toList_inj.1
      simp [ByteArray.push]
    rw [e]
    rcases Nat.lt_or_ge i n with h1 | h1
    · rw [byteAt_lt (by rw [spS_size]; exact h1)]; exact ih h1
    · obtain rfl : i = (spS n).size := by rw [spS_size]; omega
      exact byteAt_eq
/-- k words: h i spaces ahead of word i, which has M i letters -/
def GT (h M : Nat → Nat) : Nat → ByteArray
  | 0 => ⟨#[]⟩
  | k + 1 => GT h M k ++ spS (h k) ++ fS (M k)
def GP (h M : Nat → Nat) : Nat → Nat
  | 0 => 0
  | k + 1 => GP h M k + h k + M k
theorem GT_size (h M : Nat → Nat) (k : Nat) : (GT h M k).size = GP h M k := by
  induction k with
  | zero => rfl
  | succ k ih => unfold GT GP; rw [size_append', size_append', ih, spS_size, fS_size]
theorem GP_mono (h M : Nat → Nat) {i j : Nat} (hij : i ≤ j) : GP h M i ≤ GP h M j := by
  induction j with
  | zero => obtain rfl : i = 0 := by omega
            exact Nat.le_refl _
  | succ j ih =>
    rcases Nat.eq_or_lt_of_le hij with rfl | h1
    · exact Nat.le_refl _
    · have := ih (by omega)
      rw [show GP h M (j + 1) = GP h M j + h j + M j from rfl]
      omega
theorem GT_at (h M : Nat → Nat) (k : Nat) : ∀ j i, j < k → GP h M j ≤ i → i < GP h M (j + 1) → byteAt (GT h M k) i = if i < GP h M j + h j then 32 else 97 := by
  induction k with
  | zero => intro j i hj; omega
  | succ k ih =>
    intro j i hj h1 h2
    have hk := GT_size h M k
    unfold GT
    rw [byteAt_append, byteAt_append, size_append', hk, spS_size]
    rcases Nat.lt_or_ge j k with h3 | h3
    · have := GP_mono h M (show j + 1 ≤ k by omega)
      rw [if_pos (by omega), if_pos (by omega)]
      exact ih j i h3 h1 h2
    · obtain rfl : j = k := by omega
      rw [show GP h M (j + 1) = GP h M j + h j + M j from rfl] at h2
      by_cases h4 : i < GP h M j + h j
      · rw [if_pos h4, if_neg (by omega), if_pos h4, spS_at _ _ (by omega)]
      · rw [if_neg h4, if_neg h4, fS_at _ _ (by omega)]
/-- such a text, with spaces behind it -/
def GQ (h M : Nat → Nat) (k q : Nat) : ByteArray := GT h M k ++ spS q
theorem GQ_size (h M : Nat → Nat) (k q : Nat) : (GQ h M k q).size = GP h M k + q := by unfold GQ; rw [size_append', GT_size, spS_size]
theorem GQ_at {h M : Nat → Nat} {k q j i : Nat} (hj : j < k) (h1 : GP h M j ≤ i) (h2 : i < GP h M (j + 1)) : byteAt (GQ h M k q) i = if i < GP h M j + h j then 32 else 97 := by
  have := GP_mono h M (show j + 1 ≤ k by omega)
  unfold GQ
  rw [byteAt_append, GT_size, if_pos (by omega)]
  exact GT_at h M k j i hj h1 h2
theorem GQ_end {h M : Nat → Nat} {k q i : Nat} (h1 : GP h M k ≤ i) (h2 : i < GP h M k + q) : byteAt (GQ h M k q) i = 32 := by
  unfold GQ
  rw [byteAt_append, GT_size, if_neg (by omega), spS_at _ _ (by omega)]
theorem GQ_words {h M : Nat → Nat} {k q : Nat} (hM : ∀ i, i < k → 1 ≤ M i) (hh : ∀ i, 0 < i → i < k → 1 ≤ h i) :
    (∀ j, j < k → bW (spA (GQ h M k q)) (GP h M k + q) j = GP h M j + h j ∧ eW (spA (GQ h M k q)) (GP h M k + q) j = GP h M (j + 1)) ∧ bW (spA (GQ h M k q)) (GP h M k + q) k = GP h M k + q := by
  have yes : ∀ {j i}, j < k → GP h M j ≤ i → i < GP h M j + h j → spA (GQ h M k q) i = true := fun {j i} hj h1 h2 => by
    unfold spA
    rw [GQ_at hj h1 (by rw [show GP h M (j + 1) = GP h M j + h j + M j from rfl]; omega), if_pos h2]
    rfl
  have no : ∀ {j i}, j < k → GP h M j + h j ≤ i → i < GP h M (j + 1) → spA (GQ h M k q) i = false := fun {j i} hj h1 h2 => by
    unfold spA
    rw [GQ_at hj (by omega) h2, if_neg (by omega)]
    rfl
  have yesE : ∀ {i}, GP h M k ≤ i → i < GP h M k + q → spA (GQ h M k q) i = true := fun {i} h1 h2 => by
    unfold spA
    rw [GQ_end h1 h2]
    rfl
  have step : ∀ j, j < k → runS (spA (GQ h M k q)) (GP h M k + q) (GP h M j) = GP h M j + h j := fun j hj => by
    have h1 := hM j hj
    have h2 := GP_mono h M (show j + 1 ≤ k by omega)
    have h3 : GP h M (j + 1) = GP h M j + h j + M j := rfl
    exact run_to (by omega) (by omega) (fun i a b => yes hj a b) (.inr (no hj (Nat.le_refl _) (by omega)))
  have word : ∀ j, j < k → runS (fun i => !spA (GQ h M k q) i) (GP h M k + q) (GP h M j + h j) = GP h M (j + 1) := fun j hj => by
    have h1 := hM j hj
    have h2 := GP_mono h M (show j + 1 ≤ k by omega)
    have h3 : GP h M (j + 1) = GP h M j + h j + M j := rfl
    refine run_to (by omega) (by omega) (fun i a b => by rw [no hj a b]; rfl) ?_
    rcases Nat.lt_or_ge (j + 1) k with h4 | h4
    · have h5 := hh (j + 1) (by omega) h4
      exact .inr (by rw [yes h4 (Nat.le_refl _) (by omega)]; rfl)
    · obtain rfl : k = j + 1 := by omega
      rcases Nat.eq_zero_or_pos q with rfl | h6
      · exact .inl rfl
      · exact .inr (by rw [yesE (Nat.le_refl _) (by omega)]; rfl)
  have last : runS (spA (GQ h M k q)) (GP h M k + q) (GP h M k) = GP h M k + q := run_to (by omega) (Nat.le_refl _) (fun i a b => yesE a b) (.inl rfl)
  have main : ∀ j, j < k → bW (spA (GQ h M k q)) (GP h M k + q) j = GP h M j + h j := by
    intro j
    induction j with
    | zero => intro hj; exact step 0 hj
    | succ j ih =>
      intro hj
      rw [bW_next]
      unfold eW
      rw [ih (by omega), word j (by omega)]
      exact step (j + 1) hj
  have ends : ∀ j, j < k → eW (spA (GQ h M k q)) (GP h M k + q) j = GP h M (j + 1) := fun j hj => by unfold eW; rw [main j hj]; exact word j hj
  refine ⟨fun j hj => ⟨main j hj, ends j hj⟩, ?_⟩
  cases k with
  | zero => exact last
  | succ k => rw [bW_next, ends k (by omega)]; exact last
theorem byteAt_cut {s : ByteArray} {a b i : Nat} (hb : b ≤ s.size) (hi : a + i < b) : byteAt (s.extract a b) i = byteAt s (a + i) := by
  unfold byteAt
  have h1 : i < (s.extract a b).data.size := by rw [ByteArray.data_extract, Array.size_extract]; have : s.data.size = s.size := rfl; omega
  have h2 : a + i < s.data.size := by have : s.data.size = s.size := rfl; omega
  show ((s.extract a b).data[i]!).toNat = (s.data[a + i]!).toNat
  rw [getElem!_pos (s.extract a b).data i h1, getElem!_pos s.data (a + i) h2]
  simp [ByteArray.data_extract]
/-- its words -/
theorem GQ_all {h M : Nat → Nat} {k q : Nat} (hM : ∀ i, i < k → 1 ≤ M i ∧ M i ≤ 1000) (hh : ∀ i, 0 < i → i < k → 1 ≤ h i) :
    wN (GQ h M k q) = k ∧ ∀ j, j < k → wT (GQ h M k q) j = fS (M j) ∧ wA (GQ h M k q) j = 512 * (M j : Int) := by
  obtain ⟨h1, h2⟩ := GQ_words (q := q) (fun i hi => (hM i hi).1) hh
  have hs := GQ_size h M k q
  have ht : ∀ j, j < k → wT (GQ h M k q) j = fS (M j) := fun j hj => by
    have h3 := h1 j hj
    have h4 : GP h M (j + 1) = GP h M j + h j + M j := rfl
    have h5 := GP_mono h M (show j + 1 ≤ k by omega)
    unfold wT
    rw [hs, h3.1, h3.2]
    refine bytes_ext (by rw [ByteArray.size_extract, hs, fS_size]; omega) fun i hi => ?_
    rw [ByteArray.size_extract, hs] at hi
    rw [byteAt_cut (by omega) (by omega), GQ_at hj (by omega) (by omega), if_neg (by omega), fS_at _ _ (by omega)]
  refine ⟨?_, fun j hj => ⟨ht j hj, ?_⟩⟩
  · unfold wN
    rw [hs]
    refine nW_unique h2 fun i hi => ?_
    have h4 : GP h M (i + 1) = GP h M i + h i + M i := rfl
    have h5 := GP_mono h M (show i + 1 ≤ k by omega)
    have h6 := (hM i hi).1
    rw [(h1 i hi).1]
    omega
  · unfold wA
    rw [ht j hj, fS_width _ (hM j hj).2]
end Go.Proofs.Ytbegdnpckjfgbaa
