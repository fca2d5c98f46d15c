/- Layer 5: the words of a text, told by bytes. -/
import Derived.Test.YtkonpnaedniceaaSplitS
import Derived.Test.YtkonpnaedniceaaLend
import Derived.Test.YtkonpnaedniceaaWidth
namespace Go.Proofs.Ytkonpnaedniceaa
open Go.RowKit
set_option linter.unusedSimpArgs false
set_option linter.unusedVariables false
/-- is byte k a space? -/
def spA (s : ByteArray) (k : Nat) : Bool := byteAt s k == 32
theorem bW_less {sp : Nat → Bool} {m j : Nat} (h : bW sp m j < m) : bW sp m j < bW sp m (j + 1) := by
  have := bW_word h; have := bW_ge sp m j; omega
theorem bW_up (sp : Nat → Bool) (m : Nat) : ∀ j, bW sp m j < m → j ≤ bW sp m j := by
  intro j
  induction j with
  | zero => intro _; omega
  | succ j ih =>
    intro h
    have h1 : bW sp m j < m := by
      rcases Nat.lt_or_ge (bW sp m j) m with h1 | h1
      · exact h1
      · exfalso
        have := eW_le sp m j
        have h2 : m ≤ eW sp m j := Nat.le_trans h1 (run_ge _ _ _)
        have := bW_ge sp m j
        omega
    have := ih h1
    have := bW_less h1
    omega
/-- how many words there are: the first j of which word j begins at the end -/
def nWF (sp : Nat → Bool) (m : Nat) : Nat → Nat → Nat
  | 0, j => j
  | f + 1, j => if bW sp m j < m then nWF sp m f (j + 1) else j
def nW (sp : Nat → Bool) (m : Nat) : Nat := nWF sp m (m + 1) 0
theorem nWF_is (sp : Nat → Bool) (m : Nat) : ∀ f j, m < j + f → (∀ i, i < j → bW sp m i < m) → bW sp m (nWF sp m f j) = m ∧ ∀ i, i < nWF sp m f j → bW sp m i < m := by
  intro f
  induction f with
  | zero =>
    intro j hj h
    refine ⟨?_, h⟩
    have h1 := bW_up sp m (j - 1)
    have h2 := h (j - 1) (by omega)
    have := h1 h2
    omega
  | succ f ih =>
    intro j hj h
    unfold nWF
    by_cases hb : bW sp m j < m
    · rw [if_pos hb]
      refine ih (j + 1) (by omega) fun i hi => ?_
      rcases Nat.lt_or_ge i j with h1 | h1
      · exact h i h1
      · obtain rfl : i = j := by omega
        exact hb
    · rw [if_neg hb]
      exact ⟨Nat.le_antisymm (bW_le sp m j) (by omega), h⟩
theorem nW_at (sp : Nat → Bool) (m : Nat) : bW sp m (nW sp m) = m := (nWF_is sp m (m + 1) 0 (by omega) (fun i hi => by omega)).1
theorem nW_lt (sp : Nat → Bool) (m : Nat) : ∀ i, i < nW sp m → bW sp m i < m := (nWF_is sp m (m + 1) 0 (by omega) (fun i hi => by omega)).2
theorem nW_unique {sp : Nat → Bool} {m j : Nat} (h : bW sp m j = m) (g : ∀ i, i < j → bW sp m i < m) : nW sp m = j := by
  rcases Nat.lt_trichotomy (nW sp m) j with h1 | h1 | h1
  · have := g _ h1; have := nW_at sp m; omega
  · exact h1
  · have := nW_lt sp m _ h1; omega
theorem nW_of {sp : Nat → Bool} {m j : Nat} (h : bW sp m j = m) (g : j ≤ nW sp m) : nW sp m = j := by
  rcases Nat.lt_or_ge j (nW sp m) with h1 | h1
  · have := nW_lt sp m _ h1; omega
  · omega
theorem nW_more {sp : Nat → Bool} {m j : Nat} (h : bW sp m j < m) (g : j ≤ nW sp m) : j < nW sp m := by
  rcases Nat.lt_or_ge j (nW sp m) with h1 | h1
  · exact h1
  · obtain rfl : j = nW sp m := by omega
    have := nW_at sp m; omega
theorem nW_le (sp : Nat → Bool) (m : Nat) : nW sp m ≤ m := by
  rcases Nat.eq_zero_or_pos (nW sp m) with h | h
  · omega
  · have h1 := nW_lt sp m (nW sp m - 1) (by omega)
    have := bW_up sp m _ h1
    omega
/-- where the round that seeks word j begins -/
def pW (sp : Nat → Bool) (m : Nat) : Nat → Nat
  | 0 => 0
  | j + 1 => eW sp m j
theorem pW_run (sp : Nat → Bool) (m j : Nat) : runS sp m (pW sp m j) = bW sp m j := by cases j <;> rfl
theorem pW_le (sp : Nat → Bool) (m j : Nat) : pW sp m j ≤ m := by
  cases j with
  | zero => exact Nat.zero_le _
  | succ j => exact eW_le sp m j
theorem pW_ge (sp : Nat → Bool) (m j : Nat) : pW sp m j ≤ bW sp m j := by rw [← pW_run]; exact run_ge _ _ _
theorem pW_end {sp : Nat → Bool} {m j : Nat} (h : m ≤ pW sp m j) : bW sp m j = m := by
  have := pW_ge sp m j; have := bW_le sp m j; omega
/-- the words' texts, widths, spaces -/
def wT (s : ByteArray) (j : Nat) : ByteArray := s.extract (bW (spA s) s.size j) (eW (spA s) s.size j)
def wA (s : ByteArray) (j : Nat) : Int := widthS (wT s j)
def wG (s : ByteArray) (j : Nat) : Int := ((bW (spA s) s.size (j + 1) - eW (spA s) s.size j : Nat) : Int)
def wN (s : ByteArray) : Nat := nW (spA s) s.size
/-- the spaces as they stand while word j is sought: those behind the last one are not known yet -/
def gU (s : ByteArray) (j i : Nat) : Int := if i + 1 < j then wG s i else 0
theorem three_set (a b c : Nat → Value) (v : Value) (m : Nat) : (three a b c (m + 1)).set (m * 3 + 2) v = three a b (fun i => if i = m then v else c i) (m + 1) := by
  have hl := three_length a b c m
  have he : three a b (fun i => if i = m then v else c i) m = three a b c m := three_congr m fun i hi => ⟨rfl, rfl, if_neg (by omega)⟩
  show (three a b c m ++ [a m, b m, c m]).set (m * 3 + 2) v = three a b (fun i => if i = m then v else c i) m ++ [a m, b m, if m = m then v else c m]
  rw [he, if_pos rfl, List.set_append_right _ _ (by omega), hl, show m * 3 + 2 - m * 3 = 2 by omega]
  rfl
theorem gU_set (s : ByteArray) (j : Nat) (f g : Nat → Value) : (three f g (vi (gU s (j + 1))) (j + 1)).set (j * 3 + 2) (.int .i64 (wG s j)) = three f g (vi (gU s (j + 2))) (j + 1) := by
  rw [three_set]
  refine three_congr _ fun i hi => ⟨rfl, rfl, ?_⟩
  unfold vi gU
  by_cases h : i = j
  · subst h; rw [if_pos rfl, if_pos (by omega)]
  · rw [if_neg h, if_pos (by omega), if_pos (by omega)]
theorem gU_more (s : ByteArray) (j : Nat) (f g : Nat → Value) : three f g (vi (gU s (j + 1))) (j + 1) = three f g (vi (gU s (j + 1))) j ++ [f j, g j, .int .i64 0] := by
  show three f g (vi (gU s (j + 1))) j ++ [f j, g j, vi (gU s (j + 1)) j] = _
  rw [show vi (gU s (j + 1)) j = .int .i64 0 from congrArg _ (if_neg (by omega))]
theorem gU_done (s : ByteArray) (j : Nat) (f g : Nat → Value) : three f g (vi (gU s (j + 1))) j = three f g (vi (wG s)) j :=
  three_congr _ fun i hi => ⟨rfl, rfl, by unfold vi gU; rw [if_pos (by omega)]⟩
theorem gU_last {s : ByteArray} {j : Nat} (h : wG s j = 0) (f g : Nat → Value) : three f g (vi (gU s (j + 1))) (j + 1) = three f g (vi (wG s)) (j + 1) :=
  three_congr _ fun i hi => ⟨rfl, rfl, by
    unfold vi gU
    by_cases h1 : i + 1 < j + 1
    · rw [if_pos h1]
    · obtain rfl : i = j := by omega
      rw [if_neg h1, h]⟩
end Go.Proofs.Ytkonpnaedniceaa
