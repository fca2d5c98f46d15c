/- Layer 5: the words of a text, told by runes. -/
import Derived.Test.YtbegdnpckjfgbaaSplitW
import Derived.Lib.OthersKept
namespace Go.Proofs.Ytbegdnpckjfgbaa
open Go.RowKit
set_option linter.unusedSimpArgs false
set_option linter.unusedVariables false
theorem spA_cont {s : ByteArray} {k : Nat} (h : contAt s k = true) : spA s k = false := by
  unfold contAt at h
  simp only [Bool.and_eq_true, decide_eq_true_eq, beq_iff_eq] at h
  unfold spA
  simp only [beq_eq_false_iff_ne, ne_eq]
  omega
theorem decode_yes {s : ByteArray} {i : Nat} (hs : spA s i = true) : Utf8.decode s i = (32, 1) := by
  have h32 : byteAt s i = 32 := by unfold spA at hs; simpa using hs
  rw [decode_dec, h32]
  rfl
/-- a rune that begins with another byte is no space, and none of its bytes is one -/
theorem decode_no {s : ByteArray} {i : Nat} (hs : spA s i = false) : (Utf8.decode s i).1 ≠ 32 ∧ ∀ k, i ≤ k → k < i + (Utf8.decode s i).2 → spA s k = false := by
  have h32 : byteAt s i ≠ 32 := by unfold spA at hs; simpa using hs
  have one : ∀ k, i ≤ k → k < i + 1 → spA s k = false := by
    intro k h1 h2
    obtain rfl : k = i := by omega
    exact hs
  rw [decode_dec]
  unfold dec
  by_cases h0 : byteAt s i < 0x80
  · rw [if_pos h0]
    exact ⟨by show ((byteAt s i : Nat)) ≠ 32; omega, one⟩
  rw [if_neg h0]
  by_cases h1 : (byteAt s i / 32 == 6 && contAt s (i + 1)) = true
  · rw [if_pos h1]
    rw [Bool.and_eq_true] at h1
    dsimp only
    split
    · rename_i hc
      refine ⟨by show _ ≠ 32; omega, fun k h2 h3 => ?_⟩
      rcases (by omega : k = i ∨ k = i + 1) with rfl | rfl
      · exact hs
      · exact spA_cont h1.2
    · exact ⟨by show (65533 : Nat) ≠ 32; decide, one⟩
  rw [if_neg h1]
  by_cases h2 : (byteAt s i / 16 == 14 && contAt s (i + 1) && contAt s (i + 2)) = true
  · rw [if_pos h2]
    rw [Bool.and_eq_true, Bool.and_eq_true] at h2
    dsimp only
    split
    · rename_i hc
      simp only [Bool.and_eq_true, decide_eq_true_eq, ge_iff_le] at hc
      refine ⟨by show _ ≠ 32; omega, fun k h3 h4 => ?_⟩
      rcases (by omega : k = i ∨ k = i + 1 ∨ k = i + 2) with rfl | rfl | rfl
      · exact hs
      · exact spA_cont h2.1.2
      · exact spA_cont h2.2
    · exact ⟨by show (65533 : Nat) ≠ 32; decide, one⟩
  rw [if_neg h2]
  by_cases h3 : (byteAt s i / 8 == 30 && contAt s (i + 1) && contAt s (i + 2) && contAt s (i + 3)) = true
  · rw [if_pos h3]
    rw [Bool.and_eq_true, Bool.and_eq_true, Bool.and_eq_true] at h3
    dsimp only
    split
    · rename_i hc
      simp only [Bool.and_eq_true, decide_eq_true_eq, ge_iff_le] at hc
      refine ⟨by show _ ≠ 32; omega, fun k h4 h5 => ?_⟩
      rcases (by omega : k = i ∨ k = i + 1 ∨ k = i + 2 ∨ k = i + 3) with rfl | rfl | rfl | rfl
      · exact hs
      · exact spA_cont h3.1.1.2
      · exact spA_cont h3.1.2
      · exact spA_cont h3.2
    · exact ⟨by show (65533 : Nat) ≠ 32; decide, one⟩
  rw [if_neg h3]
  exact ⟨by show (65533 : Nat) ≠ 32; decide, one⟩
theorem run_skip {p : Nat → Bool} {m : Nat} : ∀ d i, (∀ k, i ≤ k → k < i + d → p k = true) → i + d ≤ m → runS p m i = runS p m (i + d) := by
  intro d
  induction d with
  | zero => intro i _ _; rfl
  | succ d ih =>
    intro i h hm
    rw [run_step (by omega) (h i (Nat.le_refl _) (by omega)), ih (i + 1) (fun k h1 h2 => h k (by omega) (by omega)) (by omega), show i + 1 + d = i + (d + 1) by omega]
/-- the spaces behind the words while at byte pos, no word being open -/
def gP (s : ByteArray) (j pos i : Nat) : Int := if i + 1 < j then wG s i else if i + 1 = j then ((pos - eW (spA s) s.size i : Nat) : Int) else 0
theorem gP_set (s : ByteArray) (j pos : Nat) (f g : Nat → Value) (v : Int) (hv : v = ((pos - eW (spA s) s.size j : Nat) : Int)) {q : Nat → Int} (hq : ∀ i, i < j → q i = wG s i) : (three f g (vi q) (j + 1)).set (j * 3 + 2) (.int .i64 v) = three f g (vi (gP s (j + 1) pos)) (j + 1) := by
  rw [three_set]
  refine three_congr _ fun i hi => ⟨rfl, rfl, ?_⟩
  unfold vi gP
  by_cases h : i = j
  · subst h; rw [if_pos rfl, if_neg (by omega), if_pos rfl, hv]
  · rw [if_neg h, if_pos (by omega), hq i (by omega)]
theorem gP_at (s : ByteArray) (j pos : Nat) : gP s (j + 1) pos j = ((pos - eW (spA s) s.size j : Nat) : Int) := by
  unfold gP; rw [if_neg (by omega), if_pos rfl]
theorem gP_low (s : ByteArray) (j pos : Nat) : ∀ i, i < j → gP s (j + 1) pos i = wG s i := fun i hi => by unfold gP; rw [if_pos (by omega)]
theorem gU_low (s : ByteArray) (j : Nat) : ∀ i, i < j → gU s (j + 1) i = wG s i := fun i hi => by unfold gU; rw [if_pos (by omega)]
theorem gP_begins (s : ByteArray) (j : Nat) (f g : Nat → Value) : three f g (vi (gP s j (bW (spA s) s.size j))) j = three f g (vi (gU s (j + 1))) j :=
  three_congr _ fun i hi => ⟨rfl, rfl, by
    unfold vi gP gU
    rw [if_pos (show i + 1 < j + 1 by omega)]
    by_cases h : i + 1 < j
    · rw [if_pos h]
    · obtain rfl : j = i + 1 := by omega
      rw [if_neg h, if_pos rfl]; rfl⟩
end Go.Proofs.Ytbegdnpckjfgbaa
