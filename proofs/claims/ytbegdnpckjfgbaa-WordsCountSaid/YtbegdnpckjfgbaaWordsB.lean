/- Layer 5: texts whose words are known by their bytes. -/
import Derived.Test.YtbegdnpckjfgbaaAwake5
namespace Go.Proofs.Ytbegdnpckjfgbaa
open Go.RowKit Go.Lib
set_option linter.unusedSimpArgs false
set_option linter.unusedVariables false
theorem run_to {p : Nat → Bool} {m i e : Nat} (h1 : i ≤ e) (he : e ≤ m) (hall : ∀ k, i ≤ k → k < e → p k = true) (hend : e = m ∨ p e = false) : runS p m i = e := by
  have h := run_skip (p := p) (m := m) (e - i) i (fun k a b => hall k a (by omega)) (by omega)
  rw [h, show i + (e - i) = e by omega]
  rcases hend with h2 | h2
  · exact run_done (.inl (by omega))
  · exact run_done (.inr h2)
/-- a text of letters a -/
def fS (n : Nat) : ByteArray := strOfNums (List.replicate n 97)
theorem fS_size (n : Nat) : (fS n).size = n := by unfold fS; rw [strOfNums_size]; simp
theorem fS_push (n : Nat) : fS (n + 1) = (fS n).push 97 := by
  apply ByteArray.ext
  unfold fS strOfNums
  rw [List.replicate_succ']
  apply Array.toList_inj.1
  simp [ByteArray.push]
theorem byteAt_push {s : ByteArray} {c : UInt8} {i : Nat} : byteAt (s.push c) i = if i < s.size then byteAt s i else if i = s.size then c.toNat else byteAt (s.push c) i := by
  split
  · exact byteAt_lt (by assumption)
  · split
    · rename_i h; subst h; exact byteAt_eq
    · rfl
theorem fS_at (n i : Nat) (h : i < n) : byteAt (fS n) i = 97 := by
  induction n with
  | zero => omega
  | succ n ih =>
    rw [fS_push]
    rcases Nat.lt_or_ge i n with h1 | h1
    · rw [byteAt_lt (by rw [fS_size]; exact h1)]; exact ih h1
    · obtain rfl : i = (fS n).size := by rw [fS_size]; omega
      exact byteAt_eq
theorem fS_width (n : Nat) (h : n ≤ 1000) : widthS (fS n) = 512 * (n : Int) := by
  induction n with
  | zero => rfl
  | succ n ih =>
    rw [fS_push, width_push (by decide), ih (by omega)]
    rw [show advS (if (97 : UInt8).toNat < 128 then ((97 : UInt8).toNat : Int) else 65533) = 512 by decide]
    unfold wrap64
    omega
theorem fS_sp (n i : Nat) (h : i < n) : spA (fS n) i = false := by unfold spA; rw [fS_at n i h]; rfl
theorem extract_all (s : ByteArray) (n : Nat) (h : s.size = n) : s.extract 0 n = s := by
  apply ByteArray.ext
  rw [ByteArray.data_extract]
  subst h
  exact Array.extract_size
/-- one word, and no other -/
theorem fS_words (n : Nat) (hn : n ≤ 1000) : wN (fS n) = min 1 n ∧ (0 < n → wA (fS n) 0 = 512 * (n : Int)) := by
  rcases Nat.eq_zero_or_pos n with rfl | h
  · exact ⟨by kernel_rfl, fun h => by omega⟩
  · have hs := fS_size n
    have hb0 : bW (spA (fS n)) n 0 = 0 := run_done (.inr (fS_sp n 0 h))
    have he0 : eW (spA (fS n)) n 0 = n := by unfold eW; rw [hb0]; exact run_to (Nat.zero_le _) (Nat.le_refl _) (fun k _ hk => by rw [fS_sp n k hk]; rfl) (.inl rfl)
    have hb1 : bW (spA (fS n)) n 1 = n := by rw [bW_next, he0]; exact run_done (.inl (Nat.le_refl _))
    refine ⟨?_, fun _ => ?_⟩
    · unfold wN
      rw [hs, nW_unique hb1 (fun i hi => by obtain rfl : i = 0 := by omega
                                            rw [hb0]; exact h)]
      omega
    · unfold wA wT
      rw [hs, hb0, he0, extract_all _ _ hs, fS_width n hn]
end Go.Proofs.Ytbegdnpckjfgbaa
