/- Rows of one cell each that grow. -/
import Derived.Test.YtpblajjfgnhkdaaDoorMarg
namespace Go.Proofs.YtpblajjfgnhkdaaDoor
open Go.RowKit
set_option linter.unusedSimpArgs false
set_option linter.unusedVariables false
def ones (Z : Nat → Int) : Nat → List Value
  | 0 => []
  | m + 1 => ones Z m ++ [.int .i64 (Z m)]
theorem ones_length (Z : Nat → Int) (m : Nat) : (ones Z m).length = m := by
  induction m with
  | zero => rfl
  | succ m ih => simp only [ones, List.length_append, ih, List.length_cons, List.length_nil]
theorem ones_at (Z : Nat → Int) (m i : Nat) (h : i < m) : (ones Z m)[i]? = some (.int .i64 (Z i)) := by
  induction m with
  | zero => omega
  | succ m ih =>
    have hl := ones_length Z m
    unfold ones
    rcases Nat.lt_or_ge i m with h1 | h1
    · rw [List.getElem?_append_left (by omega)]; exact ih h1
    · obtain rfl : i = m := by omega
      rw [List.getElem?_append_right (by omega), hl]; simp
theorem ones_one (Z : Nat → Int) (m : Nat) : ∀ u ∈ ones Z m, u.oneCell' = true := by
  induction m with
  | zero => intro u hu; cases hu
  | succ m ih =>
    intro u hu
    unfold ones at hu
    rcases List.mem_append.1 hu with h | h
    · exact ih u h
    · simp at h; subst h; rfl
/-- v is a row of m numbers, in memory that was made since a -/
def NewOnes (t : TypeId) (a w : World) (v : Value) (m : Nat) (Z : Nat → Int) : Prop :=
  (m = 0 ∧ ∃ o cap, v = .slice o 0 cap ∧ cap ≤ maxLen) ∨ ∃ b cap cur, v = .slice (some ⟨b, 0, none⟩) m cap ∧ 0 < m ∧ m ≤ cap ∧ cap ≤ maxLen ∧ a.heap.size ≤ b ∧ Own w b t cur ∧ cur.size = cap ∧ ∀ i, i < m → cur[i]? = some (.int .i64 (Z i))
theorem NewOnes.kept {t : TypeId} {a w w' : World} {v : Value} {m : Nat} {Z : Nat → Int} (hv : NewOnes t a w v m Z) (k : Kept w w') : NewOnes t a w' v m Z := by
  rcases hv with h0 | ⟨b, cap, cur, h1, h2, h3, h4, h5, h6, h7, h8⟩
  · exact .inl h0
  · exact .inr ⟨b, cap, cur, h1, h2, h3, h4, h5, h6.kept k, h7, h8⟩
theorem newOnes_of {t : TypeId} {a w : World} {v : Value} {m : Nat} {Z : Nat → Int} (ho : w.ownsRow a.heap.size t 1 v m (ones Z m)) : NewOnes t a w v m Z := by
  rcases ho.2 with ⟨hv, h0⟩ | ⟨b, cap, cur, hv, hge, hh, hm, hc, hs, ht⟩
  · exact .inl ⟨h0, _, _, hv, by decide⟩
  · rcases Nat.eq_zero_or_pos m with rfl | hpos
    · exact .inl ⟨rfl, _, _, hv, hc⟩
    · refine .inr ⟨b, cap, cur, hv, hpos, hm, hc, hge, ⟨hh⟩, by rw [hs, Nat.mul_one], fun i hi => ?_⟩
      have : cur[i]? = (ones Z m)[i]? := by rw [← ht, List.getElem?_take_of_lt (by omega)]; simp
      rw [this]; exact ones_at Z m i hi
theorem NewOnes.iv {t : TypeId} {a w : World} {v : Value} {m : Nat} {Z : Nat → Int} (hv : NewOnes t a w v m Z) : IV w v m Z := by
  rcases hv with ⟨h0, o, cap, h1, _⟩ | ⟨b, cap, cur, h1, h2, h3, h4, h5, h6, h7, h8⟩
  · exact .inl ⟨h0, o, cap, h1⟩
  · subst h1; exact iv_of h6 h2 h3 h8
theorem Kept.rowless {w w' : World} (h : Kept w w') : w.grownBy w' none := ⟨h.below.os, h.below.tape, h.below.output, h.size, fun k hk _ => h.below.block k hk⟩
theorem ones_kept {w w' : World} {base : Nat} {e : TypeId} {size : Nat} {v : Value} {n : Nat} {xs : List Value} (h : w.ownsRow base e size v n xs) (k : Kept w w') : w'.ownsRow base e size v n xs :=
  h.kept k.rowless (by cases v.ownBlock <;> simp)
theorem intInfo1 : (Tryd.prog.info? 3).map (fun i => (i.zero, i.size, i.bytes)) = some (some (.int .i64 0), 1, 8) := by kernel_rfl
end Go.Proofs.YtpblajjfgnhkdaaDoor
