/- Rows of numbers that a call made; rows compared. -/
import Derived.Test.YtkonpnaedniceaaEach
import Derived.Deep.OwnRows
import Derived.Deep.QuietTactic
import Derived.BigQuiet
namespace Go.Proofs.Ytkonpnaedniceaa
open Go.RowKit
set_option linter.unusedSimpArgs false
/-- v is a row of these numbers, in memory that was made since w -/
def NewInts (w w' : World) (v : Value) (xs : List Int) : Prop :=
  (v = .slice none 0 0 ∧ xs = []) ∨ ∃ g cap, v = .slice (some ⟨g, 0, none⟩) xs.length cap ∧ w.heap.size ≤ g ∧ g < w'.heap.size ∧ Ints w' g 0 xs
theorem NewInts.kept {w w1 w2 : World} {v : Value} {xs : List Int} (h : NewInts w w1 v xs) (k : Kept w1 w2) : NewInts w w2 v xs := by
  rcases h with h | ⟨g, cap, hv, hg, hl, hc⟩
  · exact .inl h
  · exact .inr ⟨g, cap, hv, hg, Nat.lt_of_lt_of_le hl k.size, fun j hj => (k.cell hl).trans (hc j hj)⟩
theorem NewInts.earlier {a w w1 : World} {v : Value} {xs : List Int} (h : NewInts w w1 v xs) (k : Kept a w) : NewInts a w1 v xs := by
  rcases h with h | ⟨g, cap, hv, hg, hl, hc⟩
  · exact .inl h
  · exact .inr ⟨g, cap, hv, Nat.le_trans k.size hg, hl, hc⟩
theorem NewInts.of_lit (w : World) (t : TypeId) (zs : List Int) : NewInts w (w.alloc (.cells (zs.map (Value.int .i64)).toArray t)) (.slice (some ⟨w.heap.size, 0, none⟩) zs.length zs.length) zs :=
  .inr ⟨_, _, rfl, Nat.le_refl _, by simp, Ints.new w t zs⟩
end Go.Proofs.Ytkonpnaedniceaa
