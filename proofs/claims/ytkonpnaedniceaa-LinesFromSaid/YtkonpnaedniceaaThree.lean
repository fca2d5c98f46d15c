/- Rows of three cells each. -/
import Derived.Test.YtkonpnaedniceaaBoxes
namespace Go.Proofs.Ytkonpnaedniceaa
open Go.RowKit
set_option linter.unusedSimpArgs false
set_option linter.unusedVariables false
/-- three cells for each number below m -/
def three (a b c : Nat → Value) : Nat → List Value
  | 0 => []
  | m + 1 => three a b c m ++ [a m, b m, c m]
theorem three_length (a b c : Nat → Value) (m : Nat) : (three a b c m).length = m * 3 := by
  induction m with
  | zero => rfl
  | succ m ih => simp only [three, List.length_append, ih, List.length_cons, List.length_nil]; omega
theorem three_at (a b c : Nat → Value) (m i : Nat) (h : i < m) : (three a b c m)[i * 3]? = some (a i) ∧ (three a b c m)[i * 3 + 1]? = some (b i) ∧ (three a b c m)[i * 3 + 2]? = some (c i) := by
  induction m with
  | zero => omega
  | succ m ih =>
    have hl := three_length a b c m
    rcases Nat.lt_or_ge i m with h1 | h1
    · have := ih h1
      unfold three
      rw [List.getElem?_append_left (by omega), List.getElem?_append_left (by omega), List.getElem?_append_left (by omega)]
      exact this
    · obtain rfl : i = m := by omega
      unfold three
      rw [List.getElem?_append_right (by omega), List.getElem?_append_right (by omega), List.getElem?_append_right (by omega), hl]
      simp [Nat.add_sub_cancel_left]
/-- v is a row of m structs of three cells each, in memory that was made since a -/
def NewThree (t : TypeId) (a w : World) (v : Value) (m : Nat) (f g h : Nat → Value) : Prop :=
  (m = 0 ∧ ∃ o cap, v = .slice o 0 cap ∧ cap ≤ maxLen) ∨ ∃ b cap cur, v = .slice (some ⟨b, 0, none⟩) m cap ∧ 0 < m ∧ m ≤ cap ∧ cap ≤ maxLen ∧ a.heap.size ≤ b ∧ Own w b t cur ∧ cur.size = cap * 3 ∧
    ∀ i, i < m → cur[i * 3]? = some (f i) ∧ cur[i * 3 + 1]? = some (g i) ∧ cur[i * 3 + 2]? = some (h i)
theorem NewThree.kept {t : TypeId} {a w w' : World} {v : Value} {m : Nat} {f g h : Nat → Value} (hv : NewThree t a w v m f g h) (k : Kept w w') : NewThree t a w' v m f g h := by
  rcases hv with h0 | ⟨b, cap, cur, h1, h2, h3, h4, h5, h6, h7, h8⟩
  · exact .inl h0
  · exact .inr ⟨b, cap, cur, h1, h2, h3, h4, h5, h6.kept k, h7, h8⟩
theorem NewThree.earlier {t : TypeId} {a c w : World} {v : Value} {m : Nat} {f g h : Nat → Value} (hv : NewThree t a w v m f g h) (k : Kept c a) : NewThree t c w v m f g h := by
  rcases hv with h0 | ⟨b, cap, cur, h1, h2, h3, h4, h5, h6, h7, h8⟩
  · exact .inl h0
  · exact .inr ⟨b, cap, cur, h1, h2, h3, h4, Nat.le_trans k.size h5, h6, h7, h8⟩
theorem newThree_of {t : TypeId} {a w : World} {v : Value} {m : Nat} {f g h : Nat → Value} (ho : w.ownsRow a.heap.size t 3 v m (three f g h m)) : NewThree t a w v m f g h := by
  rcases ho.2 with ⟨hv, h0⟩ | ⟨b, cap, cur, hv, hge, hh, hm, hc, hs, ht⟩
  · exact .inl ⟨h0, _, _, hv, by decide⟩
  · rcases Nat.eq_zero_or_pos m with rfl | hpos
    · exact .inl ⟨rfl, _, _, hv, hc⟩
    · refine .inr ⟨b, cap, cur, hv, hpos, hm, hc, hge, ⟨hh⟩, hs, fun i hi => ?_⟩
      have key : ∀ j, j < m * 3 → cur[j]? = (three f g h m)[j]? := fun j hj => by
        rw [← ht, List.getElem?_take_of_lt hj]; simp
      obtain ⟨e1, e2, e3⟩ := three_at f g h m i hi
      exact ⟨(key _ (by omega)).trans e1, (key _ (by omega)).trans e2, (key _ (by omega)).trans e3⟩
/-- the cells of such a row, as they stand in memory -/
structure ThreeAt (w : World) (b m : Nat) (f g h : Nat → Value) : Prop where
  c0 : ∀ i, i < m → w.cell? ⟨b, i * 3, none⟩ = some (f i)
  c1 : ∀ i, i < m → w.cell? ⟨b, i * 3 + 1, none⟩ = some (g i)
  c2 : ∀ i, i < m → w.cell? ⟨b, i * 3 + 2, none⟩ = some (h i)
theorem threeAt_of {w : World} {b m : Nat} {t : TypeId} {cur : Array Value} {f g h : Nat → Value} (ho : Own w b t cur) (hc : ∀ i, i < m → cur[i * 3]? = some (f i) ∧ cur[i * 3 + 1]? = some (g i) ∧ cur[i * 3 + 2]? = some (h i)) : ThreeAt w b m f g h :=
  ⟨fun i hi => (ho.cell _).trans (hc i hi).1, fun i hi => (ho.cell _).trans (hc i hi).2.1, fun i hi => (ho.cell _).trans (hc i hi).2.2⟩
theorem ThreeAt.kept {w w' : World} {b m : Nat} {f g h : Nat → Value} (hx : ThreeAt w b m f g h) (k : Kept w w') : ThreeAt w' b m f g h :=
  ⟨fun i hi => (k.cell (World.block_lt_of_cell? w _ (hx.c0 i hi))).trans (hx.c0 i hi), fun i hi => (k.cell (World.block_lt_of_cell? w _ (hx.c1 i hi))).trans (hx.c1 i hi), fun i hi => (k.cell (World.block_lt_of_cell? w _ (hx.c2 i hi))).trans (hx.c2 i hi)⟩
/-- a block of the call's own that is not the row that grows -/
theorem Own.grown {w w' : World} {b : Nat} {t : TypeId} {cs : Array Value} (h : Own w b t cs) {row : Option Nat} (hg : w.grownBy w' row) (hne : ∀ k, row = some k → k < b) : Own w' b t cs :=
  ⟨(hg.block b h.lt (fun e => by have := hne b e.symm; omega)).trans h.whole⟩
end Go.Proofs.Ytkonpnaedniceaa
