/- Layer 20: rows of sizes and of bools that turn, over a base world. -/
import Derived.Test.YticnfoppdgeioaaLineResolve
import Derived.Test.YticnfoppdgeioaaRefShares
namespace Go.Proofs.Yticnfoppdgeioaa
open Go.RowKit
set_option linter.unusedSimpArgs false
set_option linter.unusedVariables false
/-- rows that the call has made: sizes, and which are frozen -/
structure RowsW (a w : World) (bs bf n : Nat) (S : Nat → Int) (F : Nat → Bool) : Prop where
  k : Kept a w
  oS : ∃ cs, Own w bs 3 cs ∧ cs.size = n ∧ ∀ i, i < n → cs[i]? = some (.int .i64 (S i))
  oF : ∃ cs, Own w bf 4 cs ∧ cs.size = n ∧ ∀ i, i < n → cs[i]? = some (.bool (F i))
  gS : a.heap.size ≤ bs
  gF : a.heap.size ≤ bf
  n3 : bs ≠ bf
variable {a w w' : World} {bs bf n : Nat} {S : Nat → Int} {F : Nat → Bool}
theorem RowsW.lt (h : RowsW a w bs bf n S F) : bs < w.heap.size ∧ bf < w.heap.size := by
  obtain ⟨c, h1, _⟩ := h.oS
  obtain ⟨d, h2, _⟩ := h.oF
  exact ⟨h1.lt, h2.lt⟩
theorem RowsW.kept (h : RowsW a w bs bf n S F) (k : Kept w w') : RowsW a w' bs bf n S F := by
  obtain ⟨c, h1, h2, h3⟩ := h.oS
  obtain ⟨d, e1, e2, e3⟩ := h.oF
  exact ⟨h.k.trans k, ⟨c, h1.kept k, h2, h3⟩, ⟨d, e1.kept k, e2, e3⟩, h.gS, h.gF, h.n3⟩
theorem RowsW.atS (h : RowsW a w bs bf n S F) {i : Nat} (hi : i < n) : w.cell? ⟨bs, i, none⟩ = some (.int .i64 (S i)) := by obtain ⟨c, h1, h2, h3⟩ := h.oS; exact (h1.cell i).trans (h3 i hi)
theorem RowsW.atF (h : RowsW a w bs bf n S F) {i : Nat} (hi : i < n) : w.cell? ⟨bf, i, none⟩ = some (.bool (F i)) := by obtain ⟨c, h1, h2, h3⟩ := h.oF; exact (h1.cell i).trans (h3 i hi)
theorem RowsW.freeS (h : RowsW a w bs bf n S F) (i : Nat) : w.frozen? ⟨bs, i, none⟩ = false := by obtain ⟨c, h1, _⟩ := h.oS; exact h1.free i
theorem RowsW.freeF (h : RowsW a w bs bf n S F) (i : Nat) : w.frozen? ⟨bf, i, none⟩ = false := by obtain ⟨c, h1, _⟩ := h.oF; exact h1.free i
/-- a store into another block -/
theorem RowsW.other (h : RowsW a w bs bf n S F) {b j : Nat} {u : Value} (hb : a.heap.size ≤ b) (n1 : bs ≠ b) (n2 : bf ≠ b) : RowsW a (w.setCell ⟨b, j, none⟩ u) bs bf n S F := by
  obtain ⟨c, h1, h2, h3⟩ := h.oS
  obtain ⟨d, e1, e2, e3⟩ := h.oF
  exact ⟨h.k.set hb _, ⟨c, h1.other n1 _, h2, h3⟩, ⟨d, e1.other n2 _, e2, e3⟩, h.gS, h.gF, h.n3⟩
theorem RowsW.setS (h : RowsW a w bs bf n S F) {j : Nat} (hj : j < n) (v : Int) : RowsW a (w.setCell ⟨bs, j, none⟩ (.int .i64 v)) bs bf n (fun i => if i = j then v else S i) F := by
  obtain ⟨c, h1, h2, h3⟩ := h.oS
  obtain ⟨d, e1, e2, e3⟩ := h.oF
  refine ⟨h.k.set h.gS _, ⟨_, h1.set j _, by rw [Array.size_setIfInBounds]; exact h2, fun i hi => ?_⟩, ⟨d, e1.other h.n3.symm _, e2, e3⟩, h.gS, h.gF, h.n3⟩
  by_cases e : i = j
  · subst e; rw [Array.getElem?_setIfInBounds_self_of_lt (by omega), if_pos rfl]
  · rw [Array.getElem?_setIfInBounds_ne (by omega), if_neg e]; exact h3 i hi
theorem RowsW.setF (h : RowsW a w bs bf n S F) {j : Nat} (hj : j < n) (v : Bool) : RowsW a (w.setCell ⟨bf, j, none⟩ (.bool v)) bs bf n S (fun i => if i = j then v else F i) := by
  obtain ⟨c, h1, h2, h3⟩ := h.oS
  obtain ⟨d, e1, e2, e3⟩ := h.oF
  refine ⟨h.k.set h.gF _, ⟨c, h1.other h.n3 _, h2, h3⟩, ⟨_, e1.set j _, by rw [Array.size_setIfInBounds]; exact e2, fun i hi => ?_⟩, h.gS, h.gF, h.n3⟩
  by_cases e : i = j
  · subst e; rw [Array.getElem?_setIfInBounds_self_of_lt (by omega), if_pos rfl]
  · rw [Array.getElem?_setIfInBounds_ne (by omega), if_neg e]; exact e3 i hi
theorem RowsW.congr (h : RowsW a w bs bf n S F) {S2 : Nat → Int} {F2 : Nat → Bool} (hS : ∀ i, i < n → S i = S2 i) (hF : ∀ i, i < n → F i = F2 i) : RowsW a w bs bf n S2 F2 := by
  obtain ⟨c, h1, h2, h3⟩ := h.oS
  obtain ⟨d, e1, e2, e3⟩ := h.oF
  exact ⟨h.k, ⟨c, h1, h2, fun i hi => by rw [← hS i hi]; exact h3 i hi⟩, ⟨d, e1, e2, fun i hi => by rw [← hF i hi]; exact e3 i hi⟩, h.gS, h.gF, h.n3⟩
theorem RowsW.made (h : RowsW a w bs bf n S F) : Made 3 a w (.slice (some ⟨bs, 0, none⟩) n n) n (intZ S) := by
  obtain ⟨c, h1, h2, h3⟩ := h.oS
  exact ⟨bs, c, rfl, h.gS, h1, h2, h3⟩
/-- a row of numbers of the call's own that is known up to k -/
structure PartW (w : World) (b n k : Nat) (Z : Nat → Int) : Prop where
  own : ∃ cs, Own w b 3 cs ∧ cs.size = n ∧ ∀ i, i < n → cs[i]? = some (.int .i64 (if i < k then Z i else 0))
theorem PartW.kept {b k : Nat} {Z : Nat → Int} (h : PartW w b n k Z) (kp : Kept w w') : PartW w' b n k Z := by
  obtain ⟨cs, h1, h2, h3⟩ := h.own
  exact ⟨cs, h1.kept kp, h2, h3⟩
theorem PartW.lt {b k : Nat} {Z : Nat → Int} (h : PartW w b n k Z) : b < w.heap.size := by obtain ⟨cs, h1, _⟩ := h.own; exact h1.lt
theorem PartW.free {b k : Nat} {Z : Nat → Int} (h : PartW w b n k Z) (i : Nat) : w.frozen? ⟨b, i, none⟩ = false := by obtain ⟨cs, h1, _⟩ := h.own; exact h1.free i
theorem PartW.cell {b k : Nat} {Z : Nat → Int} (h : PartW w b n k Z) {i : Nat} (hi : i < n) : w.cell? ⟨b, i, none⟩ = some (.int .i64 (if i < k then Z i else 0)) := by obtain ⟨cs, h1, h2, h3⟩ := h.own; exact (h1.cell i).trans (h3 i hi)
theorem PartW.other {b k b2 j : Nat} {Z : Nat → Int} {u : Value} (h : PartW w b n k Z) (hb : b ≠ b2) : PartW (w.setCell ⟨b2, j, none⟩ u) b n k Z := by
  obtain ⟨cs, h1, h2, h3⟩ := h.own
  exact ⟨cs, h1.other hb _, h2, h3⟩
theorem PartW.skip {b k : Nat} {Z : Nat → Int} (h : PartW w b n k Z) (hk : k < n) (hz : Z k = 0) : PartW w b n (k + 1) Z := by
  obtain ⟨cs, h1, h2, h3⟩ := h.own
  exact ⟨cs, h1, h2, (upto_step h2 hk h3).1 hz⟩
theorem PartW.put {b k : Nat} {Z : Nat → Int} (h : PartW w b n k Z) (hk : k < n) {v : Int} (hz : Z k = v) : PartW (w.setCell ⟨b, k, none⟩ (.int .i64 v)) b n (k + 1) Z := by
  obtain ⟨cs, h1, h2, h3⟩ := h.own
  subst hz
  exact ⟨_, h1.set k _, by rw [Array.size_setIfInBounds]; exact h2, (upto_step h2 hk h3).2⟩
theorem part_new (w : World) (n : Nat) (Z : Nat → Int) : PartW (w.alloc (.cells (madeCells #[.int .i64 0] n) 3)) w.heap.size n 0 Z :=
  ⟨_, Own.new w _ _, size_madeCells #[Value.int .i64 0] n, fun i hi => by rw [if_neg (by omega)]; exact made_zero n i hi⟩
theorem PartW.all {b : Nat} {Z : Nat → Int} (h : PartW w b n n Z) (i : Nat) (hi : i < n) : w.cell? ⟨b, i, none⟩ = some (.int .i64 (Z i)) := by
  have := h.cell hi
  rwa [if_pos hi] at this
/-- extras apart -/
theorem oc_apart (I : Nat → Item) (S : Nat → Int) (F : Nat → Bool) (n : Nat) : sumW (ocS I S F) n = sumW (fun i => (I i).extra) n + sumW (fun i => if F i = true then S i else (I i).base) n := by
  induction n with
  | zero => rfl
  | succ n ih =>
    show sumW (ocS I S F) n + ocS I S F n = (sumW (fun i => (I i).extra) n + (I n).extra) + (sumW (fun i => if F i = true then S i else (I i).base) n + if F n = true then S n else (I n).base)
    rw [ih]
    unfold ocS
    omega
end Go.Proofs.Yticnfoppdgeioaa
