/- Layer 20: a line of items of the call's own; the map of what each is more. -/
import Derived.Test.YticnfoppdgeioaaLineWts
import Derived.Maps.Ext
import Derived.Maps.Views
import Derived.Maps.OwnSet
namespace Go.Proofs.Yticnfoppdgeioaa
open Go.RowKit Go.Maps
set_option linter.unusedSimpArgs false
set_option linter.unusedVariables false
theorem Own.grow {w w' : World} {b : Nat} {t : TypeId} {cs : Array Value} (h : Own w b t cs) {row : Option Nat} (hg : w.grownBy w' row) (hne : ∀ k, row = some k → b ≠ k) : Own w' b t cs :=
  ⟨(hg.block b h.lt (fun e => hne b e.symm rfl)).trans h.whole⟩
theorem cell_other {w : World} {x : Addr} {p : Addr} {u v : Value} (h : w.cell? x = some u) (hp : x.block ≠ p.block) : (w.setCell p v).cell? x = some u := by
  have e : (w.setCell p v).heap[x.block]? = w.heap[x.block]? := Below.heap_setCell w p v x.block hp
  unfold World.cell? at h ⊢
  rw [e]
  exact h
abbrev lineC (sl : Option Addr) (n cap : Nat) (room : Int) (g : Bool) (bs bf : Nat) : Array Value := #[.slice sl n cap, .int .i64 room, .bool g, .slice (some ⟨bs, 0, none⟩) n n, .slice (some ⟨bf, 0, none⟩) n n]
/-- a line that the call has made -/
structure LineW (a w : World) (L bs bf : Nat) (sl : Option Addr) (n cap : Nat) (room : Int) (g : Bool) (I : Nat → Item) (S : Nat → Int) (F : Nat → Bool) : Prop where
  k : Kept a w
  it : 0 < n → ∃ b off, sl = some ⟨b, off, none⟩ ∧ ItemsAt a b off n I
  oL : Own w L 58 (lineC sl n cap room g bs bf)
  oS : ∃ cs, Own w bs 3 cs ∧ cs.size = n ∧ ∀ i, i < n → cs[i]? = some (.int .i64 (S i))
  oF : ∃ cs, Own w bf 4 cs ∧ cs.size = n ∧ ∀ i, i < n → cs[i]? = some (.bool (F i))
  gL : a.heap.size ≤ L
  gS : a.heap.size ≤ bs
  gF : a.heap.size ≤ bf
  n1 : L ≠ bs
  n2 : L ≠ bf
  n3 : bs ≠ bf
variable {a w w' : World} {L bs bf : Nat} {sl : Option Addr} {n cap : Nat} {room : Int} {g : Bool} {I : Nat → Item} {S : Nat → Int} {F : Nat → Bool}
theorem LineW.lt (h : LineW a w L bs bf sl n cap room g I S F) : L < w.heap.size ∧ bs < w.heap.size ∧ bf < w.heap.size := by
  obtain ⟨c, h1, _⟩ := h.oS
  obtain ⟨d, h2, _⟩ := h.oF
  exact ⟨h.oL.lt, h1.lt, h2.lt⟩
theorem LineW.kept (h : LineW a w L bs bf sl n cap room g I S F) (k : Kept w w') : LineW a w' L bs bf sl n cap room g I S F := by
  obtain ⟨c, h1, h2, h3⟩ := h.oS
  obtain ⟨d, e1, e2, e3⟩ := h.oF
  exact ⟨h.k.trans k, h.it, h.oL.kept k, ⟨c, h1.kept k, h2, h3⟩, ⟨d, e1.kept k, e2, e3⟩, h.gL, h.gS, h.gF, h.n1, h.n2, h.n3⟩
/-- one other block has turned -/
theorem LineW.grow (h : LineW a w L bs bf sl n cap room g I S F) {row : Option Nat} (hg : w.grownBy w' row) (hr : ∀ k, row = some k → a.heap.size ≤ k ∧ L ≠ k ∧ bs ≠ k ∧ bf ≠ k) : LineW a w' L bs bf sl n cap room g I S F := by
  obtain ⟨c, h1, h2, h3⟩ := h.oS
  obtain ⟨d, e1, e2, e3⟩ := h.oF
  exact ⟨h.k.grown hg fun k e => (hr k e).1, h.it, h.oL.grow hg fun k e => (hr k e).2.1, ⟨c, h1.grow hg fun k e => (hr k e).2.2.1, h2, h3⟩, ⟨d, e1.grow hg fun k e => (hr k e).2.2.2, e2, e3⟩, h.gL, h.gS, h.gF, h.n1, h.n2, h.n3⟩
theorem LineW.view (h : LineW a w L bs bf sl n cap room g I S F) : LineV w L bs bf sl n cap room g I S F := by
  obtain ⟨c, h1, h2, h3⟩ := h.oS
  obtain ⟨d, e1, e2, e3⟩ := h.oF
  exact ⟨fun hn => by obtain ⟨b, off, e, hi⟩ := h.it hn; exact ⟨b, off, e, hi.kept h.k⟩, h.oL.at 0 _ rfl, h.oL.at 1 _ rfl, h.oL.at 2 _ rfl, h.oL.at 3 _ rfl, h.oL.at 4 _ rfl, fun i hi => (h1.cell i).trans (h3 i hi), fun i hi => (e1.cell i).trans (e3 i hi)⟩
theorem LineW.freeS (h : LineW a w L bs bf sl n cap room g I S F) (i : Nat) : w.frozen? ⟨bs, i, none⟩ = false := by obtain ⟨c, h1, _⟩ := h.oS; exact h1.free i
theorem LineW.freeF (h : LineW a w L bs bf sl n cap room g I S F) (i : Nat) : w.frozen? ⟨bf, i, none⟩ = false := by obtain ⟨c, h1, _⟩ := h.oF; exact h1.free i
theorem LineW.setS (h : LineW a w L bs bf sl n cap room g I S F) {j : Nat} (hj : j < n) (v : Int) : LineW a (w.setCell ⟨bs, j, none⟩ (.int .i64 v)) L bs bf sl n cap room g I (fun i => if i = j then v else S i) F := by
  obtain ⟨c, h1, h2, h3⟩ := h.oS
  obtain ⟨d, e1, e2, e3⟩ := h.oF
  refine ⟨h.k.set h.gS _, h.it, h.oL.other h.n1 _, ⟨_, h1.set j _, by rw [Array.size_setIfInBounds]; exact h2, fun i hi => ?_⟩, ⟨d, e1.other h.n3.symm _, e2, e3⟩, h.gL, h.gS, h.gF, h.n1, h.n2, h.n3⟩
  by_cases e : i = j
  · subst e; rw [Array.getElem?_setIfInBounds_self_of_lt (by omega), if_pos rfl]
  · rw [Array.getElem?_setIfInBounds_ne (by omega), if_neg e]; exact h3 i hi
theorem LineW.setF (h : LineW a w L bs bf sl n cap room g I S F) {j : Nat} (hj : j < n) (v : Bool) : LineW a (w.setCell ⟨bf, j, none⟩ (.bool v)) L bs bf sl n cap room g I S (fun i => if i = j then v else F i) := by
  obtain ⟨c, h1, h2, h3⟩ := h.oS
  obtain ⟨d, e1, e2, e3⟩ := h.oF
  refine ⟨h.k.set h.gF _, h.it, h.oL.other h.n2 _, ⟨c, h1.other h.n3 _, h2, h3⟩, ⟨_, e1.set j _, by rw [Array.size_setIfInBounds]; exact e2, fun i hi => ?_⟩, h.gL, h.gS, h.gF, h.n1, h.n2, h.n3⟩
  by_cases e : i = j
  · subst e; rw [Array.getElem?_setIfInBounds_self_of_lt (by omega), if_pos rfl]
  · rw [Array.getElem?_setIfInBounds_ne (by omega), if_neg e]; exact e3 i hi
theorem LineW.congr (h : LineW a w L bs bf sl n cap room g I S F) {S2 : Nat → Int} {F2 : Nat → Bool} (hS : ∀ i, i < n → S i = S2 i) (hF : ∀ i, i < n → F i = F2 i) : LineW a w L bs bf sl n cap room g I S2 F2 := by
  obtain ⟨c, h1, h2, h3⟩ := h.oS
  obtain ⟨d, e1, e2, e3⟩ := h.oF
  exact ⟨h.k, h.it, h.oL, ⟨c, h1, h2, fun i hi => by rw [← hS i hi]; exact h3 i hi⟩, ⟨d, e1, e2, fun i hi => by rw [← hF i hi]; exact e3 i hi⟩, h.gL, h.gS, h.gF, h.n1, h.n2, h.n3⟩
theorem Kept.toGrown {w w' : World} (h : Kept w w') : w.grownBy w' none := ⟨h.below.os, h.below.tape, h.below.output, h.size, fun k hk _ => h.below.block k hk⟩
/-- what each one that is not frozen is more -/
def mapD (F : Nat → Bool) (X : Nat → Int) : Nat → DataW Unit
  | 0 => .map []
  | k + 1 => if F k = true then mapD F X k else (mapD F X k).put (.int .i64 k) (.lit (.int .i64 (X k)))
theorem mapD_map (F : Nat → Bool) (X : Nat → Int) (k : Nat) : IsMap (mapD F X k) := by
  induction k with
  | zero => exact ⟨[], rfl⟩
  | succ k ih =>
    unfold mapD
    split
    · exact ih
    · obtain ⟨es, e⟩ := ih
      rw [e]
      exact ⟨_, rfl⟩
theorem mapD_has {F : Nat → Bool} {X : Nat → Int} : ∀ {k : Nat} {x : Int}, has (mapD F X k) (.int .i64 x) = true → ∃ i : Nat, i < k ∧ F i = false ∧ x = (i : Int) := by
  intro k
  induction k with
  | zero => intro x h; simp [mapD, has] at h
  | succ k ih =>
    intro x h
    unfold mapD at h
    split at h
    · obtain ⟨i, h1, h2, h3⟩ := ih h
      exact ⟨i, by omega, h2, h3⟩
    · rename_i hF
      by_cases e : x = (k : Int)
      · exact ⟨k, by omega, by simpa using hF, e⟩
      · rw [has_put_other (by intro h2; injection h2; contradiction)] at h
        obtain ⟨i, h1, h2, h3⟩ := ih h
        exact ⟨i, by omega, h2, h3⟩
theorem mapD_at {F : Nat → Bool} {X : Nat → Int} (z : DataW Unit) : ∀ {k i : Nat}, i < k → F i = false → (mapD F X k).atKey (.int .i64 i) z = .lit (.int .i64 (X i)) := by
  intro k
  induction k with
  | zero => intro i h; omega
  | succ k ih =>
    intro i h hF
    unfold mapD
    by_cases e : i = k
    · subst e
      rw [hF, if_neg (by decide)]
      exact atKey_put_same (mapD_map F X i) (show WideAt.IsKeyLit (.int .i64 (i : Int)) from trivial) _ _
    · split
      · exact ih (by omega) hF
      · rw [atKey_put_other (by intro h2; injection h2; omega)]
        exact ih (by omega) hF
theorem mapD_in {F : Nat → Bool} {X : Nat → Int} {k i : Nat} (h : i < k) (hF : F i = false) : has (mapD F X k) (.int .i64 i) = true := has_true_of_atKey fun z => mapD_at z h hF
theorem mapD_out {F : Nat → Bool} {X : Nat → Int} {k i : Nat} (hF : F i = true) : has (mapD F X k) (.int .i64 i) = false := by
  cases h : has (mapD F X k) (.int .i64 i) with
  | false => rfl
  | true =>
    obtain ⟨j, h1, h2, h3⟩ := mapD_has h
    obtain rfl : i = j := by omega
    rw [hF] at h2; cases h2
theorem mapD_look {F : Nat → Bool} {X : Nat → Int} {k : Nat} {x c : Int} {z : DataW Unit} (h : ((mapD F X k).put (.int .i64 k) (.lit (.int .i64 x))).atKey (.int .i64 k) z = .lit (.int .i64 c)) : c = x := by
  rw [atKey_put_same (mapD_map F X k) (show WideAt.IsKeyLit (.int .i64 (k : Int)) from trivial)] at h
  injection h with h
  injection h with _ h
  exact h.symm
theorem more_bd {g : Bool} {F : Nat → Bool} {H : Nat → Int} {n : Nat} (hI : ∀ i, i < n → itemB (I i) = true) (hH : ∀ i, i < n → 0 ≤ H i ∧ H i ≤ 268435456) (hn : n ≤ 32) (k : Nat) (hk : k ≤ n) : -8724152320 ≤ sumW (moreS g I F H) k ∧ sumW (moreS g I F H) k ≤ 8724152320 := by
  have := sumW_bd (n := k) (W := moreS g I F H) (a := -272629760) (b := 272629760) fun i hi => by
    unfold moreS
    split
    · omega
    · have := size_bd (g := g) (hI i (by omega)) (hH i (by omega)); omega
  omega
theorem set_grown (w : World) (p : Addr) (v : Value) : w.grownBy (w.setCell p v) (some p.block) :=
  ⟨rfl, rfl, rfl, by simp, fun i _ h => Below.heap_setCell w p v i (fun e => h (by rw [e]))⟩
theorem frz_step {F NF : Nat → Bool} {left : Lit → Bool} {i : Nat} {v : Bool} (hv : NF i = v) (j : Nat) : (if j = i then v else if left (.int .i64 j) = true then F j else NF j) = if (left (.int .i64 j) && !(Lit.int .i64 (j : Int)).sameKey (.int .i64 (i : Int))) = true then F j else NF j := by
  by_cases e : j = i
  · subst e
    rw [if_pos rfl, WideAt.sameKey_self (show WideAt.IsKeyLit (.int .i64 (j : Int)) from trivial), Bool.not_true, Bool.and_false, if_neg (by decide), hv]
  · rw [if_neg e, sameKey_ne (by intro h; injection h with _ h; omega), Bool.not_false, Bool.and_true]
theorem LineW.setG {g2 : Bool} (h : LineW a w L bs bf sl n cap room g I S F) : LineW a (w.setCell ⟨L, 2, none⟩ (.bool g2)) L bs bf sl n cap room g2 I S F := by
  obtain ⟨c, h1, h2, h3⟩ := h.oS
  obtain ⟨d, e1, e2, e3⟩ := h.oF
  exact ⟨h.k.set h.gL _, h.it, (h.oL.set 2 _).is (by rfl), ⟨c, h1.other h.n1.symm _, h2, h3⟩, ⟨d, e1.other h.n2.symm _, e2, e3⟩, h.gL, h.gS, h.gF, h.n1, h.n2, h.n3⟩
theorem made_cell (v : Value) (n : Nat) : ∀ i, i < n → (madeCells #[v] n)[i]? = some v := by
  intro i h
  unfold madeCells
  rw [Array.getElem?_map, Array.getElem?_range, if_pos (by simpa using h)]
  simp [Nat.mod_one]
end Go.Proofs.Yticnfoppdgeioaa
