/- Layer 11: four nodes, changed in one thing: none of them is a tree. -/
import Derived.Test.YtpblajjfgnhkdaaDoorAwake11
import Derived.Test.YtpblajjfgnhkdaaDoorCopyNodes
namespace Go.Proofs.YtpblajjfgnhkdaaDoor
open Go.RowKit
set_option linter.unusedSimpArgs false
set_option linter.unusedVariables false
set_option maxRecDepth 20000
def g11 : List Nd := [ndL (-1) 0 0 0 ⟨#[]⟩, ndL 0 1 0 0 ⟨#[97]⟩, ndL 0 2 0 0 ⟨#[]⟩, ndL 2 0 0 0 ⟨#[]⟩]
theorem g11_tree : treeB (ndsL g11) 4 = true := by decide
/-- node i is another one -/
def chgN (N : Nat → Nd) (i : Nat) (x : Nd) (j : Nat) : Nd := if j = i then x else N j
/-- a node's number in one cell -/
def ndF (x : Nd) (f : Nat) (z : Int) : Nd := if f = 0 then { x with parent := z } else if f = 1 then { x with kind := z } else if f = 2 then { x with flt := z } else { x with clr := z }
def ndT (x : Nd) (t : ByteArray) : Nd := { x with text := t }
def ndD (x : Nd) (m : Nat) (P : Nat → Int) (T : Nat → ByteArray) : Nd := { x with m := m, P := P, T := T }
/-- where one cell of one node is written -/
theorem chg_cell (N : Nat → Nd) (D : Nat → Value) (i f : Nat) (z : Int) (hf : f < 4) (i' j' : Nat) (hj : j' < 6) : nodeC (chgN N i (ndF (N i) f z)) D i' j' = if i' = i ∧ j' = f then .int .i64 z else nodeC N D i' j' := by
  by_cases e : i' = i
  · subst e
    have e1 : chgN N i' (ndF (N i') f z) i' = ndF (N i') f z := if_pos rfl
    unfold nodeC
    rw [e1]
    rcases (by omega : f = 0 ∨ f = 1 ∨ f = 2 ∨ f = 3) with rfl | rfl | rfl | rfl <;>
      rcases (by omega : j' = 0 ∨ j' = 1 ∨ j' = 2 ∨ j' = 3 ∨ j' = 4 ∨ j' = 5) with rfl | rfl | rfl | rfl | rfl | rfl <;> simp [ndF]
  · rw [if_neg (fun h => e h.1)]
    unfold nodeC
    rw [show chgN N i (ndF (N i) f z) i' = N i' from if_neg e]
theorem chg_text (N : Nat → Nd) (D : Nat → Value) (i : Nat) (t : ByteArray) (i' j' : Nat) (hj : j' < 6) : nodeC (chgN N i (ndT (N i) t)) D i' j' = if i' = i ∧ j' = 5 then .string t else nodeC N D i' j' := by
  by_cases e : i' = i
  · subst e
    have e1 : chgN N i' (ndT (N i') t) i' = ndT (N i') t := if_pos rfl
    unfold nodeC
    rw [e1]
    rcases (by omega : j' = 0 ∨ j' = 1 ∨ j' = 2 ∨ j' = 3 ∨ j' = 4 ∨ j' = 5) with rfl | rfl | rfl | rfl | rfl | rfl <;> simp [ndT]
  · rw [if_neg (fun h => e h.1)]
    unfold nodeC
    rw [show chgN N i (ndT (N i) t) i' = N i' from if_neg e]
theorem chg_decl (N : Nat → Nd) (D : Nat → Value) (i m : Nat) (P : Nat → Int) (T : Nat → ByteArray) (d : Value) (i' j' : Nat) (hj : j' < 6) : nodeC (chgN N i (ndD (N i) m P T)) (fun j => if j = i then d else D j) i' j' = if i' = i ∧ j' = 4 then d else nodeC N D i' j' := by
  by_cases e : i' = i
  · subst e
    have e1 : chgN N i' (ndD (N i') m P T) i' = ndD (N i') m P T := if_pos rfl
    unfold nodeC
    rw [e1]
    rcases (by omega : j' = 0 ∨ j' = 1 ∨ j' = 2 ∨ j' = 3 ∨ j' = 4 ∨ j' = 5) with rfl | rfl | rfl | rfl | rfl | rfl <;> simp [ndD]
  · rw [if_neg (fun h => e h.1)]
    unfold nodeC
    rw [show chgN N i (ndD (N i) m P T) i' = N i' from if_neg e]
    dsimp only
    rw [if_neg e]
/-- the row, where one of its cells is written -/
theorem chg_row {w : World} {b n k i f : Nat} {t : TypeId} {cur : Array Value} {C C2 : Nat → Nat → Value} {u : Value} (h : Own w b t cur) (hc : ∀ i j, i < n → j < k → cur[i * k + j]? = some (C i j)) (hi : i < n) (hf : f < k)
    (h2 : ∀ i' j', j' < k → C2 i' j' = if i' = i ∧ j' = f then u else C i' j') : RowAt (w.setCell ⟨b, i * k + f, none⟩ u) b 0 k n C2 := by
  have hs : i * k + f < cur.size := (Array.getElem?_eq_some_iff.1 (hc i f hi hf)).1
  intro i' j' hi' hj'
  rw [Nat.zero_add, (h.set (i * k + f) u).cell, h2 i' j' hj']
  by_cases e : i' = i ∧ j' = f
  · obtain ⟨rfl, rfl⟩ := e
    rw [if_pos ⟨rfl, rfl⟩, Array.getElem?_setIfInBounds_self_of_lt hs]
  · rw [if_neg e, Array.getElem?_setIfInBounds_ne, hc i' j' hi' hj']
    intro e2
    apply e
    have hk : 0 < k := by omega
    have h3 : (i * k + f) / k = (i' * k + j') / k := by rw [e2]
    have h4 : (i * k + f) % k = (i' * k + j') % k := by rw [e2]
    rw [Nat.mul_comm i, Nat.mul_comm i', Nat.mul_add_div hk, Nat.mul_add_div hk, Nat.div_eq_of_lt hf, Nat.div_eq_of_lt hj'] at h3
    rw [Nat.mul_comm i, Nat.mul_comm i', Nat.mul_add_mod, Nat.mul_add_mod, Nat.mod_eq_of_lt hf, Nat.mod_eq_of_lt hj'] at h4
    omega
/-- an unfit node, an unfit link -/
theorem tree_bad_node {N : Nat → Nd} {n k : Nat} (hk : k < n) (h : nodeB (N k) = false) : treeB N n = false := by
  cases ht : treeB N n with
  | false => rfl
  | true => have := (treeB_true.1 ht).2.1; rw [nodesB_no hk h] at this; cases this
theorem tree_bad_link {N : Nat → Nd} {n k : Nat} (h0 : 0 < k) (hk : k < n) (h : linkB N k = false) : treeB N n = false := by
  cases ht : treeB N n with
  | false => rfl
  | true => have := (treeB_true.1 ht).2.2.2; rw [linksB_no h0 hk h] at this; cases this
/-- the copy: cells of its own, its declarations none -/
theorem copy_own {a w : World} {v : Value} {N : Nat → Nd} {D : Nat → Value} {n : Nat} (h : NodesOwn a w v n N D) (hn : 0 < n) : ∃ b cap cur, v = .slice (some ⟨b, 0, none⟩) n cap ∧ a.heap.size ≤ b ∧ Own w b 43 cur ∧ ∀ i j, i < n → j < 6 → cur[i * 6 + j]? = some (nodeC N D i j) := by
  rcases newRow_of h.row.own with ⟨h0, _⟩ | ⟨b, cap, cur, h1, h2, h3, h4, h5, h6, h7, h8⟩
  · omega
  · exact ⟨b, cap, cur, h1, h5, h6, h8⟩
theorem copy_nil {a w : World} {v : Value} {N : Nat → Nd} {D : Nat → Value} {n i : Nat} (h : NodesOwn a w v n N D) (hi : i < n) (h0 : (N i).m = 0) : ∃ o c, D i = .slice o 0 c := by
  obtain ⟨o, c, e⟩ := row_len11 (h.each i hi).own
  rw [h0] at e
  exact ⟨o, c, e⟩
/-- four nodes without declarations, one number of one of them another -/
theorem chg_view {a w : World} {v : Value} {D : Nat → Value} (h : NodesOwn a w v 4 (ndsL g11) D) (i f : Nat) (z : Int) (hi : i < 4) (hf : f < 4) : ∃ b cap cur, v = .slice (some ⟨b, 0, none⟩) 4 cap ∧ a.heap.size ≤ b ∧ Own w b 43 cur ∧ (∀ i j, i < 4 → j < 6 → cur[i * 6 + j]? = some (nodeC (ndsL g11) D i j)) ∧
    NodesV (w.setCell ⟨b, i * 6 + f, none⟩ (.int .i64 z)) (.slice (some ⟨b, 0, none⟩) 4 cap) 4 (chgN (ndsL g11) i (ndF (ndsL g11 i) f z)) D := by
  obtain ⟨b, cap, cur, hv, hb, ho, hc⟩ := copy_own h (by decide)
  have hr := chg_row (u := .int .i64 z) ho hc hi (show f < 6 by omega) (C2 := nodeC (chgN (ndsL g11) i (ndF (ndsL g11 i) f z)) D) fun i' j' hj' => chg_cell (ndsL g11) D i f z hf i' j' hj'
  have hcap : 4 ≤ cap := by
    rcases newRow_of h.row.own with ⟨h0, _⟩ | ⟨b', cap', cur', h1, h2, h3, _⟩
    · omega
    · rw [hv] at h1; injection h1 with _ _ h1; omega
  have hm : ∀ j, j < 4 → (ndsL g11 j).m = 0 ∧ (ndsL g11 j).text.size ≤ 140737488355328 := fun j hj => by
    rcases (by omega : j = 0 ∨ j = 1 ∨ j = 2 ∨ j = 3) with rfl | rfl | rfl | rfl <;> exact ⟨rfl, by decide⟩
  refine ⟨b, cap, cur, hv, hb, ho, hc, .inr ⟨b, 0, cap, rfl, by decide, hcap, hr⟩, fun j hj => ?_⟩
  have hx : (chgN (ndsL g11) i (ndF (ndsL g11 i) f z) j).m = 0 ∧ (chgN (ndsL g11) i (ndF (ndsL g11 i) f z) j).text.size ≤ 140737488355328 := by
    unfold chgN
    split
    · rename_i e
      subst e
      unfold ndF
      split
      · exact hm j hj
      · split
        · exact hm j hj
        · split
          · exact hm j hj
          · exact hm j hj
    · exact hm j hj
  obtain ⟨o, c, hD⟩ := copy_nil h hj (hm j hj).1
  exact ⟨.inl ⟨hx.1, o, c, hD⟩, by rw [hx.1]; decide, fun q hq => by rw [hx.1] at hq; omega, hx.2⟩
end Go.Proofs.YtpblajjfgnhkdaaDoor
