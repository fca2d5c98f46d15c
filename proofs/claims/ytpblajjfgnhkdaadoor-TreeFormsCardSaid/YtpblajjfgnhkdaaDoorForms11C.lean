/- Layer 11: four nodes, one text of one of them another, or its declarations. -/
import Derived.Test.YtpblajjfgnhkdaaDoorForms11B
namespace Go.Proofs.YtpblajjfgnhkdaaDoor
open Go.RowKit
set_option linter.unusedSimpArgs false
set_option linter.unusedVariables false
set_option maxRecDepth 20000
theorem g11_m : ∀ j, j < 4 → (ndsL g11 j).m = 0 ∧ (ndsL g11 j).text.size ≤ 140737488355328 := fun j hj => by
  rcases (by omega : j = 0 ∨ j = 1 ∨ j = 2 ∨ j = 3) with rfl | rfl | rfl | rfl <;> exact ⟨rfl, by decide⟩
theorem copy_cap {a w : World} {b cap : Nat} {N : Nat → Nd} {D : Nat → Value} (h : NodesOwn a w (.slice (some ⟨b, 0, none⟩) 4 cap) 4 N D) : 4 ≤ cap := by
  rcases newRow_of h.row.own with ⟨h0, _⟩ | ⟨b', cap', cur', h1, h2, h3, _⟩
  · omega
  · injection h1 with _ _ h1; omega
theorem chgT_view {a w : World} {v : Value} {D : Nat → Value} (h : NodesOwn a w v 4 (ndsL g11) D) (i : Nat) (t : ByteArray) (hi : i < 4) (ht : t.size ≤ 140737488355328) : ∃ b cap cur, v = .slice (some ⟨b, 0, none⟩) 4 cap ∧ a.heap.size ≤ b ∧ Own w b 43 cur ∧ (∀ i j, i < 4 → j < 6 → cur[i * 6 + j]? = some (nodeC (ndsL g11) D i j)) ∧
    NodesV (w.setCell ⟨b, i * 6 + 5, none⟩ (.string t)) (.slice (some ⟨b, 0, none⟩) 4 cap) 4 (chgN (ndsL g11) i (ndT (ndsL g11 i) t)) D := by
  obtain ⟨b, cap, cur, rfl, hb, ho, hc⟩ := copy_own h (by decide)
  have hr := chg_row (u := .string t) ho hc hi (show 5 < 6 by omega) (C2 := nodeC (chgN (ndsL g11) i (ndT (ndsL g11 i) t)) D) fun i' j' hj' => chg_text (ndsL g11) D i t i' j' hj'
  refine ⟨b, cap, cur, rfl, hb, ho, hc, .inr ⟨b, 0, cap, rfl, by decide, copy_cap h, hr⟩, fun j hj => ?_⟩
  have hx : (chgN (ndsL g11) i (ndT (ndsL g11 i) t) j).m = 0 ∧ (chgN (ndsL g11) i (ndT (ndsL g11 i) t) j).text.size ≤ 140737488355328 := by
    unfold chgN
    split
    · rename_i e
      subst e
      exact ⟨(g11_m j hj).1, ht⟩
    · exact g11_m j hj
  obtain ⟨o, c, hD⟩ := copy_nil h hj (g11_m j hj).1
  exact ⟨.inl ⟨hx.1, o, c, hD⟩, by rw [hx.1]; decide, fun q hq => by rw [hx.1] at hq; omega, hx.2⟩
theorem chgD_view {a w : World} {v : Value} {D : Nat → Value} (h : NodesOwn a w v 4 (ndsL g11) D) (i m : Nat) (P : Nat → Int) (T : Nat → ByteArray) (cs : Array Value) (hi : i < 4) (hm0 : 0 < m) (hm : m ≤ 17) (hcs : ∀ i' j', i' < m → j' < 2 → cs[i' * 2 + j']? = some (declC P T i' j')) (hT : ∀ j, j < m → (T j).size ≤ 140737488355328) :
    ∃ b cap cur, v = .slice (some ⟨b, 0, none⟩) 4 cap ∧ a.heap.size ≤ b ∧ Own w b 43 cur ∧ (∀ i j, i < 4 → j < 6 → cur[i * 6 + j]? = some (nodeC (ndsL g11) D i j)) ∧
    NodesV ((w.alloc (.cells cs 46)).setCell ⟨b, i * 6 + 4, none⟩ (.slice (some ⟨w.heap.size, 0, none⟩) m m)) (.slice (some ⟨b, 0, none⟩) 4 cap) 4 (chgN (ndsL g11) i (ndD (ndsL g11 i) m P T)) (fun j => if j = i then .slice (some ⟨w.heap.size, 0, none⟩) m m else D j) := by
  obtain ⟨b, cap, cur, rfl, hb, ho, hc⟩ := copy_own h (by decide)
  have hr := chg_row (u := .slice (some ⟨w.heap.size, 0, none⟩) m m) (ho.alloc (.cells cs 46)) hc hi (show 4 < 6 by omega) (C2 := nodeC (chgN (ndsL g11) i (ndD (ndsL g11 i) m P T)) (fun j => if j = i then .slice (some ⟨w.heap.size, 0, none⟩) m m else D j)) fun i' j' hj' => chg_decl (ndsL g11) D i m P T _ i' j' hj'
  have hbw := ho.lt
  refine ⟨b, cap, cur, rfl, hb, ho, hc, .inr ⟨b, 0, cap, rfl, by decide, copy_cap h, hr⟩, fun j hj => ?_⟩
  by_cases e : j = i
  · subst e
    have e1 : chgN (ndsL g11) j (ndD (ndsL g11 j) m P T) j = ndD (ndsL g11 j) m P T := if_pos rfl
    rw [e1, if_pos rfl]
    have hd := (Own.new w cs 46).other (p := ⟨b, j * 6 + 4, none⟩) (show w.heap.size ≠ b by omega) (Value.slice (some ⟨w.heap.size, 0, none⟩) m m)
    exact ⟨.inr ⟨w.heap.size, 0, m, rfl, hm0, Nat.le_refl _, rowAt_own hd hcs⟩, Nat.le_trans hm (by decide), hT, (g11_m j hj).2⟩
  · have e1 : chgN (ndsL g11) i (ndD (ndsL g11 i) m P T) j = ndsL g11 j := if_neg e
    rw [e1, if_neg e]
    obtain ⟨o, c, hD⟩ := copy_nil h hj (g11_m j hj).1
    exact ⟨.inl ⟨(g11_m j hj).1, o, c, hD⟩, by rw [(g11_m j hj).1]; decide, fun q hq => by rw [(g11_m j hj).1] at hq; omega, (g11_m j hj).2⟩
theorem bad11_14 : treeB (chgN (ndsL g11) 2 (ndD (ndsL g11 2) 17 (fun _ => 0) (fun _ => ⟨#[]⟩))) 4 = false := by decide
theorem bad11_15 {q : Int} (q0 : 0 ≤ q) : treeB (chgN (ndsL g11) 2 (ndD (ndsL g11 2) 1 (fun _ => -(1 + q)) (fun _ => ⟨#[]⟩))) 4 = false :=
  tree_bad_node (k := 2) (by decide) (by
    show (true && true && true && (true && true && (true && (inB 0 28 (-(1 + q)) && true)))) = false
    rw [inB_no (by omega)]; rfl)
theorem bad11_16 : treeB (chgN (ndsL g11) 2 (ndD (ndsL g11 2) 1 (fun _ => 0) (fun _ => ⟨#[49, 50, 51, 52, 53, 54, 55, 56, 57, 48, 49, 50, 51, 52, 53, 54, 55]⟩))) 4 = false := by decide
theorem bad11_17 {t : ByteArray} (h : 80 < t.size) : treeB (chgN (ndsL g11) 1 (ndT (ndsL g11 1) t)) 4 = false :=
  tree_bad_node (k := 1) (by decide) (by
    show (true && true && true && (true && true && decide (t.size ≤ 80))) = false
    rw [decide_eq_false (by omega)]; rfl)
theorem bad11_18 : treeB (chgN (ndsL g11) 1 (ndD (ndsL g11 1) 1 (fun _ => 0) (fun _ => ⟨#[53]⟩))) 4 = false := by decide
theorem bad11_19 : treeB (chgN (ndsL g11) 3 (ndT (ndsL g11 3) ⟨#[97]⟩)) 4 = false := by decide
end Go.Proofs.YtpblajjfgnhkdaaDoor
