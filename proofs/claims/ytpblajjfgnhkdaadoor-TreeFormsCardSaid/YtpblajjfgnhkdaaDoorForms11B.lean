/- Layer 11: four nodes, one number of one of them another: no tree. -/
import Derived.Test.YtpblajjfgnhkdaaDoorForms11
namespace Go.Proofs.YtpblajjfgnhkdaaDoor
open Go.RowKit
set_option linter.unusedSimpArgs false
set_option linter.unusedVariables false
set_option maxRecDepth 20000
theorem good_no {N : Nat → Nd} {n : Nat} {a : Int} (h : treeB N n = false) : goodT N n a = false := by unfold goodT; rw [h]; rfl
theorem inB_no {lo hi x : Int} (h : ¬ (lo ≤ x ∧ x ≤ hi)) : inB lo hi x = false := by
  cases hx : inB lo hi x with
  | false => rfl
  | true => exact absurd (inB_true.1 hx) h
theorem g11_high {q : Int} (q0 : 0 ≤ q) : goodT (ndsL g11) 4 (3 + (1 + q)) = false := by unfold goodT; rw [inB_no (by omega), Bool.and_false]
theorem g11_low {q : Int} (q0 : 0 ≤ q) : goodT (ndsL g11) 4 (-(1 + q)) = false := by unfold goodT; rw [inB_no (by omega), Bool.and_false]
theorem node_no1 {x : Nd} (h : inB 0 2 x.kind = false) : nodeB x = false := by unfold nodeB; rw [h]; rfl
theorem node_no2 {x : Nd} (h : inB 0 2 x.flt = false) : nodeB x = false := by unfold nodeB; rw [h, Bool.and_false]; rfl
theorem node_no3 {x : Nd} (h : inB 0 3 x.clr = false) : nodeB x = false := by unfold nodeB; rw [h, Bool.and_false]; rfl
theorem bad11_0 : treeB (chgN (ndsL g11) 0 (ndF (ndsL g11 0) 0 (0))) 4 = false := by decide
theorem bad11_1 : treeB (chgN (ndsL g11) 0 (ndF (ndsL g11 0) 1 (1))) 4 = false := by decide
theorem bad11_2 : treeB (chgN (ndsL g11) 0 (ndF (ndsL g11 0) 2 (1))) 4 = false := by decide
theorem bad11_3 : treeB (chgN (ndsL g11) 0 (ndF (ndsL g11 0) 3 (3))) 4 = false := by decide
theorem bad11_4 {q : Int} (q0 : 0 ≤ q) : treeB (chgN (ndsL g11) 1 (ndF (ndsL g11 1) 0 (-(1 + q)))) 4 = false := tree_bad_link (k := 1) (by decide) (by decide) (linkB_no1 (inB_no (show ¬ (0 ≤ -(1 + q) ∧ -(1 + q) ≤ ((1 : Nat) : Int) - 1) by omega)))
theorem bad11_5 : treeB (chgN (ndsL g11) 2 (ndF (ndsL g11 2) 0 (2))) 4 = false := by decide
theorem bad11_6 : treeB (chgN (ndsL g11) 3 (ndF (ndsL g11 3) 0 (1))) 4 = false := by decide
theorem bad11_7 {q : Int} (q0 : 0 ≤ q) : treeB (chgN (ndsL g11) 2 (ndF (ndsL g11 2) 1 (2 + (1 + q)))) 4 = false := tree_bad_node (k := 2) (by decide) (node_no1 (inB_no (show ¬ (0 ≤ 2 + (1 + q) ∧ 2 + (1 + q) ≤ 2) by omega)))
theorem bad11_8 {q : Int} (q0 : 0 ≤ q) : treeB (chgN (ndsL g11) 2 (ndF (ndsL g11 2) 2 (-(1 + q)))) 4 = false := tree_bad_node (k := 2) (by decide) (node_no2 (inB_no (show ¬ (0 ≤ -(1 + q) ∧ -(1 + q) ≤ 2) by omega)))
theorem bad11_9 {q : Int} (q0 : 0 ≤ q) : treeB (chgN (ndsL g11) 2 (ndF (ndsL g11 2) 3 (3 + (1 + q)))) 4 = false := tree_bad_node (k := 2) (by decide) (node_no3 (inB_no (show ¬ (0 ≤ 3 + (1 + q) ∧ 3 + (1 + q) ≤ 3) by omega)))
theorem bad11_10 : treeB (chgN (ndsL g11) 1 (ndF (ndsL g11 1) 2 (2))) 4 = false := by decide
theorem bad11_11 : treeB (chgN (ndsL g11) 1 (ndF (ndsL g11 1) 3 (1))) 4 = false := by decide
theorem bad11_12 : treeB (chgN (ndsL g11) 3 (ndF (ndsL g11 3) 2 (1))) 4 = false := by decide
theorem bad11_13 : treeB (chgN (ndsL g11) 3 (ndF (ndsL g11 3) 3 (2))) 4 = false := by decide
end Go.Proofs.YtpblajjfgnhkdaaDoor
