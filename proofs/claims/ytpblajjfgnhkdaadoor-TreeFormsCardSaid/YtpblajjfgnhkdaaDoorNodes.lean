/- Rows of nodes, as they lie. -/
import Derived.Test.YtpblajjfgnhkdaaDoorTreeS
import Derived.Test.YtpblajjfgnhkdaaDoorDeclC
namespace Go.Proofs.YtpblajjfgnhkdaaDoor
open Go.RowKit
set_option linter.unusedSimpArgs false
set_option linter.unusedVariables false
/-- the cells of nodes; D: where their declarations lie -/
def nodeC (N : Nat → Nd) (D : Nat → Value) (i j : Nat) : Value :=
  if j = 0 then .int .i64 (N i).parent else if j = 1 then .int .i64 (N i).kind else if j = 2 then .int .i64 (N i).flt else if j = 3 then .int .i64 (N i).clr else if j = 4 then D i else .string (N i).text
/-- a node's declarations lie there, and none of its texts is too long to be -/
structure NdAt (w : World) (x : Nd) (d : Value) : Prop where
  decls : RV 2 w d x.m (declC x.P x.T)
  few : x.m ≤ 5864062014634
  small : ∀ j, j < x.m → (x.T j).size ≤ 140737488355328
  text : x.text.size ≤ 140737488355328
theorem NdAt.kept {w w' : World} {x : Nd} {d : Value} (h : NdAt w x d) (k : Kept w w') : NdAt w' x d := ⟨h.decls.kept k, h.few, h.small, h.text⟩
/-- v is a slice of n nodes -/
structure NodesV (w : World) (v : Value) (n : Nat) (N : Nat → Nd) (D : Nat → Value) : Prop where
  row : RV 6 w v n (nodeC N D)
  each : ∀ i, i < n → NdAt w (N i) (D i)
theorem NodesV.kept {w w' : World} {v : Value} {n : Nat} {N : Nat → Nd} {D : Nat → Value} (h : NodesV w v n N D) (k : Kept w w') : NodesV w' v n N D := ⟨h.row.kept k, fun i hi => (h.each i hi).kept k⟩
theorem NodesV.less {w : World} {o : Option Addr} {n m cap : Nat} {N : Nat → Nd} {D : Nat → Value} (h : NodesV w (.slice o n cap) n N D) (hm : m ≤ n) : NodesV w (.slice o m cap) m N D := by
  refine ⟨?_, fun i hi => h.each i (by omega)⟩
  rcases Nat.eq_zero_or_pos m with rfl | hp
  · exact .inl ⟨rfl, o, cap, rfl⟩
  · obtain ⟨b, off, rfl, hle, hr⟩ := h.row.row (by omega)
    exact .inr ⟨b, off, cap, rfl, hp, by omega, hr.less hm⟩
/-- a node's value -/
abbrev ndV (x : Nd) (d : Value) : Value := .agg #[.int .i64 x.parent, .int .i64 x.kind, .int .i64 x.flt, .int .i64 x.clr, d, .string x.text]
/-- one node's cells -/
structure NdCells (w : World) (b o : Nat) (x : Nd) (d : Value) : Prop where
  c0 : w.cell? ⟨b, o, none⟩ = some (.int .i64 x.parent)
  c1 : w.cell? ⟨b, o + 1, none⟩ = some (.int .i64 x.kind)
  c2 : w.cell? ⟨b, o + 2, none⟩ = some (.int .i64 x.flt)
  c3 : w.cell? ⟨b, o + 3, none⟩ = some (.int .i64 x.clr)
  c4 : w.cell? ⟨b, o + 4, none⟩ = some d
  c5 : w.cell? ⟨b, o + 5, none⟩ = some (.string x.text)
theorem node_cells {w : World} {b off n i : Nat} {N : Nat → Nd} {D : Nat → Value} (h : RowAt w b off 6 n (nodeC N D)) (hi : i < n) : NdCells w b (off + i * 6) (N i) (D i) :=
  ⟨h i 0 hi (by decide), h i 1 hi (by decide), h i 2 hi (by decide), h i 3 hi (by decide), h i 4 hi (by decide), h i 5 hi (by decide)⟩
end Go.Proofs.YtpblajjfgnhkdaaDoor
