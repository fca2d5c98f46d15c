/- Layer 2: the six modes. -/
import Derived.Test.YtkapmnbkmljpkaaDoorLaws2
namespace Go.Proofs.YtkapmnbkmljpkaaDoor
open Go.RowKit
/-- the six modes lie there -/
structure Modes6 (w : World) (g : Nat) : Prop where
  lt : g < w.heap.size
  c0 : w.cell? ⟨g, 0, none⟩ = some (.int .i64 0)
  c1 : w.cell? ⟨g, 1, none⟩ = some (.int .i64 0)
  c2 : w.cell? ⟨g, 2, none⟩ = some (.int .i64 0)
  c3 : w.cell? ⟨g, 3, none⟩ = some (.int .i64 1)
  c4 : w.cell? ⟨g, 4, none⟩ = some (.int .i64 1)
  c5 : w.cell? ⟨g, 5, none⟩ = some (.int .i64 0)
  c6 : w.cell? ⟨g, 6, none⟩ = some (.int .i64 1)
  c7 : w.cell? ⟨g, 7, none⟩ = some (.int .i64 1)
  c8 : w.cell? ⟨g, 8, none⟩ = some (.int .i64 2)
  c9 : w.cell? ⟨g, 9, none⟩ = some (.int .i64 0)
  c10 : w.cell? ⟨g, 10, none⟩ = some (.int .i64 2)
  c11 : w.cell? ⟨g, 11, none⟩ = some (.int .i64 1)
theorem Modes6.kept {w w' : World} {g : Nat} (h : Modes6 w g) (k : Kept w w') : Modes6 w' g :=
  ⟨Nat.lt_of_lt_of_le h.lt k.size, (k.cell h.lt).trans h.c0, (k.cell h.lt).trans h.c1, (k.cell h.lt).trans h.c2, (k.cell h.lt).trans h.c3, (k.cell h.lt).trans h.c4, (k.cell h.lt).trans h.c5, (k.cell h.lt).trans h.c6, (k.cell h.lt).trans h.c7, (k.cell h.lt).trans h.c8, (k.cell h.lt).trans h.c9, (k.cell h.lt).trans h.c10, (k.cell h.lt).trans h.c11⟩
theorem modes6_of {w w1 : World} {g : Nat} (h : Lies w w1 g allModes) : Modes6 w1 g :=
  ⟨h.lt, h.cell 0 _ rfl, h.cell 1 _ rfl, h.cell 2 _ rfl, h.cell 3 _ rfl, h.cell 4 _ rfl, h.cell 5 _ rfl, h.cell 6 _ rfl, h.cell 7 _ rfl, h.cell 8 _ rfl, h.cell 9 _ rfl, h.cell 10 _ rfl, h.cell 11 _ rfl⟩
end Go.Proofs.YtkapmnbkmljpkaaDoor
