/- Structs whose cells are all numbers. -/
import Derived.Test.YticnfoppdgeioaaOpenRow
namespace Go.Proofs.Yticnfoppdgeioaa
open Go.RowKit Go.Deep Go.ChangeShapes Go.WideShapes
set_option linter.unusedSimpArgs false
set_option linter.unusedVariables false
set_option maxRecDepth 100000
theorem nint : Try.prog.cellsOf 3 = 1 := by kernel_rfl
theorem cint : IntCells Try.prog 3 := intCells_int Try.underlying3 nint
theorem nItem : Try.prog.cellsOf 38 = 6 := by kernel_rfl
theorem cItem : IntCells Try.prog 38 := intCells_struct Try.underlying38 fun j hj => by
  rw [nItem] at hj
  match j, hj with
  | 0, _ => exact ⟨0, _, rfl, by show 0 ≤ 0; decide, Nat.lt_of_lt_of_eq (by decide : 0 < 1) (congrArg (0 + ·) nint).symm, cint⟩
  | 1, _ => exact ⟨1, _, rfl, by show 1 ≤ 1; decide, Nat.lt_of_lt_of_eq (by decide : 1 < 2) (congrArg (1 + ·) nint).symm, cint⟩
  | 2, _ => exact ⟨2, _, rfl, by show 2 ≤ 2; decide, Nat.lt_of_lt_of_eq (by decide : 2 < 3) (congrArg (2 + ·) nint).symm, cint⟩
  | 3, _ => exact ⟨3, _, rfl, by show 3 ≤ 3; decide, Nat.lt_of_lt_of_eq (by decide : 3 < 4) (congrArg (3 + ·) nint).symm, cint⟩
  | 4, _ => exact ⟨4, _, rfl, by show 4 ≤ 4; decide, Nat.lt_of_lt_of_eq (by decide : 4 < 5) (congrArg (4 + ·) nint).symm, cint⟩
  | 5, _ => exact ⟨5, _, rfl, by show 5 ≤ 5; decide, Nat.lt_of_lt_of_eq (by decide : 5 < 6) (congrArg (5 + ·) nint).symm, cint⟩
end Go.Proofs.Yticnfoppdgeioaa
