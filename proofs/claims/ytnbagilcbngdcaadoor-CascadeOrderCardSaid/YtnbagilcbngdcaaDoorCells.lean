/- Structs whose cells are all numbers. -/
import Derived.Test.YtnbagilcbngdcaaDoorOpenRow
namespace Go.Proofs.YtnbagilcbngdcaaDoor
open Go.RowKit Go.Deep Go.ChangeShapes Go.WideShapes
set_option linter.unusedSimpArgs false
set_option linter.unusedVariables false
set_option maxRecDepth 100000
theorem nint : Tryd.prog.cellsOf 3 = 1 := by kernel_rfl
theorem cint : IntCells Tryd.prog 3 := intCells_int Tryd.underlying3 nint
theorem nMode : Tryd.prog.cellsOf 38 = 2 := by kernel_rfl
theorem cMode : IntCells Tryd.prog 38 := intCells_struct Tryd.underlying38 fun j hj => by
  rw [nMode] at hj
  match j, hj with
  | 0, _ => exact ⟨0, _, rfl, by show 0 ≤ 0; decide, Nat.lt_of_lt_of_eq (by decide : 0 < 1) (congrArg (0 + ·) nint).symm, cint⟩
  | 1, _ => exact ⟨1, _, rfl, by show 1 ≤ 1; decide, Nat.lt_of_lt_of_eq (by decide : 1 < 2) (congrArg (1 + ·) nint).symm, cint⟩
theorem nLength : Tryd.prog.cellsOf 23 = 2 := by kernel_rfl
theorem cLength : IntCells Tryd.prog 23 := intCells_struct Tryd.underlying23 fun j hj => by
  rw [nLength] at hj
  match j, hj with
  | 0, _ => exact ⟨0, _, rfl, by show 0 ≤ 0; decide, Nat.lt_of_lt_of_eq (by decide : 0 < 1) (congrArg (0 + ·) nint).symm, cint⟩
  | 1, _ => exact ⟨1, _, rfl, by show 1 ≤ 1; decide, Nat.lt_of_lt_of_eq (by decide : 1 < 2) (congrArg (1 + ·) nint).symm, cint⟩
end Go.Proofs.YtnbagilcbngdcaaDoor
