/- Structs whose cells are all numbers. -/
import Derived.Test.YtkonpnaedniceaaOpenRow
namespace Go.Proofs.Ytkonpnaedniceaa
open Go.RowKit Go.Deep Go.ChangeShapes Go.WideShapes
set_option linter.unusedSimpArgs false
set_option linter.unusedVariables false
set_option maxRecDepth 100000
theorem nint : Try.prog.cellsOf 3 = 1 := by kernel_rfl
theorem cint : IntCells Try.prog 3 := intCells_int Try.underlying3 nint
theorem nSize : Try.prog.cellsOf 39 = 2 := by kernel_rfl
theorem cSize : IntCells Try.prog 39 := intCells_struct Try.underlying39 fun j hj => by
  rw [nSize] at hj
  match j, hj with
  | 0, _ => exact ⟨0, _, rfl, by show 0 ≤ 0; decide, Nat.lt_of_lt_of_eq (by decide : 0 < 1) (congrArg (0 + ·) nint).symm, cint⟩
  | 1, _ => exact ⟨1, _, rfl, by show 1 ≤ 1; decide, Nat.lt_of_lt_of_eq (by decide : 1 < 2) (congrArg (1 + ·) nint).symm, cint⟩
theorem nRect : Try.prog.cellsOf 41 = 4 := by kernel_rfl
theorem cRect : IntCells Try.prog 41 := intCells_struct Try.underlying41 fun j hj => by
  rw [nRect] at hj
  match j, hj with
  | 0, _ => exact ⟨0, _, rfl, by show 0 ≤ 0; decide, Nat.lt_of_lt_of_eq (by decide : 0 < 2) (congrArg (0 + ·) nSize).symm, cSize⟩
  | 1, _ => exact ⟨0, _, rfl, by show 0 ≤ 1; decide, Nat.lt_of_lt_of_eq (by decide : 1 < 2) (congrArg (0 + ·) nSize).symm, cSize⟩
  | 2, _ => exact ⟨1, _, rfl, by show 2 ≤ 2; decide, Nat.lt_of_lt_of_eq (by decide : 2 < 4) (congrArg (2 + ·) nSize).symm, cSize⟩
  | 3, _ => exact ⟨1, _, rfl, by show 2 ≤ 3; decide, Nat.lt_of_lt_of_eq (by decide : 3 < 4) (congrArg (2 + ·) nSize).symm, cSize⟩
theorem nExclusion : Try.prog.cellsOf 43 = 5 := by kernel_rfl
theorem cExclusion : IntCells Try.prog 43 := intCells_struct Try.underlying43 fun j hj => by
  rw [nExclusion] at hj
  match j, hj with
  | 0, _ => exact ⟨0, _, rfl, by show 0 ≤ 0; decide, Nat.lt_of_lt_of_eq (by decide : 0 < 4) (congrArg (0 + ·) nRect).symm, cRect⟩
  | 1, _ => exact ⟨0, _, rfl, by show 0 ≤ 1; decide, Nat.lt_of_lt_of_eq (by decide : 1 < 4) (congrArg (0 + ·) nRect).symm, cRect⟩
  | 2, _ => exact ⟨0, _, rfl, by show 0 ≤ 2; decide, Nat.lt_of_lt_of_eq (by decide : 2 < 4) (congrArg (0 + ·) nRect).symm, cRect⟩
  | 3, _ => exact ⟨0, _, rfl, by show 0 ≤ 3; decide, Nat.lt_of_lt_of_eq (by decide : 3 < 4) (congrArg (0 + ·) nRect).symm, cRect⟩
  | 4, _ => exact ⟨1, _, rfl, by show 4 ≤ 4; decide, Nat.lt_of_lt_of_eq (by decide : 4 < 5) (congrArg (4 + ·) nint).symm, cint⟩
theorem nLine : Try.prog.cellsOf 27 = 3 := by kernel_rfl
theorem cLine : IntCells Try.prog 27 := intCells_struct Try.underlying27 fun j hj => by
  rw [nLine] at hj
  match j, hj with
  | 0, _ => exact ⟨0, _, rfl, by show 0 ≤ 0; decide, Nat.lt_of_lt_of_eq (by decide : 0 < 1) (congrArg (0 + ·) nint).symm, cint⟩
  | 1, _ => exact ⟨1, _, rfl, by show 1 ≤ 1; decide, Nat.lt_of_lt_of_eq (by decide : 1 < 2) (congrArg (1 + ·) nint).symm, cint⟩
  | 2, _ => exact ⟨2, _, rfl, by show 2 ≤ 2; decide, Nat.lt_of_lt_of_eq (by decide : 2 < 3) (congrArg (2 + ·) nint).symm, cint⟩
end Go.Proofs.Ytkonpnaedniceaa
