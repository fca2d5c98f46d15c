/- Structs whose cells are all numbers. -/
import Derived.Test.YtpeoadnnemlphaaDoorOpenRow
namespace Go.Proofs.YtpeoadnnemlphaaDoor
open Go.RowKit Go.Deep Go.ChangeShapes Go.WideShapes
set_option linter.unusedSimpArgs false
set_option linter.unusedVariables false
set_option maxRecDepth 100000
theorem nint : Tryd.prog.cellsOf 3 = 1 := by kernel_rfl
theorem cint : IntCells Tryd.prog 3 := intCells_int Tryd.underlying3 nint
theorem nSize : Tryd.prog.cellsOf 50 = 2 := by kernel_rfl
theorem cSize : IntCells Tryd.prog 50 := intCells_struct Tryd.underlying50 fun j hj => by
  rw [nSize] at hj
  match j, hj with
  | 0, _ => exact ⟨0, _, rfl, by show 0 ≤ 0; decide, Nat.lt_of_lt_of_eq (by decide : 0 < 1) (congrArg (0 + ·) nint).symm, cint⟩
  | 1, _ => exact ⟨1, _, rfl, by show 1 ≤ 1; decide, Nat.lt_of_lt_of_eq (by decide : 1 < 2) (congrArg (1 + ·) nint).symm, cint⟩
theorem nRect : Tryd.prog.cellsOf 64 = 4 := by kernel_rfl
theorem cRect : IntCells Tryd.prog 64 := intCells_struct Tryd.underlying64 fun j hj => by
  rw [nRect] at hj
  match j, hj with
  | 0, _ => exact ⟨0, _, rfl, by show 0 ≤ 0; decide, Nat.lt_of_lt_of_eq (by decide : 0 < 2) (congrArg (0 + ·) nSize).symm, cSize⟩
  | 1, _ => exact ⟨0, _, rfl, by show 0 ≤ 1; decide, Nat.lt_of_lt_of_eq (by decide : 1 < 2) (congrArg (0 + ·) nSize).symm, cSize⟩
  | 2, _ => exact ⟨1, _, rfl, by show 2 ≤ 2; decide, Nat.lt_of_lt_of_eq (by decide : 2 < 4) (congrArg (2 + ·) nSize).symm, cSize⟩
  | 3, _ => exact ⟨1, _, rfl, by show 2 ≤ 3; decide, Nat.lt_of_lt_of_eq (by decide : 3 < 4) (congrArg (2 + ·) nSize).symm, cSize⟩
theorem nBox : Tryd.prog.cellsOf 68 = 4 := by kernel_rfl
theorem cBox : IntCells Tryd.prog 68 := intCells_struct Tryd.underlying68 fun j hj => by
  rw [nBox] at hj
  match j, hj with
  | 0, _ => exact ⟨0, _, rfl, by show 0 ≤ 0; decide, Nat.lt_of_lt_of_eq (by decide : 0 < 1) (congrArg (0 + ·) nint).symm, cint⟩
  | 1, _ => exact ⟨1, _, rfl, by show 1 ≤ 1; decide, Nat.lt_of_lt_of_eq (by decide : 1 < 2) (congrArg (1 + ·) nint).symm, cint⟩
  | 2, _ => exact ⟨2, _, rfl, by show 2 ≤ 2; decide, Nat.lt_of_lt_of_eq (by decide : 2 < 3) (congrArg (2 + ·) nint).symm, cint⟩
  | 3, _ => exact ⟨3, _, rfl, by show 3 ≤ 3; decide, Nat.lt_of_lt_of_eq (by decide : 3 < 4) (congrArg (3 + ·) nint).symm, cint⟩
theorem nFrag : Tryd.prog.cellsOf 72 = 6 := by kernel_rfl
theorem cFrag : IntCells Tryd.prog 72 := intCells_struct Tryd.underlying72 fun j hj => by
  rw [nFrag] at hj
  match j, hj with
  | 0, _ => exact ⟨0, _, rfl, by show 0 ≤ 0; decide, Nat.lt_of_lt_of_eq (by decide : 0 < 1) (congrArg (0 + ·) nint).symm, cint⟩
  | 1, _ => exact ⟨1, _, rfl, by show 1 ≤ 1; decide, Nat.lt_of_lt_of_eq (by decide : 1 < 2) (congrArg (1 + ·) nint).symm, cint⟩
  | 2, _ => exact ⟨2, _, rfl, by show 2 ≤ 2; decide, Nat.lt_of_lt_of_eq (by decide : 2 < 6) (congrArg (2 + ·) nRect).symm, cRect⟩
  | 3, _ => exact ⟨2, _, rfl, by show 2 ≤ 3; decide, Nat.lt_of_lt_of_eq (by decide : 3 < 6) (congrArg (2 + ·) nRect).symm, cRect⟩
  | 4, _ => exact ⟨2, _, rfl, by show 2 ≤ 4; decide, Nat.lt_of_lt_of_eq (by decide : 4 < 6) (congrArg (2 + ·) nRect).symm, cRect⟩
  | 5, _ => exact ⟨2, _, rfl, by show 2 ≤ 5; decide, Nat.lt_of_lt_of_eq (by decide : 5 < 6) (congrArg (2 + ·) nRect).symm, cRect⟩
theorem nPiece : Tryd.prog.cellsOf 70 = 6 := by kernel_rfl
theorem cPiece : IntCells Tryd.prog 70 := intCells_struct Tryd.underlying70 fun j hj => by
  rw [nPiece] at hj
  match j, hj with
  | 0, _ => exact ⟨0, _, rfl, by show 0 ≤ 0; decide, Nat.lt_of_lt_of_eq (by decide : 0 < 1) (congrArg (0 + ·) nint).symm, cint⟩
  | 1, _ => exact ⟨1, _, rfl, by show 1 ≤ 1; decide, Nat.lt_of_lt_of_eq (by decide : 1 < 2) (congrArg (1 + ·) nint).symm, cint⟩
  | 2, _ => exact ⟨2, _, rfl, by show 2 ≤ 2; decide, Nat.lt_of_lt_of_eq (by decide : 2 < 6) (congrArg (2 + ·) nBox).symm, cBox⟩
  | 3, _ => exact ⟨2, _, rfl, by show 2 ≤ 3; decide, Nat.lt_of_lt_of_eq (by decide : 3 < 6) (congrArg (2 + ·) nBox).symm, cBox⟩
  | 4, _ => exact ⟨2, _, rfl, by show 2 ≤ 4; decide, Nat.lt_of_lt_of_eq (by decide : 4 < 6) (congrArg (2 + ·) nBox).symm, cBox⟩
  | 5, _ => exact ⟨2, _, rfl, by show 2 ≤ 5; decide, Nat.lt_of_lt_of_eq (by decide : 5 < 6) (congrArg (2 + ·) nBox).symm, cBox⟩
theorem nMode : Tryd.prog.cellsOf 48 = 2 := by kernel_rfl
theorem cMode : IntCells Tryd.prog 48 := intCells_struct Tryd.underlying48 fun j hj => by
  rw [nMode] at hj
  match j, hj with
  | 0, _ => exact ⟨0, _, rfl, by show 0 ≤ 0; decide, Nat.lt_of_lt_of_eq (by decide : 0 < 1) (congrArg (0 + ·) nint).symm, cint⟩
  | 1, _ => exact ⟨1, _, rfl, by show 1 ≤ 1; decide, Nat.lt_of_lt_of_eq (by decide : 1 < 2) (congrArg (1 + ·) nint).symm, cint⟩
theorem nLength : Tryd.prog.cellsOf 23 = 2 := by kernel_rfl
theorem cLength : IntCells Tryd.prog 23 := intCells_struct Tryd.underlying23 fun j hj => by
  rw [nLength] at hj
  match j, hj with
  | 0, _ => exact ⟨0, _, rfl, by show 0 ≤ 0; decide, Nat.lt_of_lt_of_eq (by decide : 0 < 1) (congrArg (0 + ·) nint).symm, cint⟩
  | 1, _ => exact ⟨1, _, rfl, by show 1 ≤ 1; decide, Nat.lt_of_lt_of_eq (by decide : 1 < 2) (congrArg (1 + ·) nint).symm, cint⟩
end Go.Proofs.YtpeoadnnemlphaaDoor
