/- Structs whose cells are all numbers. -/
import Derived.Test.YtpjppnomfponfaaOpenRow
namespace Go.Proofs.Ytpjppnomfponfaa
open Go.RowKit Go.Deep Go.ChangeShapes Go.WideShapes
set_option linter.unusedSimpArgs false
set_option linter.unusedVariables false
theorem nint : Try.prog.cellsOf 3 = 1 := by kernel_rfl
theorem cint : IntCells Try.prog 3 := intCells_int Try.underlying3 nint
theorem nItem : Try.prog.cellsOf 56 = 6 := by kernel_rfl
theorem cItem : IntCells Try.prog 56 := intCells_struct Try.underlying56 fun j hj => by
  rw [nItem] at hj
  match j, hj with
  | 0, _ => exact ⟨0, _, rfl, by decide, by show 0 < 0 + Try.prog.cellsOf 3; rw [nint]; decide, cint⟩
  | 1, _ => exact ⟨1, _, rfl, by decide, by show 1 < 1 + Try.prog.cellsOf 3; rw [nint]; decide, cint⟩
  | 2, _ => exact ⟨2, _, rfl, by decide, by show 2 < 2 + Try.prog.cellsOf 3; rw [nint]; decide, cint⟩
  | 3, _ => exact ⟨3, _, rfl, by decide, by show 3 < 3 + Try.prog.cellsOf 3; rw [nint]; decide, cint⟩
  | 4, _ => exact ⟨4, _, rfl, by decide, by show 4 < 4 + Try.prog.cellsOf 3; rw [nint]; decide, cint⟩
  | 5, _ => exact ⟨5, _, rfl, by decide, by show 5 < 5 + Try.prog.cellsOf 3; rw [nint]; decide, cint⟩
theorem nSize : Try.prog.cellsOf 29 = 2 := by kernel_rfl
theorem cSize : IntCells Try.prog 29 := intCells_struct Try.underlying29 fun j hj => by
  rw [nSize] at hj
  match j, hj with
  | 0, _ => exact ⟨0, _, rfl, by decide, by show 0 < 0 + Try.prog.cellsOf 3; rw [nint]; decide, cint⟩
  | 1, _ => exact ⟨1, _, rfl, by decide, by show 1 < 1 + Try.prog.cellsOf 3; rw [nint]; decide, cint⟩
theorem nRect : Try.prog.cellsOf 31 = 4 := by kernel_rfl
theorem cRect : IntCells Try.prog 31 := intCells_struct Try.underlying31 fun j hj => by
  rw [nRect] at hj
  match j, hj with
  | 0, _ => exact ⟨0, _, rfl, by decide, by show 0 < 0 + Try.prog.cellsOf 29; rw [nSize]; decide, cSize⟩
  | 1, _ => exact ⟨0, _, rfl, by decide, by show 1 < 0 + Try.prog.cellsOf 29; rw [nSize]; decide, cSize⟩
  | 2, _ => exact ⟨1, _, rfl, by decide, by show 2 < 2 + Try.prog.cellsOf 29; rw [nSize]; decide, cSize⟩
  | 3, _ => exact ⟨1, _, rfl, by decide, by show 3 < 2 + Try.prog.cellsOf 29; rw [nSize]; decide, cSize⟩
theorem nExclusion : Try.prog.cellsOf 33 = 5 := by kernel_rfl
theorem cExclusion : IntCells Try.prog 33 := intCells_struct Try.underlying33 fun j hj => by
  rw [nExclusion] at hj
  match j, hj with
  | 0, _ => exact ⟨0, _, rfl, by decide, by show 0 < 0 + Try.prog.cellsOf 31; rw [nRect]; decide, cRect⟩
  | 1, _ => exact ⟨0, _, rfl, by decide, by show 1 < 0 + Try.prog.cellsOf 31; rw [nRect]; decide, cRect⟩
  | 2, _ => exact ⟨0, _, rfl, by decide, by show 2 < 0 + Try.prog.cellsOf 31; rw [nRect]; decide, cRect⟩
  | 3, _ => exact ⟨0, _, rfl, by decide, by show 3 < 0 + Try.prog.cellsOf 31; rw [nRect]; decide, cRect⟩
  | 4, _ => exact ⟨1, _, rfl, by decide, by show 4 < 4 + Try.prog.cellsOf 3; rw [nint]; decide, cint⟩
end Go.Proofs.Ytpjppnomfponfaa
