/- Rows of forme/api.Exclusion: copied, lent, compared, kept, written over. -/
import Derived.Test.YtkonpnaedniceaaRow
import Derived.Deep.QuietTactic
import Derived.BigQuiet
import Derived.Laws.MakeOwn
namespace Go.Proofs.Ytkonpnaedniceaa
open Go.RowKit Go.Deep Go.ChangeShapes Go.WideShapes
set_option linter.unusedSimpArgs false
set_option linter.unusedVariables false
theorem exclusionsInfo : (Try.prog.info? 43).map (fun i => (i.zero, i.size, i.bytes)) = some (some (.agg #[.int .i64 0, .int .i64 0, .int .i64 0, .int .i64 0, .int .i64 0]), 5, 40) := by kernel_rfl
theorem makeExclusions (m : Int) (M : Nat) (h0 : 0 ≤ m) (h1 : m ≤ 100000) (hM : m.toNat = M) (w : World) :
    (Instr.makeSlice 37 (.int .i64 m) (.int .i64 m)).run Try.prog w = .ok (.slice (some ⟨w.heap.size, 0, none⟩) M M) (w.alloc (.cells (madeCells #[.int .i64 0, .int .i64 0, .int .i64 0, .int .i64 0, .int .i64 0] (M * 5)) 43)) := by
  obtain ⟨i0, hi, hz0, hz1, hz2⟩ := info_parts exclusionsInfo
  have := run_make (P := Try.prog) w 37 43 i0 _ Try.underlying37 hi hz0 .i64 .i64 m m h0 (Int.le_refl _) (by rw [hz2]; omega) (by omega)
  rw [hM, hz1] at this
  exact this
theorem madeExclusions {w : World} {b M : Nat} {t : TypeId} (h : Own w b t (madeCells #[.int .i64 0, .int .i64 0, .int .i64 0, .int .i64 0, .int .i64 0] (M * 5))) (hp : 0 < M) : RV 5 w (.slice (some ⟨b, 0, none⟩) M M) M (intC fun _ _ => 0) :=
  .inr ⟨b, 0, M, rfl, hp, Nat.le_refl _, rowAt_own h fun i j hi hj => made_row rfl rfl (by decide) i j hi hj⟩
def exclusionsX (j : Nat) : Value := .int .i64 (if j = 4 then 77777 else 0)
end Go.Proofs.Ytkonpnaedniceaa
