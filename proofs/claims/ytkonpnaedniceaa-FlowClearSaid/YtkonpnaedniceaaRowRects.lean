/- Rows of forme/api.Rect: copied, lent, compared, kept, written over. -/
import Derived.Test.YtkonpnaedniceaaRow
import Derived.Deep.QuietTactic
import Derived.BigQuiet
import Derived.Laws.MakeOwn
namespace Go.Proofs.Ytkonpnaedniceaa
open Go.RowKit Go.Deep Go.ChangeShapes Go.WideShapes
set_option linter.unusedSimpArgs false
set_option linter.unusedVariables false
theorem rectsInfo : (Try.prog.info? 41).map (fun i => (i.zero, i.size, i.bytes)) = some (some (.agg #[.int .i64 0, .int .i64 0, .int .i64 0, .int .i64 0]), 4, 32) := by kernel_rfl
theorem makeRects (m : Int) (M : Nat) (h0 : 0 ≤ m) (h1 : m ≤ 100000) (hM : m.toNat = M) (w : World) :
    (Instr.makeSlice 47 (.int .i64 m) (.int .i64 m)).run Try.prog w = .ok (.slice (some ⟨w.heap.size, 0, none⟩) M M) (w.alloc (.cells (madeCells #[.int .i64 0, .int .i64 0, .int .i64 0, .int .i64 0] (M * 4)) 41)) := by
  obtain ⟨i0, hi, hz0, hz1, hz2⟩ := info_parts rectsInfo
  have := run_make (P := Try.prog) w 47 41 i0 _ Try.underlying47 hi hz0 .i64 .i64 m m h0 (Int.le_refl _) (by rw [hz2]; omega) (by omega)
  rw [hM, hz1] at this
  exact this
theorem madeRects {w : World} {b M : Nat} {t : TypeId} (h : Own w b t (madeCells #[.int .i64 0, .int .i64 0, .int .i64 0, .int .i64 0] (M * 4))) (hp : 0 < M) : RV 4 w (.slice (some ⟨b, 0, none⟩) M M) M (intC fun _ _ => 0) :=
  .inr ⟨b, 0, M, rfl, hp, Nat.le_refl _, rowAt_own h fun i j hi hj => made_row rfl rfl (by decide) i j hi hj⟩
def rectsX (j : Nat) : Value := .int .i64 (if j = 2 then 77777 else 0)
theorem sameRects_none (o1 o2 : Option Addr) (c1 c2 : Nat) (w : World) :
    Calls Try.prog 21 #[.slice o1 0 c1, .slice o2 0 c2] w fun e w' => e = .returned (.bool true) ∧ Kept w w' := by
  go_enter Try.func21, Try.ntmps21
  go_wp2
  refine wp_loop_rounds 1 ?_
  rw [rounds_succ]
  go_wp2
  go_ret
  exact ⟨rfl, Kept.refl _⟩
set_option maxHeartbeats 1000000 in
theorem sameRects_some (b1 o1 c1 b2 o2 c2 n : Nat) (Z : Nat → Nat → Int) (w : World) (h1 : RowAt w b1 o1 4 n (intC Z)) (h2 : RowAt w b2 o2 4 n (intC Z)) (hn : n ≤ 4398046510976) :
    Calls Try.prog 21 #[.slice (some ⟨b1, o1, none⟩) n c1, .slice (some ⟨b2, o2, none⟩) n c2] w fun e w' => e = .returned (.bool true) ∧ Kept w w' := by
  go_enter Try.func21, Try.ntmps21
  go_wp2
  go_loopw [5] (fun i wx => ∃ k : Nat, k ≤ n ∧ i = .int .i64 k ∧ Kept w wx) (fun i _ => n - (intOf i).toNat)
  case atStart => exact ⟨0, Nat.zero_le _, rfl, Kept.refl _⟩
  case round =>
    obtain ⟨k, hk4, rfl, hk⟩ := hrel
    by_cases hlt : k < n
    · have x0 : wr.cell? ⟨b1, o1 + k * 4, none⟩ = some (.int .i64 (Z k 0)) := (h1.kept hk) k 0 hlt (by decide)
      have x1 : wr.cell? ⟨b1, o1 + k * 4 + 1, none⟩ = some (.int .i64 (Z k 1)) := (h1.kept hk) k 1 hlt (by decide)
      have x2 : wr.cell? ⟨b1, o1 + k * 4 + 2, none⟩ = some (.int .i64 (Z k 2)) := (h1.kept hk) k 2 hlt (by decide)
      have x3 : wr.cell? ⟨b1, o1 + k * 4 + 3, none⟩ = some (.int .i64 (Z k 3)) := (h1.kept hk) k 3 hlt (by decide)
      have y0 : wr.cell? ⟨b2, o2 + k * 4, none⟩ = some (.int .i64 (Z k 0)) := (h2.kept hk) k 0 hlt (by decide)
      have y1 : wr.cell? ⟨b2, o2 + k * 4 + 1, none⟩ = some (.int .i64 (Z k 1)) := (h2.kept hk) k 1 hlt (by decide)
      have y2 : wr.cell? ⟨b2, o2 + k * 4 + 2, none⟩ = some (.int .i64 (Z k 2)) := (h2.kept hk) k 2 hlt (by decide)
      have y3 : wr.cell? ⟨b2, o2 + k * 4 + 3, none⟩ = some (.int .i64 (Z k 3)) := (h2.kept hk) k 3 hlt (by decide)
      generalize Z k 0 = z0 at *
      generalize Z k 1 = z1 at *
      generalize Z k 2 = z2 at *
      generalize Z k 3 = z3 at *
      have hi0 : (0 : Int) ≤ (k : Int) := Int.natCast_nonneg _
      have hi1 : (k : Int) < (n : Int) := by omega
      go_wp2
      go_quiet (fail)
      go_wp2
      go_roundw
      case rel => exact ⟨k + 1, by omega, by go_num, (by first | ((repeat (first | with_reducible exact hk | with_reducible refine Kept.alloc ?_ _ | with_reducible refine Kept.drew ?_ | with_reducible refine Kept.drewN ?_ _ | with_reducible refine Kept.set ?_ (by first | (simp; done) | (simp; omega) | omega) _)); done) | exact hk | exact (hk.alloc _) | exact ((hk.alloc _).alloc _) | exact (((hk.alloc _).alloc _).alloc _) | exact ((((hk.alloc _).alloc _).alloc _).alloc _) | exact (((((hk.alloc _).alloc _).alloc _).alloc _).alloc _) | exact ((((((hk.alloc _).alloc _).alloc _).alloc _).alloc _).alloc _) | (repeat (first | exact hk | refine Kept.alloc ?_ _ | refine Kept.drew ?_ | refine Kept.drewN ?_ _ | refine Kept.set ?_ (by first | (simp; done) | (simp; omega) | omega) _)))⟩
      case measure => simp [intOf]; omega
    · go_wp2
      go_ret
      exact ⟨rfl, hk⟩
theorem sameRects_yes {w : World} {v1 v2 : Value} {n : Nat} {Z : Nat → Nat → Int} (h1 : RV 4 w v1 n (intC Z)) (h2 : RV 4 w v2 n (intC Z)) (hn : n ≤ 4398046510976) :
    Calls Try.prog 21 #[v1, v2] w fun e w' => e = .returned (.bool true) ∧ Kept w w' := by
  rcases h1 with ⟨rfl, o, c, rfl⟩ | ⟨b, o, c, rfl, hp, _, g1⟩ <;> rcases h2 with ⟨h0, o2, c2, rfl⟩ | ⟨b2, o2, c2, rfl, hp2, _, g2⟩
  · exact sameRects_none _ _ _ _ w
  · omega
  · omega
  · exact sameRects_some _ _ _ _ _ _ n Z w g1 g2 hn
end Go.Proofs.Ytkonpnaedniceaa
