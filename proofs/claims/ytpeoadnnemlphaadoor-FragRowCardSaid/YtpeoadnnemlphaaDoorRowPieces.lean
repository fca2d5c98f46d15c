/- Rows of forme/api.Piece: copied, lent, compared, kept, written over. -/
import Derived.Test.YtpeoadnnemlphaaDoorRow
import Derived.Deep.QuietTactic
import Derived.BigQuiet
import Derived.Laws.MakeOwn
namespace Go.Proofs.YtpeoadnnemlphaaDoor
open Go.RowKit Go.Deep Go.ChangeShapes Go.WideShapes
set_option linter.unusedSimpArgs false
set_option linter.unusedVariables false
theorem piecesInfo : (Tryd.prog.info? 70).map (fun i => (i.zero, i.size, i.bytes)) = some (some (.agg #[.int .i64 0, .int .i64 0, .int .i64 0, .int .i64 0, .int .i64 0, .int .i64 0]), 6, 48) := by kernel_rfl
theorem makePieces (m : Int) (M : Nat) (h0 : 0 ≤ m) (h1 : m ≤ 100000) (hM : m.toNat = M) (w : World) :
    (Instr.makeSlice 53 (.int .i64 m) (.int .i64 m)).run Tryd.prog w = .ok (.slice (some ⟨w.heap.size, 0, none⟩) M M) (w.alloc (.cells (madeCells #[.int .i64 0, .int .i64 0, .int .i64 0, .int .i64 0, .int .i64 0, .int .i64 0] (M * 6)) 70)) := by
  obtain ⟨i0, hi, hz0, hz1, hz2⟩ := info_parts piecesInfo
  have := run_make (P := Tryd.prog) w 53 70 i0 _ Tryd.underlying53 hi hz0 .i64 .i64 m m h0 (Int.le_refl _) (by rw [hz2]; omega) (by omega)
  rw [hM, hz1] at this
  exact this
theorem madePieces {w : World} {b M : Nat} {t : TypeId} (h : Own w b t (madeCells #[.int .i64 0, .int .i64 0, .int .i64 0, .int .i64 0, .int .i64 0, .int .i64 0] (M * 6))) (hp : 0 < M) : RV 6 w (.slice (some ⟨b, 0, none⟩) M M) M (intC fun _ _ => 0) :=
  .inr ⟨b, 0, M, rfl, hp, Nat.le_refl _, rowAt_own h fun i j hi hj => made_row rfl rfl (by decide) i j hi hj⟩
def piecesX (j : Nat) : Value := .int .i64 (if j = 0 then 77777 else 0)
theorem samePieces_none (o1 o2 : Option Addr) (c1 c2 : Nat) (w : World) :
    Calls Tryd.prog 24 #[.slice o1 0 c1, .slice o2 0 c2] w fun e w' => e = .returned (.bool true) ∧ Kept w w' := by
  go_enter Tryd.func24, Tryd.ntmps24
  go_wp2
  refine wp_loop_rounds 1 ?_
  rw [rounds_succ]
  go_wp2
  go_ret
  exact ⟨rfl, Kept.refl _⟩
set_option maxHeartbeats 1000000 in
theorem samePieces_some (b1 o1 c1 b2 o2 c2 n : Nat) (Z : Nat → Nat → Int) (w : World) (h1 : RowAt w b1 o1 6 n (intC Z)) (h2 : RowAt w b2 o2 6 n (intC Z)) (hn : n ≤ 2932031007317) :
    Calls Tryd.prog 24 #[.slice (some ⟨b1, o1, none⟩) n c1, .slice (some ⟨b2, o2, none⟩) n c2] w fun e w' => e = .returned (.bool true) ∧ Kept w w' := by
  go_enter Tryd.func24, Tryd.ntmps24
  go_wp2
  go_loopw [5] (fun i wx => ∃ k : Nat, k ≤ n ∧ i = .int .i64 k ∧ Kept w wx) (fun i _ => n - (intOf i).toNat)
  case atStart => exact ⟨0, Nat.zero_le _, rfl, Kept.refl _⟩
  case round =>
    obtain ⟨k, hk4, rfl, hk⟩ := hrel
    by_cases hlt : k < n
    · have x0 : wr.cell? ⟨b1, o1 + k * 6, none⟩ = some (.int .i64 (Z k 0)) := (h1.kept hk) k 0 hlt (by decide)
      have x1 : wr.cell? ⟨b1, o1 + k * 6 + 1, none⟩ = some (.int .i64 (Z k 1)) := (h1.kept hk) k 1 hlt (by decide)
      have x2 : wr.cell? ⟨b1, o1 + k * 6 + 2, none⟩ = some (.int .i64 (Z k 2)) := (h1.kept hk) k 2 hlt (by decide)
      have x3 : wr.cell? ⟨b1, o1 + k * 6 + 3, none⟩ = some (.int .i64 (Z k 3)) := (h1.kept hk) k 3 hlt (by decide)
      have x4 : wr.cell? ⟨b1, o1 + k * 6 + 4, none⟩ = some (.int .i64 (Z k 4)) := (h1.kept hk) k 4 hlt (by decide)
      have x5 : wr.cell? ⟨b1, o1 + k * 6 + 5, none⟩ = some (.int .i64 (Z k 5)) := (h1.kept hk) k 5 hlt (by decide)
      have y0 : wr.cell? ⟨b2, o2 + k * 6, none⟩ = some (.int .i64 (Z k 0)) := (h2.kept hk) k 0 hlt (by decide)
      have y1 : wr.cell? ⟨b2, o2 + k * 6 + 1, none⟩ = some (.int .i64 (Z k 1)) := (h2.kept hk) k 1 hlt (by decide)
      have y2 : wr.cell? ⟨b2, o2 + k * 6 + 2, none⟩ = some (.int .i64 (Z k 2)) := (h2.kept hk) k 2 hlt (by decide)
      have y3 : wr.cell? ⟨b2, o2 + k * 6 + 3, none⟩ = some (.int .i64 (Z k 3)) := (h2.kept hk) k 3 hlt (by decide)
      have y4 : wr.cell? ⟨b2, o2 + k * 6 + 4, none⟩ = some (.int .i64 (Z k 4)) := (h2.kept hk) k 4 hlt (by decide)
      have y5 : wr.cell? ⟨b2, o2 + k * 6 + 5, none⟩ = some (.int .i64 (Z k 5)) := (h2.kept hk) k 5 hlt (by decide)
      generalize Z k 0 = z0 at *
      generalize Z k 1 = z1 at *
      generalize Z k 2 = z2 at *
      generalize Z k 3 = z3 at *
      generalize Z k 4 = z4 at *
      generalize Z k 5 = z5 at *
      have hi0 : (0 : Int) ≤ (k : Int) := Int.natCast_nonneg _
      have hi1 : (k : Int) < (n : Int) := by omega
      go_wp2
      go_quiet (fail)
      go_wp2
      go_roundw
      case rel => exact ⟨k + 1, by omega, by go_num, (by first | ((repeat (first | with_reducible exact hk | with_reducible refine Kept.alloc ?_ _ | with_reducible refine Kept.drew ?_ | with_reducible refine Kept.drewN ?_ _ | with_reducible refine Kept.set ?_ (by first | (simp; done) | (simp; omega) | omega) _)); done) | exact hk | exact (hk.alloc _) | exact ((hk.alloc _).alloc _) | exact (((hk.alloc _).alloc _).alloc _) | exact ((((hk.alloc _).alloc _).alloc _).alloc _) | exact (((((hk.alloc _).alloc _).alloc _).alloc _).alloc _) | exact ((((((hk.alloc _).alloc _).alloc _).alloc _).alloc _).alloc _) | (repeat (first | exact hk | refine Kept.alloc ?_ _ | refine Kept.drew ?_ | refine Kept.drewN ?_ _ | refine Kept.set ?_ (by first | (simp; done) | (simp; omega) | omega) _)))⟩
      case measure => simp [intOf]; omega
    · go_wp2
      go_ret
      exact ⟨rfl, hk⟩
theorem samePieces_yes {w : World} {v1 v2 : Value} {n : Nat} {Z : Nat → Nat → Int} (h1 : RV 6 w v1 n (intC Z)) (h2 : RV 6 w v2 n (intC Z)) (hn : n ≤ 2932031007317) :
    Calls Tryd.prog 24 #[v1, v2] w fun e w' => e = .returned (.bool true) ∧ Kept w w' := by
  rcases h1 with ⟨rfl, o, c, rfl⟩ | ⟨b, o, c, rfl, hp, _, g1⟩ <;> rcases h2 with ⟨h0, o2, c2, rfl⟩ | ⟨b2, o2, c2, rfl, hp2, _, g2⟩
  · exact samePieces_none _ _ _ _ w
  · omega
  · omega
  · exact samePieces_some _ _ _ _ _ _ n Z w g1 g2 hn
theorem spoilPieces_none (o : Option Addr) (cap : Nat) (w : World) :
    Calls Tryd.prog 27 #[.slice o 0 cap] w fun e w' => e = .returned (.tuple #[]) ∧ Kept w w' := by
  go_enter Tryd.func27, Tryd.ntmps27
  go_wp2
  refine wp_loop_rounds 1 ?_
  rw [rounds_succ]
  go_wp2
  go_end0
  exact ⟨rfl, Kept.refl _⟩
set_option maxHeartbeats 1000000 in
theorem spoilPieces_some (a : World) (g m cap : Nat) (cur0 : Array Value) (w : World) (ha : Kept a w) (hg : a.heap.size ≤ g) (hm : m ≤ 2932031007317) (h1 : Own w g 70 cur0) (h2 : NumAt cur0 6 0 0 m) :
    Calls Tryd.prog 27 #[.slice (some ⟨g, 0, none⟩) m cap] w fun e w' => e = .returned (.tuple #[]) ∧ Kept a w' := by
  go_enter Tryd.func27, Tryd.ntmps27
  go_wp2
  go_loopw [2] (fun n wx => ∃ (k : Nat) (cur : Array Value), k ≤ m ∧ n = .int .i64 k ∧ Kept a wx ∧ Own wx g 70 cur ∧ NumAt cur 6 0 k m) (fun n _ => m - (intOf n).toNat)
  case atStart => exact ⟨0, cur0, Nat.zero_le _, rfl, ha, h1, h2⟩
  case round =>
    clear ha h1 h2
    obtain ⟨k, cur, hkm, rfl, hk, ho, hmid⟩ := hrel
    by_cases hlt : k < m
    · obtain ⟨x, hx⟩ := hmid k (Nat.le_refl _) hlt
      have c1 : wr.cell? ⟨g, k * 6, none⟩ = some (.int .i64 x) := (ho.cell _).trans hx
      have f1 : wr.frozen? ⟨g, k * 6, none⟩ = false := ho.free (k * 6 + 0)
      have H := Lib.hid (And.intro ho hmid)
      clear ho hmid hx
      go_wp2
      go_roundw
      case rel => exact ⟨k + 1, _, by omega, by go_num, hk.set hg _, H.out.1.set (k * 6 + 0) _, H.out.2.set (by decide) _⟩
      case measure => simp [intOf]; omega
    · go_wp2
      go_end0
      exact ⟨rfl, hk⟩
theorem spoilPieces_any {a w : World} {v : Value} {m : Nat} {Z : Nat → Nat → Int} (ha : Kept a w) (hm : m ≤ 2932031007317) (hv : NewRow 70 6 a w v m (intC Z)) :
    Calls Tryd.prog 27 #[v] w fun e w' => e = .returned (.tuple #[]) ∧ Kept a w' := by
  rcases hv with ⟨rfl, o, cap, rfl, _⟩ | ⟨b, cap, cur, rfl, h2, h3, h4, h5, h6, h7, h8⟩
  · exact (spoilPieces_none o cap w).mono fun e w' h => ⟨h.1, ha.trans h.2⟩
  · exact spoilPieces_some a b m cap cur w ha h5 hm h6 fun i _ hi => ⟨Z i 0, h8 i 0 hi (by decide)⟩
end Go.Proofs.YtpeoadnnemlphaaDoor
