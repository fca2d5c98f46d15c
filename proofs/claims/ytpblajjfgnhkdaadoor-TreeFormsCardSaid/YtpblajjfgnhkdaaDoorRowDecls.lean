/- Rows of forme/api.Decl: copied, lent, compared, kept, written over. -/
import Derived.Test.YtpblajjfgnhkdaaDoorRow
import Derived.Test.YtpblajjfgnhkdaaDoorDeclC
import Derived.Deep.QuietTactic
import Derived.BigQuiet
import Derived.Laws.MakeOwn
namespace Go.Proofs.YtpblajjfgnhkdaaDoor
open Go.RowKit Go.Deep Go.ChangeShapes Go.WideShapes
set_option linter.unusedSimpArgs false
set_option linter.unusedVariables false
theorem declsInfo : (Tryd.prog.info? 46).map (fun i => (i.zero, i.size, i.bytes)) = some (some (.agg #[.int .i64 0, .string ⟨#[]⟩]), 2, 24) := by kernel_rfl
def declsX (j : Nat) : Value := if j = 0 then .int .i64 77777 else .string ⟨#[]⟩
theorem declC_one (P : Nat → Int) (T : Nat → ByteArray) : ∀ i j, (declC P T i j).oneCell' = true := fun i j => by unfold declC; split <;> rfl
theorem sameDecls_none (o1 o2 : Option Addr) (c1 c2 : Nat) (w : World) :
    Calls Tryd.prog 38 #[.slice o1 0 c1, .slice o2 0 c2] w fun e w' => e = .returned (.bool true) ∧ Kept w w' := by
  go_enter Tryd.func38, Tryd.ntmps38
  go_wp2
  refine wp_loop_rounds 1 ?_
  rw [rounds_succ]
  go_wp2
  go_ret
  exact ⟨rfl, Kept.refl _⟩
set_option maxHeartbeats 1000000 in
theorem sameDecls_some (b1 o1 c1 b2 o2 c2 n : Nat) (P : Nat → Int) (T : Nat → ByteArray) (w : World) (h1 : RowAt w b1 o1 2 n (declC P T)) (h2 : RowAt w b2 o2 2 n (declC P T)) (hn : n ≤ 5864062014634) :
    Calls Tryd.prog 38 #[.slice (some ⟨b1, o1, none⟩) n c1, .slice (some ⟨b2, o2, none⟩) n c2] w fun e w' => e = .returned (.bool true) ∧ Kept w w' := by
  go_enter Tryd.func38, Tryd.ntmps38
  go_wp2
  go_loopw [5] (fun i wx => ∃ k : Nat, k ≤ n ∧ i = .int .i64 k ∧ Kept w wx) (fun i _ => n - (intOf i).toNat)
  case atStart => exact ⟨0, Nat.zero_le _, rfl, Kept.refl _⟩
  case round =>
    obtain ⟨k, hk4, rfl, hk⟩ := hrel
    by_cases hlt : k < n
    · have x0 : wr.cell? ⟨b1, o1 + k * 2, none⟩ = some (.int .i64 (P k)) := (h1.kept hk) k 0 hlt (by decide)
      have x1 : wr.cell? ⟨b1, o1 + k * 2 + 1, none⟩ = some (.string (T k)) := (h1.kept hk) k 1 hlt (by decide)
      have y0 : wr.cell? ⟨b2, o2 + k * 2, none⟩ = some (.int .i64 (P k)) := (h2.kept hk) k 0 hlt (by decide)
      have y1 : wr.cell? ⟨b2, o2 + k * 2 + 1, none⟩ = some (.string (T k)) := (h2.kept hk) k 1 hlt (by decide)
      generalize P k = z0 at *
      generalize T k = z1 at *
      have hi0 : (0 : Int) ≤ (k : Int) := Int.natCast_nonneg _
      have hi1 : (k : Int) < (n : Int) := by omega
      go_wp2
      go_quiet (fail)
      go_wp2
      go_roundw
      case rel => exact ⟨k + 1, by omega, by go_num, (by first | ((repeat (first | with_reducible exact hk | with_reducible refine Kept.alloc ?_ _ | with_reducible refine Kept.drew ?_ | with_reducible refine Kept.drewN ?_ _ | with_reducible refine Kept.set ?_ (by first | (simp; done) | (simp; omega) | omega) _)); done) | exact hk | exact (hk.alloc _) | exact ((hk.alloc _).alloc _) | exact (((hk.alloc _).alloc _).alloc _) | exact ((((hk.alloc _).alloc _).alloc _).alloc _) | exact (((((hk.alloc _).alloc _).alloc _).alloc _).alloc _) | exact ((((((hk.alloc _).alloc _).alloc _).alloc _).alloc _).alloc _) | (repeat (first | exact hk | refine Kept.alloc ?_ _ | refine Kept.drew ?_ | refine Kept.drewN ?_ _ | refine Kept.set ?_ (by first | (simp; done) | (simp; omega) | omega) _)))⟩
      case measure => simp [intOf]; omega
    · go_wp2
      go_ret
      exact ⟨rfl, hk⟩
theorem sameDecls_yes {w : World} {v1 v2 : Value} {n : Nat} {P : Nat → Int} {T : Nat → ByteArray} (h1 : RV 2 w v1 n (declC P T)) (h2 : RV 2 w v2 n (declC P T)) (hn : n ≤ 5864062014634) :
    Calls Tryd.prog 38 #[v1, v2] w fun e w' => e = .returned (.bool true) ∧ Kept w w' := by
  rcases h1 with ⟨rfl, o, c, rfl⟩ | ⟨b, o, c, rfl, hp, _, g1⟩ <;> rcases h2 with ⟨h0, o2, c2, rfl⟩ | ⟨b2, o2, c2, rfl, hp2, _, g2⟩
  · exact sameDecls_none _ _ _ _ w
  · omega
  · omega
  · exact sameDecls_some _ _ _ _ _ _ n P T w g1 g2 hn
end Go.Proofs.YtpblajjfgnhkdaaDoor
