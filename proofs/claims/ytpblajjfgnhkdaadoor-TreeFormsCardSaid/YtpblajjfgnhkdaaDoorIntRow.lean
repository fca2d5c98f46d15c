/- Rows of numbers that a call made; rows compared. -/
import Derived.Test.YtpblajjfgnhkdaaDoorEach
import Derived.Deep.OwnRows
import Derived.Deep.QuietTactic
import Derived.BigQuiet
namespace Go.Proofs.YtpblajjfgnhkdaaDoor
open Go.RowKit
set_option linter.unusedSimpArgs false
/-- v is a row of these numbers, in memory that was made since w -/
def NewInts (w w' : World) (v : Value) (xs : List Int) : Prop :=
  (v = .slice none 0 0 ∧ xs = []) ∨ ∃ g cap, v = .slice (some ⟨g, 0, none⟩) xs.length cap ∧ w.heap.size ≤ g ∧ g < w'.heap.size ∧ Ints w' g 0 xs
theorem NewInts.kept {w w1 w2 : World} {v : Value} {xs : List Int} (h : NewInts w w1 v xs) (k : Kept w1 w2) : NewInts w w2 v xs := by
  rcases h with h | ⟨g, cap, hv, hg, hl, hc⟩
  · exact .inl h
  · exact .inr ⟨g, cap, hv, hg, Nat.lt_of_lt_of_le hl k.size, fun j hj => (k.cell hl).trans (hc j hj)⟩
theorem NewInts.earlier {a w w1 : World} {v : Value} {xs : List Int} (h : NewInts w w1 v xs) (k : Kept a w) : NewInts a w1 v xs := by
  rcases h with h | ⟨g, cap, hv, hg, hl, hc⟩
  · exact .inl h
  · exact .inr ⟨g, cap, hv, Nat.le_trans k.size hg, hl, hc⟩
theorem NewInts.of_lit (w : World) (t : TypeId) (zs : List Int) : NewInts w (w.alloc (.cells (zs.map (Value.int .i64)).toArray t)) (.slice (some ⟨w.heap.size, 0, none⟩) zs.length zs.length) zs :=
  .inr ⟨_, _, rfl, Nat.le_refl _, by simp, Ints.new w t zs⟩
theorem sameInts_none (A B : Option Addr) (c d : Nat) (w : World) :
    Calls Tryd.prog 17 #[.slice A 0 c, .slice B 0 d] w fun e w' => e = .returned (.bool true) ∧ Kept w w' := by
  go_enter Tryd.func17, Tryd.ntmps17
  go_wp2
  refine wp_loop_rounds 1 ?_
  rw [rounds_succ]
  go_wp2
  go_ret
  exact ⟨rfl, Kept.refl _⟩
set_option maxHeartbeats 600000 in
theorem sameInts_some (g1 g2 c1 c2 n : Nat) (xs : List Int) (w : World) (hn : xs.length = n) (hm : n ≤ 4611686018427387904) (h1 : Ints w g1 0 xs) (h2 : Ints w g2 0 xs) :
    Calls Tryd.prog 17 #[.slice (some ⟨g1, 0, none⟩) n c1, .slice (some ⟨g2, 0, none⟩) n c2] w fun e w' => e = .returned (.bool true) ∧ Kept w w' := by
  go_enter Tryd.func17, Tryd.ntmps17
  go_wp2
  go_loopw [5] (fun i wx => ∃ k : Nat, k ≤ n ∧ i = .int .i64 k ∧ Kept w wx ∧ Ints wx g1 0 xs ∧ Ints wx g2 0 xs) (fun i _ => n - (intOf i).toNat)
  case atStart => exact ⟨0, Nat.zero_le _, rfl, Kept.refl _, h1, h2⟩
  case round =>
    obtain ⟨k, hk4, rfl, hk, i1, i2⟩ := hrel
    clear h1 h2
    by_cases hlt : k < n
    · have c1 := i1 k (by omega)
      have c2 := i2 k (by omega)
      rw [Nat.zero_add] at c1 c2
      generalize xs.getD k 0 = x at *
      have hi0 : (0 : Int) ≤ (k : Int) := Int.natCast_nonneg _
      have hi1 : (k : Int) < (n : Int) := by omega
      go_wp2
      go_quiet (fail)
      go_wp2
      go_roundw
      case rel => exact ⟨k + 1, by omega, by go_num, (by first | ((repeat (first | with_reducible exact hk | with_reducible refine Kept.alloc ?_ _ | with_reducible refine Kept.drew ?_ | with_reducible refine Kept.drewN ?_ _ | with_reducible refine Kept.set ?_ (by first | (simp; done) | (simp; omega) | omega) _)); done) | exact hk | exact (hk.alloc _) | exact ((hk.alloc _).alloc _) | exact (((hk.alloc _).alloc _).alloc _) | exact ((((hk.alloc _).alloc _).alloc _).alloc _) | exact (((((hk.alloc _).alloc _).alloc _).alloc _).alloc _) | exact ((((((hk.alloc _).alloc _).alloc _).alloc _).alloc _).alloc _) | (repeat (first | exact hk | refine Kept.alloc ?_ _ | refine Kept.drew ?_ | refine Kept.drewN ?_ _ | refine Kept.set ?_ (by first | (simp; done) | (simp; omega) | omega) _))), i1, i2⟩
      case measure => simp [intOf]; omega
    · go_wp2
      go_ret
      exact ⟨rfl, hk⟩
theorem sameInts_yes {a b w : World} {v1 v2 : Value} {xs : List Int} (h1 : NewInts a w v1 xs) (h2 : NewInts b w v2 xs) (hm : xs.length ≤ 4611686018427387904) :
    Calls Tryd.prog 17 #[v1, v2] w fun e w' => e = .returned (.bool true) ∧ Kept w w' := by
  rcases h1 with ⟨rfl, rfl⟩ | ⟨g1, c1, rfl, _, _, i1⟩ <;> rcases h2 with ⟨rfl, h0⟩ | ⟨g2, c2, rfl, _, _, i2⟩
  · exact sameInts_none _ _ _ _ w
  · exact sameInts_none _ _ _ _ w
  · subst h0; exact sameInts_none _ _ _ _ w
  · exact sameInts_some _ _ _ _ _ _ w rfl hm i1 i2
end Go.Proofs.YtpblajjfgnhkdaaDoor
