/- Layer 10: the maker of tests of lengths. -/
import Derived.Test.YtpkphohgnelajaaOdd
namespace Go.Proofs.Ytpkphohgnelajaa
open Go.RowKit
set_option linter.unusedSimpArgs false
set_option linter.unusedVariables false
theorem two_boxes (least : Int) (s : Value) (w : World) : ((w.alloc (.cells #[.int .i64 least] 3)).alloc (.cells #[s] 48)).cell? ⟨w.heap.size, 0, none⟩ = some (.int .i64 least) ∧ ((w.alloc (.cells #[.int .i64 least] 3)).alloc (.cells #[s] 48)).cell? ⟨w.heap.size + 1, 0, none⟩ = some s ∧ Kept w ((w.alloc (.cells #[.int .i64 least] 3)).alloc (.cells #[s] 48)) := by
  have a2 := (Own.new (w.alloc (.cells #[.int .i64 least] 3)) #[s] 48).at 0 _ rfl
  rw [show (w.alloc (.cells #[.int .i64 least] 3)).heap.size = w.heap.size + 1 by simp] at a2
  exact ⟨((Own.new w #[.int .i64 least] 3).kept ((Kept.refl _).alloc _)).at 0 _ rfl, a2, ((Kept.refl w).alloc _).alloc _⟩
theorem oddMake_any (least : Int) (s : Value) (out : List Int) (w : World) (hs : FewAt w s out) :
    Calls Try.prog 41 #[.int .i64 least, s] w fun e w' => ∃ p q, e = .returned (.func (.func 42) #[] #[.pointer (some ⟨p, 0, none⟩), .pointer (some ⟨q, 0, none⟩)]) ∧ w'.cell? ⟨p, 0, none⟩ = some (.int .i64 least) ∧ w'.cell? ⟨q, 0, none⟩ = some s ∧ FewAt w' s out ∧ Kept w w' := by
  cases hs
  all_goals
    have hk : Kept w w := Kept.refl w
    go_enter Try.func41, Try.ntmps41
    go_wp2
    go_ret
    have hb := fun s => two_boxes least s w
    refine ⟨_, _, rfl, (hb _).1, (hb _).2.1, ?_, (hb _).2.2⟩
    first
      | exact (FewAt.none _ _).kept (hb _).2.2
      | exact (FewAt.one _ _ _ ‹_›).kept (hb _).2.2
      | exact (FewAt.two _ _ _ _ ‹_› ‹_›).kept (hb _).2.2
end Go.Proofs.Ytpkphohgnelajaa
