/- Layer 19: items as they may be. -/
import Derived.Test.YticnfoppdgeioaaItems
namespace Go.Proofs.Yticnfoppdgeioaa
open Go.RowKit
set_option linter.unusedSimpArgs false
set_option linter.unusedVariables false
theorem indexItems_none (o : Option Addr) (cap : Nat) (f : Value) (I : Nat → Item) (w : World) :
    Calls Try.prog 35 #[.slice o 0 cap, f] w (FirstOdd I 0 w) := by
  go_enter Try.func35, Try.ntmps35
  go_wp2
  refine wp_loop_rounds 1 ?_
  rw [rounds_succ]
  go_wp2
  go_ret
  exact ⟨-1, rfl, ⟨fun h => by omega, fun h => by unfold allI at h; cases h⟩, by omega, Kept.refl _⟩
/-- a slice of items, as it lies -/
def ItV (w : World) (v : Value) (n : Nat) (I : Nat → Item) : Prop := (∃ o cap, v = .slice o 0 cap ∧ n = 0) ∨ ∃ b off cap, v = .slice (some ⟨b, off, none⟩) n cap ∧ ItemsAt w b off n I
theorem ItV.kept {w w' : World} {v : Value} {n : Nat} {I : Nat → Item} (h : ItV w v n I) (k : Kept w w') : ItV w' v n I := by
  rcases h with h | ⟨b, off, cap, hv, hi⟩
  · exact .inl h
  · exact .inr ⟨b, off, cap, hv, hi.kept k⟩
theorem indexItems_any (v : Value) (n : Nat) (I : Nat → Item) (w : World) (h : ItV w v n I) (hn : n ≤ 4611686018427387904) :
    Calls Try.prog 35 #[v, .func (.func 28) #[] #[]] w (FirstOdd I n w) := by
  rcases h with ⟨o, cap, rfl, rfl⟩ | ⟨b, off, cap, rfl, hi⟩
  · exact indexItems_none _ _ _ _ _
  · exact indexItems_some _ _ _ _ _ _ hi hn
theorem containsItems_any (v : Value) (n : Nat) (I : Nat → Item) (w : World) (h : ItV w v n I) (hn : n ≤ 4611686018427387904) :
    Calls Try.prog 29 #[v, .func (.func 28) #[] #[]] w fun e w' => e = .returned (.bool (!allI I n)) ∧ Kept w w' := by
  have hk : Kept w w := Kept.refl w
  go_enter Try.func29, Try.ntmps29
  go_wp2_with fail
  refine (indexItems_any v n I _ h hn).mono ?_
  rintro e w1 ⟨z, rfl, hz, z1, hn1⟩
  have Hz := Lib.hid hz
  clear hz
  rcases Int.lt_or_le z 0 with hl | hl
  all_goals
    go_wp2
    go_ret
    refine ⟨ret_bool ?_, hn1⟩
    cases ha : allI I n
    · have := Hz.out.2 ha
      first | omega | simp
    · first | (have := Hz.out.1 hl; rw [ha] at this; cases this) | (simp; omega)
end Go.Proofs.Yticnfoppdgeioaa
