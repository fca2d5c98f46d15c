/- The cells of declarations; is a number a property's? -/
import Derived.Test.YtpblajjfgnhkdaaDoorRow
import Derived.Test.YtpblajjfgnhkdaaDoorRefProp
import Derived.Test.YtpblajjfgnhkdaaDoorPropN
namespace Go.Proofs.YtpblajjfgnhkdaaDoor
open Go.RowKit
set_option linter.unusedSimpArgs false
set_option linter.unusedVariables false
set_option maxHeartbeats 2000000
/-- the cells of declarations -/
def declC (P : Nat → Int) (T : Nat → ByteArray) (i j : Nat) : Value := if j = 0 then .int .i64 (P i) else .string (T i)
/-- the names of all properties stand -/
structure NameT (w : World) : Prop where
  size : 0 < w.heap.size
  nm : ∀ k, k < 29 → w.cell? ⟨0, k, none⟩ = some (.string (nameS k))
theorem NameT.kept {w w' : World} (h : NameT w) (k : Kept w w') : NameT w' :=
  ⟨Nat.lt_of_lt_of_le h.size k.size, fun i hi => (k.cell h.size).trans (h.nm i hi)⟩
theorem TabN.names {w : World} (h : TabN w) : NameT w := ⟨h.size, h.nm⟩
theorem propNameT_at (k : Nat) (h : k < 29) (w : World) (ht : NameT w) :
    Calls Tryd.prog 53 #[.int .i64 (k : Int)] w fun e w' => e = .returned (.tuple #[.string (nameS k), .int .i64 0]) ∧ Kept w w' := by
  have hi : inB 0 28 (k : Int) = true := inB_true.2 (by omega)
  have hk : Kept w w := Kept.refl w
  go_enter Tryd.func53, Tryd.ntmps53
  go_wp2_with fail
  refine (propMay_any _ _).mono ?_
  rintro e w1 ⟨rfl, hn⟩
  replace hk := hk.trans hn
  have c0 := (ht.kept hk).nm k h
  clear ht hn
  go_wp2
  go_ret2
  exact ⟨rfl, hk⟩
theorem propNameT_err (p : Int) : ∃ x E, (∀ w, NameT w → Calls Tryd.prog 53 #[.int .i64 p] w fun e w' => e = .returned (.tuple #[.string x, .int .i64 E]) ∧ Kept w w') ∧ (!(E == 0)) = !inB 0 28 p := by
  cases h : inB 0 28 p with
  | false => exact ⟨_, _, fun w ht => propName_no p h w, rfl⟩
  | true =>
    obtain ⟨k, rfl⟩ := Int.eq_ofNat_of_zero_le (inB_true.1 h).1
    exact ⟨_, _, fun w ht => propNameT_at k (by have := (inB_true.1 h).2; omega) w ht, rfl⟩
theorem propName_err (p : Int) : ∃ x E, (∀ w, TabN w → Calls Tryd.prog 53 #[.int .i64 p] w fun e w' => e = .returned (.tuple #[.string x, .int .i64 E]) ∧ Kept w w') ∧ (!(E == 0)) = !inB 0 28 p := by
  obtain ⟨x, E, h1, h2⟩ := propNameT_err p
  exact ⟨x, E, fun w ht => h1 w ht.names, h2⟩
end Go.Proofs.YtpblajjfgnhkdaaDoor
