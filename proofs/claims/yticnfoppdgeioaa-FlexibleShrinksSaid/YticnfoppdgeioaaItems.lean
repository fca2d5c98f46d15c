/- Layer 19: rows of items; is each one? -/
import Derived.Test.YticnfoppdgeioaaItemMay
namespace Go.Proofs.Yticnfoppdgeioaa
open Go.RowKit
set_option linter.unusedSimpArgs false
set_option linter.unusedVariables false
/-- items that lie in a row -/
structure ItemsAt (w : World) (b off n : Nat) (I : Nat → Item) : Prop where
  base : ∀ i, i < n → w.cell? ⟨b, off + i * 6, none⟩ = some (.int .i64 (I i).base)
  min : ∀ i, i < n → w.cell? ⟨b, off + i * 6 + 1, none⟩ = some (.int .i64 (I i).min)
  max : ∀ i, i < n → w.cell? ⟨b, off + i * 6 + 2, none⟩ = some (.int .i64 (I i).max)
  grow : ∀ i, i < n → w.cell? ⟨b, off + i * 6 + 3, none⟩ = some (.int .i64 (I i).grow)
  shrink : ∀ i, i < n → w.cell? ⟨b, off + i * 6 + 4, none⟩ = some (.int .i64 (I i).shrink)
  extra : ∀ i, i < n → w.cell? ⟨b, off + i * 6 + 5, none⟩ = some (.int .i64 (I i).extra)
theorem ItemsAt.kept {w w' : World} {b off n : Nat} {I : Nat → Item} (h : ItemsAt w b off n I) (k : Kept w w') : ItemsAt w' b off n I :=
  ⟨fun i hi => (k.cell (World.block_lt_of_cell? w _ (h.base i hi))).trans (h.base i hi), fun i hi => (k.cell (World.block_lt_of_cell? w _ (h.min i hi))).trans (h.min i hi), fun i hi => (k.cell (World.block_lt_of_cell? w _ (h.max i hi))).trans (h.max i hi), fun i hi => (k.cell (World.block_lt_of_cell? w _ (h.grow i hi))).trans (h.grow i hi), fun i hi => (k.cell (World.block_lt_of_cell? w _ (h.shrink i hi))).trans (h.shrink i hi), fun i hi => (k.cell (World.block_lt_of_cell? w _ (h.extra i hi))).trans (h.extra i hi)⟩
def allI (I : Nat → Item) : Nat → Bool
  | 0 => true
  | n + 1 => allI I n && itemB (I n)
theorem allI_no {I : Nat → Item} {k n : Nat} (h : k < n) (hk : itemB (I k) = false) : allI I n = false := by
  induction n with
  | zero => omega
  | succ n ih =>
    unfold allI
    rcases Nat.lt_or_ge k n with h1 | h1
    · rw [ih h1]; rfl
    · obtain rfl : k = n := by omega
      rw [hk, Bool.and_false]
/-- the number of the first that is none -/
def FirstOdd (I : Nat → Item) (n : Nat) (w : World) (e : Ending) (w' : World) : Prop :=
  ∃ z : Int, e = .returned (.int .i64 z) ∧ (0 ≤ z ↔ allI I n = false) ∧ -1 ≤ z ∧ Kept w w'
set_option maxHeartbeats 1000000 in
theorem indexItems_some (b off n cap : Nat) (I : Nat → Item) (w : World) (hw : ItemsAt w b off n I) (hn : n ≤ 4611686018427387904) :
    Calls Try.prog 35 #[.slice (some ⟨b, off, none⟩) n cap, .func (.func 28) #[] #[]] w (FirstOdd I n w) := by
  go_enter Try.func35, Try.ntmps35
  go_wp2
  go_loopw [4, 5, 8] (fun _ _ i wx => ∃ k : Nat, k ≤ n ∧ i = .int .i64 k ∧ Kept w wx ∧ allI I k = true) (fun _ _ i _ => n - (intOf i).toNat)
  case atStart => exact ⟨0, Nat.zero_le _, rfl, Kept.refl _, rfl⟩
  case round =>
    obtain ⟨k, hk4, rfl, hk, hal⟩ := hrel
    have hal' := Lib.hid hal
    clear hal
    by_cases hlt : k < n
    · have hi1 : (k : Int) < (n : Int) := by omega
      have c0 := (hw.kept hk).base k hlt
      have c1 := (hw.kept hk).min k hlt
      have c2 := (hw.kept hk).max k hlt
      have c3 := (hw.kept hk).grow k hlt
      have c4 := (hw.kept hk).shrink k hlt
      have c5 := (hw.kept hk).extra k hlt
      cases hb : itemB (I k)
      · have hno := Lib.hid (allI_no hlt hb)
        go_wp2_with fail
        refine (oddItem_any (I k) _).mono ?_
        rintro e w1 ⟨rfl, hn1⟩
        go_wp2
        go_ret
        exact ⟨_, rfl, ⟨fun _ => hno.out, fun _ => by omega⟩, by omega, hk.trans hn1⟩
      · have hyes := Lib.hid (show allI I (k + 1) = true by unfold allI; rw [hal'.out, hb]; rfl)
        go_wp2_with fail
        refine (oddItem_any (I k) _).mono ?_
        rintro e w1 ⟨rfl, hn1⟩
        go_wp2
        go_roundw
        case rel => exact ⟨k + 1, by omega, by go_num, hk.trans hn1, hyes.out⟩
        case measure => simp [intOf]; omega
    · obtain rfl : k = n := by omega
      go_wp2
      go_ret
      exact ⟨_, rfl, ⟨fun h => by omega, fun h => by rw [hal'.out] at h; cases h⟩, by omega, hk⟩
end Go.Proofs.Yticnfoppdgeioaa
