/- Layer 21: the document's rows; any numbers: every call; they stay. -/
import Derived.Test.YtkncagphlfpafaaAwake21
namespace Go.Proofs.Ytkncagphlfpafaa
open Go.RowKit
set_option linter.unusedSimpArgs false
set_option linter.unusedVariables false
theorem refMain_early (just room : Int) (sl : Option Addr) (n cap : Nat) (w : World) (h : inB 0 3 just = false ∨ inB 0 4194304 room = false ∨ 32 < n) :
    Calls Try.prog 22 #[.int .i64 just, .int .i64 room, .slice sl n cap] w fun e w' => e = .returned (.tuple #[.slice none 0 0, .int .i64 2100]) ∧ Kept w w' := by
  cases h1 : inB 0 3 just
  · skip
    have hk : Kept w w := Kept.refl w
    go_enter Try.func22, Try.ntmps22
    go_wp2_with fail
    refine (refUp11_any _ _ _).mono ?_
    rintro e w1 ⟨rfl, rfl⟩
    go_wp2
    go_ret2
    exact ⟨rfl, hk⟩
  · cases h2 : inB 0 4194304 room
    · skip
      have hk : Kept w w := Kept.refl w
      go_enter Try.func22, Try.ntmps22
      go_wp2_with fail
      refine (refUp11_any _ _ _).mono ?_
      rintro e w1 ⟨rfl, rfl⟩
      go_wp2_with fail
      refine (refRoom11_any _ _).mono ?_
      rintro e w1 ⟨rfl, rfl⟩
      go_wp2
      go_ret2
      exact ⟨rfl, hk⟩
    · have h3 : 32 < n := by simpa [h1, h2] using h
      have h4 : (32 : Int) < (n : Int) := by omega
      have hk : Kept w w := Kept.refl w
      go_enter Try.func22, Try.ntmps22
      go_wp2_with fail
      refine (refUp11_any _ _ _).mono ?_
      rintro e w1 ⟨rfl, rfl⟩
      go_wp2_with fail
      refine (refRoom11_any _ _).mono ?_
      rintro e w1 ⟨rfl, rfl⟩
      go_wp2
      go_ret2
      exact ⟨rfl, hk⟩
set_option maxHeartbeats 1000000 in
theorem refMain_odd (just room : Int) (b off n cap : Nat) (Z : Nat → Int) (w : World) (hz : IntsAt w b off n Z) (h1 : inB 0 3 just = true) (h2 : inB 0 4194304 room = true) (h3 : n ≤ 32) (ha : allX Z n = false) :
    Calls Try.prog 22 #[.int .i64 just, .int .i64 room, .slice (some ⟨b, off, none⟩) n cap] w fun e w' => e = .returned (.tuple #[.slice none 0 0, .int .i64 2100]) ∧ Kept w w' := by
  have hr := inB_true.1 h2
  have HA := Lib.hid ha
  clear ha
  have hk : Kept w w := Kept.refl w
  go_enter Try.func22, Try.ntmps22
  go_wp2_with fail
  refine (refUp11_any _ _ _).mono ?_
  rintro e w1 ⟨rfl, rfl⟩
  go_wp2_with fail
  refine (refRoom11_any _ _).mono ?_
  rintro e w1 ⟨rfl, rfl⟩
  go_wp2
  go_loop [8, 9] (fun l i => ∃ k : Nat, k ≤ n ∧ i = .int .i64 k ∧ l = .int .i64 (room - sumS Z k) ∧ allX Z k = true) (fun _ i => n - (intOf i).toNat)
  case atStart => exact ⟨0, Nat.zero_le _, rfl, by simp [sumS], rfl⟩
  case round =>
    obtain ⟨k, hkn, rfl, rfl, hal⟩ := hrel
    have hb := sumS_bounds hal k (Nat.le_refl _)
    have HAL := Lib.hid hal
    clear hal
    by_cases hlt : k < n
    · have c0 := hz k hlt
      by_cases hx : -4194304 ≤ Z k ∧ Z k ≤ 4194304
      · have hal2 : allX Z (k + 1) = true := by unfold allX; rw [HAL.out, inX_true.2 hx]; rfl
        have e1 : sumS Z (k + 1) = sumS Z k + Z k := rfl
        replace e1 := Lib.hid e1
        replace hal2 := Lib.hid hal2
        generalize sumS Z k = p at *
        generalize Z k = x at *
        go_wp2
        go_round
        case rel => exact ⟨k + 1, by omega, by go_num, by rw [e1.out]; congr 1; omega, hal2.out⟩
        case measure => simp [intOf]; omega
      · rcases (by omega : Z k < -4194304 ∨ 4194304 < Z k) with hy | hy
        all_goals
          generalize sumS Z k = p at *
          generalize Z k = x at *
          clear hx
          go_wp2
          go_ret2
          exact ⟨rfl, hk⟩
    · exfalso
      obtain rfl : k = n := by omega
      have h5 := HA.out
      rw [HAL.out] at h5
      cases h5
end Go.Proofs.Ytkncagphlfpafaa
