/- Layer 8: lengths as numbers. -/
import Derived.Test.YtnbagilcbngdcaaDoorLenS
import Derived.Test.YtnbagilcbngdcaaDoorMg1
namespace Go.Proofs.YtnbagilcbngdcaaDoor
open Go.RowKit
set_option linter.unusedSimpArgs false
set_option linter.unusedVariables false
set_option maxHeartbeats 2000000
theorem refLenMay_any (k v : Int) (w : World) :
    Calls Tryd.prog 46 #[lenV k v] w fun e w' => e = .returned (.bool (lenB k v)) ∧ Kept w w' := by
  by_cases h0 : k = 0
  · subst h0
    have Hs := Lib.hid (show lenB 0 v = (v == 0) from rfl)
    have hk : Kept w w := Kept.refl w
    go_enter Tryd.func46, Tryd.ntmps46
    go_wp2
    go_ret
    exact ⟨ret_bool (by rw [Hs.out]), (Kept.refl w).alloc _⟩
  by_cases h1 : k = 1
  · subst h1
    have Hs := Lib.hid (show lenB 1 v = inB (-8191) 8191 v from rfl)
    clear h0
    rcases (by omega : v < -8191 ∨ 8191 < v ∨ (-8191 ≤ v ∧ v ≤ 8191)) with h | h | ⟨h, h'⟩
    · have h2 : ¬ -8191 ≤ v := by omega
      have HN := Lib.hid (show inB (-8191) 8191 v = false from inB_false.2 (by omega))
      have hk : Kept w w := Kept.refl w
      go_enter Tryd.func46, Tryd.ntmps46
      go_wp2
      go_ret
      exact ⟨ret_bool (by rw [Hs.out, HN.out]), (Kept.refl w).alloc _⟩
    · have h2 : -8191 ≤ v := by omega
      have h3 : ¬ v ≤ 8191 := by omega
      have HN := Lib.hid (show inB (-8191) 8191 v = false from inB_false.2 (by omega))
      have hk : Kept w w := Kept.refl w
      go_enter Tryd.func46, Tryd.ntmps46
      go_wp2
      go_ret
      exact ⟨ret_bool (by rw [Hs.out, HN.out]), (Kept.refl w).alloc _⟩
    · have HN := Lib.hid (show inB (-8191) 8191 v = true from inB_true.2 (by omega))
      have hk : Kept w w := Kept.refl w
      go_enter Tryd.func46, Tryd.ntmps46
      go_wp2
      go_ret
      exact ⟨ret_bool (by rw [Hs.out, HN.out]), (Kept.refl w).alloc _⟩
  by_cases h2 : k = 2
  · subst h2
    have Hs := Lib.hid (show lenB 2 v = inB (-100) 100 v from rfl)
    clear h0 h1
    rcases (by omega : v < -100 ∨ 100 < v ∨ (-100 ≤ v ∧ v ≤ 100)) with h | h | ⟨h, h'⟩
    · have h2 : ¬ -100 ≤ v := by omega
      have HN := Lib.hid (show inB (-100) 100 v = false from inB_false.2 (by omega))
      have hk : Kept w w := Kept.refl w
      go_enter Tryd.func46, Tryd.ntmps46
      go_wp2
      go_ret
      exact ⟨ret_bool (by rw [Hs.out, HN.out]), (Kept.refl w).alloc _⟩
    · have h2 : -100 ≤ v := by omega
      have h3 : ¬ v ≤ 100 := by omega
      have HN := Lib.hid (show inB (-100) 100 v = false from inB_false.2 (by omega))
      have hk : Kept w w := Kept.refl w
      go_enter Tryd.func46, Tryd.ntmps46
      go_wp2
      go_ret
      exact ⟨ret_bool (by rw [Hs.out, HN.out]), (Kept.refl w).alloc _⟩
    · have HN := Lib.hid (show inB (-100) 100 v = true from inB_true.2 (by omega))
      have hk : Kept w w := Kept.refl w
      go_enter Tryd.func46, Tryd.ntmps46
      go_wp2
      go_ret
      exact ⟨ret_bool (by rw [Hs.out, HN.out]), (Kept.refl w).alloc _⟩
  · have Hs := Lib.hid (show lenB k v = false from by unfold lenB; rw [if_neg h0, if_neg h1, if_neg h2])
    have b0 : (k == 0) = false := by simp [h0]
    have b1 : (k == 1) = false := by simp [h1]
    have b2 : (k == 2) = false := by simp [h2]
    clear h0 h1 h2
    have hk : Kept w w := Kept.refl w
    go_enter Tryd.func46, Tryd.ntmps46
    go_wp2
    go_ret
    exact ⟨ret_bool (by rw [Hs.out]), (Kept.refl w).alloc _⟩
theorem refLenMay_is (k v : Int) (b : Bool) (w : World) (h : lenB k v = b) :
    Calls Tryd.prog 46 #[lenV k v] w fun e w' => e = .returned (.bool b) ∧ Kept w w' := h ▸ refLenMay_any k v w
end Go.Proofs.YtnbagilcbngdcaaDoor
