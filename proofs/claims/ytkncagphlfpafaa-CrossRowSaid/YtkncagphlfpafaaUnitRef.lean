/- The document's answers of layer 1. -/
import Derived.Test.YtkncagphlfpafaaUnit
namespace Go.Proofs.Ytkncagphlfpafaa
open Go.RowKit
theorem refMay_any (x : Int) (w : World) :
    Calls Try.prog 33 #[.int .i64 x] w fun e w' => e = .returned (.bool (mayB x)) ∧ w = w' := by
  by_cases h1 : -1073741824 ≤ x
  · skip
    go_enter Try.func33, Try.ntmps33
    go_wp2
    go_ret
    exact ⟨ret_bool (by unfold mayB; simp [h1]), rfl⟩
  · have h2 : x < -1073741824 := by omega
    go_enter Try.func33, Try.ntmps33
    go_wp2
    go_ret
    exact ⟨ret_bool (by unfold mayB; simp; omega), rfl⟩
theorem refFloor_any (x c : Int) (w : World) (h1 : -4611686018427387904 ≤ x) (h2 : x ≤ 4611686018427387904) (h3 : 1 ≤ c) (h4 : c ≤ 4611686018427387904) :
    Calls Try.prog 40 #[.int .i64 x, .int .i64 c] w fun e w' => e = .returned (.int .i64 (x / c)) ∧ w = w' := by
  have hf := floor_div x c h3
  have Hf := Lib.hid hf
  clear hf
  obtain ⟨h5, h6⟩ := tdiv_bd x c h1 h2
  go_enter Try.func40, Try.ntmps40
  go_wp2
  · have h7 : x.tmod c < 0 := by assumption
    go_ret
    exact ⟨ret_int (by rw [Hf.out, if_pos h7]), rfl⟩
  · have h7 : 0 ≤ x.tmod c := by assumption
    go_ret
    exact ⟨ret_int (by rw [Hf.out, if_neg (by omega)]), rfl⟩
end Go.Proofs.Ytkncagphlfpafaa
