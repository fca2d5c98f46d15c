/- Layer 2: modes written over. -/
import Derived.Test.YtkapmnbkmljpkaaDoorRefModes
import Derived.Laws.OwnMore
namespace Go.Proofs.YtkapmnbkmljpkaaDoor
open Go.RowKit
set_option linter.unusedSimpArgs false
def spoiled (k : Nat) : List Value :=
  if k = 0 then [.int .i64 0, .int .i64 0, .int .i64 0, .int .i64 1, .int .i64 1, .int .i64 0, .int .i64 1, .int .i64 1, .int .i64 2, .int .i64 0, .int .i64 2, .int .i64 1]
  else if k = 1 then [.int .i64 0, .int .i64 90, .int .i64 0, .int .i64 1, .int .i64 1, .int .i64 0, .int .i64 1, .int .i64 1, .int .i64 2, .int .i64 0, .int .i64 2, .int .i64 1]
  else if k = 2 then [.int .i64 0, .int .i64 90, .int .i64 0, .int .i64 91, .int .i64 1, .int .i64 0, .int .i64 1, .int .i64 1, .int .i64 2, .int .i64 0, .int .i64 2, .int .i64 1]
  else if k = 3 then [.int .i64 0, .int .i64 90, .int .i64 0, .int .i64 91, .int .i64 1, .int .i64 90, .int .i64 1, .int .i64 1, .int .i64 2, .int .i64 0, .int .i64 2, .int .i64 1]
  else if k = 4 then [.int .i64 0, .int .i64 90, .int .i64 0, .int .i64 91, .int .i64 1, .int .i64 90, .int .i64 1, .int .i64 91, .int .i64 2, .int .i64 0, .int .i64 2, .int .i64 1]
  else if k = 5 then [.int .i64 0, .int .i64 90, .int .i64 0, .int .i64 91, .int .i64 1, .int .i64 90, .int .i64 1, .int .i64 91, .int .i64 2, .int .i64 90, .int .i64 2, .int .i64 1]
  else if k = 6 then [.int .i64 0, .int .i64 90, .int .i64 0, .int .i64 91, .int .i64 1, .int .i64 90, .int .i64 1, .int .i64 91, .int .i64 2, .int .i64 90, .int .i64 2, .int .i64 91]
  else []
theorem spoiled0 : spoiled 0 = [.int .i64 0, .int .i64 0, .int .i64 0, .int .i64 1, .int .i64 1, .int .i64 0, .int .i64 1, .int .i64 1, .int .i64 2, .int .i64 0, .int .i64 2, .int .i64 1] := by simp [spoiled]
theorem spoiled1 : spoiled 1 = [.int .i64 0, .int .i64 90, .int .i64 0, .int .i64 1, .int .i64 1, .int .i64 0, .int .i64 1, .int .i64 1, .int .i64 2, .int .i64 0, .int .i64 2, .int .i64 1] := by simp [spoiled]
theorem spoiled2 : spoiled 2 = [.int .i64 0, .int .i64 90, .int .i64 0, .int .i64 91, .int .i64 1, .int .i64 0, .int .i64 1, .int .i64 1, .int .i64 2, .int .i64 0, .int .i64 2, .int .i64 1] := by simp [spoiled]
theorem spoiled3 : spoiled 3 = [.int .i64 0, .int .i64 90, .int .i64 0, .int .i64 91, .int .i64 1, .int .i64 90, .int .i64 1, .int .i64 1, .int .i64 2, .int .i64 0, .int .i64 2, .int .i64 1] := by simp [spoiled]
theorem spoiled4 : spoiled 4 = [.int .i64 0, .int .i64 90, .int .i64 0, .int .i64 91, .int .i64 1, .int .i64 90, .int .i64 1, .int .i64 91, .int .i64 2, .int .i64 0, .int .i64 2, .int .i64 1] := by simp [spoiled]
theorem spoiled5 : spoiled 5 = [.int .i64 0, .int .i64 90, .int .i64 0, .int .i64 91, .int .i64 1, .int .i64 90, .int .i64 1, .int .i64 91, .int .i64 2, .int .i64 90, .int .i64 2, .int .i64 1] := by simp [spoiled]
theorem spoiled6 : spoiled 6 = [.int .i64 0, .int .i64 90, .int .i64 0, .int .i64 91, .int .i64 1, .int .i64 90, .int .i64 1, .int .i64 91, .int .i64 2, .int .i64 90, .int .i64 2, .int .i64 91] := by simp [spoiled]
set_option maxHeartbeats 1000000 in
/-- modes are written over in their own row; nothing else turns -/
theorem spoilModes_any (a : World) (g cap : Nat) (w : World) (ha : Kept a w) (hg : a.heap.size ≤ g) (h1 : w.ownsRow a.heap.size 23 2 (.slice (some ⟨g, 0, none⟩) 6 cap) 6 allModes) :
    Calls Tryd.prog 21 #[.slice (some ⟨g, 0, none⟩) 6 cap] w fun e w' => e = .returned (.tuple #[]) ∧ Kept a w' := by
  go_enter Tryd.func21, Tryd.ntmps21
  go_wp2
  go_loopw [2] (fun n wx => ∃ k : Nat, k ≤ 6 ∧ n = .int .i64 k ∧ Kept a wx ∧ wx.ownsRow a.heap.size 23 2 (.slice (some ⟨g, 0, none⟩) 6 cap) 6 (spoiled k)) (fun n _ => 6 - (intOf n).toNat)
  case atStart => exact ⟨0, Nat.zero_le _, rfl, ha, by rw [spoiled0]; exact h1⟩
  case round =>
    clear ha h1
    obtain ⟨k, hk4, rfl, hk, ho⟩ := hrel
    rcases (by omega : k = 0 ∨ k = 1 ∨ k = 2 ∨ k = 3 ∨ k = 4 ∨ k = 5 ∨ k = 6) with rfl | rfl | rfl | rfl | rfl | rfl | rfl
    case inr.inr.inr.inr.inr.inr =>
      go_wp2
      go_end0
      exact ⟨rfl, hk⟩
    case inl =>
      rw [spoiled0] at ho
      have hx : bits .xor .i64 0 90 = 90 := by decide
      have hc := ho.cellAt 1 (by decide)
      have hc' : World.cell? _ _ = some (.int .i64 0) := hc.trans rfl
      have hf := ho.frozenAt 1
      clear hc
      go_wp2
      go_roundw
      case rel => exact ⟨1, by omega, rfl, hk.set hg _, by have h := ho.stored 1 (.int .i64 90); rw [spoiled1]; exact h.1⟩
      case measure => simp [intOf]
    case inr.inl =>
      rw [spoiled1] at ho
      have hx : bits .xor .i64 1 90 = 91 := by decide
      have hc := ho.cellAt 3 (by decide)
      have hc' : World.cell? _ _ = some (.int .i64 1) := hc.trans rfl
      have hf := ho.frozenAt 3
      clear hc
      go_wp2
      go_roundw
      case rel => exact ⟨2, by omega, rfl, hk.set hg _, by have h := ho.stored 3 (.int .i64 91); rw [spoiled2]; exact h.1⟩
      case measure => simp [intOf]
    case inr.inr.inl =>
      rw [spoiled2] at ho
      have hx : bits .xor .i64 0 90 = 90 := by decide
      have hc := ho.cellAt 5 (by decide)
      have hc' : World.cell? _ _ = some (.int .i64 0) := hc.trans rfl
      have hf := ho.frozenAt 5
      clear hc
      go_wp2
      go_roundw
      case rel => exact ⟨3, by omega, rfl, hk.set hg _, by have h := ho.stored 5 (.int .i64 90); rw [spoiled3]; exact h.1⟩
      case measure => simp [intOf]
    case inr.inr.inr.inl =>
      rw [spoiled3] at ho
      have hx : bits .xor .i64 1 90 = 91 := by decide
      have hc := ho.cellAt 7 (by decide)
      have hc' : World.cell? _ _ = some (.int .i64 1) := hc.trans rfl
      have hf := ho.frozenAt 7
      clear hc
      go_wp2
      go_roundw
      case rel => exact ⟨4, by omega, rfl, hk.set hg _, by have h := ho.stored 7 (.int .i64 91); rw [spoiled4]; exact h.1⟩
      case measure => simp [intOf]
    case inr.inr.inr.inr.inl =>
      rw [spoiled4] at ho
      have hx : bits .xor .i64 0 90 = 90 := by decide
      have hc := ho.cellAt 9 (by decide)
      have hc' : World.cell? _ _ = some (.int .i64 0) := hc.trans rfl
      have hf := ho.frozenAt 9
      clear hc
      go_wp2
      go_roundw
      case rel => exact ⟨5, by omega, rfl, hk.set hg _, by have h := ho.stored 9 (.int .i64 90); rw [spoiled5]; exact h.1⟩
      case measure => simp [intOf]
    case inr.inr.inr.inr.inr.inl =>
      rw [spoiled5] at ho
      have hx : bits .xor .i64 1 90 = 91 := by decide
      have hc := ho.cellAt 11 (by decide)
      have hc' : World.cell? _ _ = some (.int .i64 1) := hc.trans rfl
      have hf := ho.frozenAt 11
      clear hc
      go_wp2
      go_roundw
      case rel => exact ⟨6, by omega, rfl, hk.set hg _, by have h := ho.stored 11 (.int .i64 91); rw [spoiled6]; exact h.1⟩
      case measure => simp [intOf]
end Go.Proofs.YtkapmnbkmljpkaaDoor
