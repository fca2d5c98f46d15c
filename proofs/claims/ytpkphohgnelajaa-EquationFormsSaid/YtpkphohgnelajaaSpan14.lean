/- Layer 14: Span14. -/
import Derived.Test.YtpkphohgnelajaaAwake14
namespace Go.Proofs.Ytpkphohgnelajaa
open Go.RowKit
set_option linter.unusedSimpArgs false
set_option linter.unusedVariables false
set_option maxHeartbeats 8000000
set_option maxRecDepth 20000
theorem span_parts {s : Sty} (h : mayS s = true) {r : Int} (r0 : 0 ≤ r) (r1 : r ≤ 4194304) :
    ∃ A B C, eqS s r = ((A, B, C), 0) ∧ A + s.p0.v + B + s.p1.v + C = r ∧ (0 ≤ B ∧ B ≤ 4210686) ∧ (-20000000 ≤ A ∧ A ≤ 20000000) ∧ (-20000000 ≤ C ∧ C ≤ 20000000) ∧ (0 ≤ s.p0.v ∧ s.p0.v ≤ 8191) ∧ (0 ≤ s.p1.v ∧ s.p1.v ≤ 8191) ∧
      (s.m0.k ≠ 0 → A = s.m0.v) ∧ (s.m0.k = 0 → s.m1.k ≠ 0 → C = s.m1.v) := by
  obtain ⟨_, ⟨b0, b1, _, _⟩, _, _⟩ := may_parts h
  obtain ⟨a1, a2, a3, a4, a5, _⟩ := mar_bd b0
  obtain ⟨c1, c2, c3, c4, c5, _⟩ := mar_bd b1
  obtain ⟨z0, z1⟩ := size_bd h r0 r1
  have hl : leftS s r = r - sizeS s r - (s.p0.v + s.p1.v + marS s.m0 + marS s.m1) := rfl
  have he : eqS s r = (spanS s r, 0) := if_pos ⟨h, inB_true.2 ⟨r0, r1⟩⟩
  rw [he]
  have q0 : s.m0.k = 0 → marS s.m0 = 0 := fun hk => by have := mar_bd b0; omega
  have q1 : s.m1.k = 0 → marS s.m1 = 0 := fun hk => by have := mar_bd b1; omega
  unfold spanS
  by_cases k0 : s.m0.k = 0
  · by_cases k1 : s.m1.k = 0
    · rw [if_pos ⟨k0, k1⟩]
      have := q0 k0; have := q1 k1
      exact ⟨_, _, _, rfl, by omega, ⟨z0, z1⟩, by omega, by omega, by omega, by omega, fun h => absurd k0 h, fun _ h => absurd k1 h⟩
    · rw [if_neg (fun h => k1 h.2), if_pos k0]
      have := q0 k0
      exact ⟨_, _, _, rfl, by omega, ⟨z0, z1⟩, by omega, by omega, by omega, by omega, fun h => absurd k0 h, fun _ _ => c1⟩
  · rw [if_neg (fun h => k0 h.1), if_neg k0]
    exact ⟨_, _, _, rfl, by omega, ⟨z0, z1⟩, by omega, by omega, by omega, by omega, fun _ => a1, fun h => absurd h k0⟩
end Go.Proofs.Ytpkphohgnelajaa
