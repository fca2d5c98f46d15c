/- Layer 9: the property that has a name. -/
import Derived.Test.YtpblajjfgnhkdaaDoorProp
import Derived.Deep.MidRow
import Derived.Laws.PanicsMore
namespace Go.Proofs.YtpblajjfgnhkdaaDoor
open Go.RowKit
set_option linter.unusedSimpArgs false
set_option linter.unusedVariables false
def propF (s : ByteArray) : Nat → Nat → Int × Int
  | 0, _ => (0, 900)
  | n + 1, k => if (nameS k).toList = s.toList then ((k : Int), 0) else propF s n (k + 1)
def propOf (s : ByteArray) : Int × Int := propF s 29 0
theorem propF_step {s : ByteArray} {k : Nat} (h : k < 29) : propF s (29 - k) k = if (nameS k).toList = s.toList then ((k : Int), 0) else propF s (29 - (k + 1)) (k + 1) := by
  obtain ⟨n, hn⟩ : ∃ n, 29 - k = n + 1 := ⟨28 - k, by omega⟩
  rw [hn, show 29 - (k + 1) = n from by omega]; rfl
def nameV : List Value := (List.range 29).map fun k => .string (nameS k)
theorem nameV_at (k : Nat) (h : k < 29) : nameV[k]? = some (.string (nameS k)) := by simp [nameV, h]
theorem nameV_range {w : World} (ht : TabN w) : w.rangeAt 0 0 nameV := fun j v hj => by
  have hl : j < 29 := by have := (List.getElem?_eq_some_iff.1 hj).1; simpa [nameV] using this
  rw [nameV_at j hl] at hj
  rw [Nat.zero_add, ht.nm j hl, hj]
theorem nameV_index (w : World) (k : Nat) (h : k < 29) : Sem.run Tryd.prog (Instr.index 96 (.agg nameV.toArray) (.int .i64 (k : Int))) w = .ok (.string (nameS k)) w := by
  have h1 := nameV_at k h
  have h2 : (0 : Int) ≤ (k : Int) ∧ (k : Int) < 29 := by omega
  simp [Instr.index, run_underlying Tryd.underlying96, asIntOf, h1, h2, h, go_sem]
end Go.Proofs.YtpblajjfgnhkdaaDoor
