/- Layer 9: the document's properties. -/
import Derived.Test.YtpblajjfgnhkdaaDoorPropN
import Derived.Test.YtpblajjfgnhkdaaDoorRefMode
namespace Go.Proofs.YtpblajjfgnhkdaaDoor
open Go.RowKit
set_option linter.unusedSimpArgs false
set_option linter.unusedVariables false
theorem names_lit (A : Array Value) (hA : A = (nameL.map Value.string).toArray) (k : Nat) (h : k < 29) : A[k]? = some (.string (nameS k)) := by
  have hkl : k < nameL.length := h
  subst hA
  unfold nameS
  rw [List.getElem?_toArray, List.getElem?_map, List.getElem?_eq_getElem hkl, List.getD_eq_getElem?_getD, List.getElem?_eq_getElem hkl]
  rfl
theorem refPropMay_any (p : Int) (w : World) :
    Calls Tryd.prog 46 #[.int .i64 p] w fun e w' => e = .returned (.bool (inB 0 28 p)) ∧ w = w' := by
  by_cases h1 : 0 ≤ p
  · skip
    go_enter Tryd.func46, Tryd.ntmps46
    go_wp2
    go_ret
    exact ⟨ret_bool (by unfold inB; simp [h1]), rfl⟩
  · have h2 : p < 0 := by omega
    go_enter Tryd.func46, Tryd.ntmps46
    go_wp2
    go_ret
    exact ⟨ret_bool (by unfold inB; simp; omega), rfl⟩
end Go.Proofs.YtpblajjfgnhkdaaDoor
