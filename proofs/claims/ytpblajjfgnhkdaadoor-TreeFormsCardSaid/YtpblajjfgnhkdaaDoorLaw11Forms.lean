/- Layer 11: trees that may not be, one thing at a time. -/
import Derived.Test.YtpblajjfgnhkdaaDoorForms11W0
import Derived.Test.YtpblajjfgnhkdaaDoorForms11W1
import Derived.Test.YtpblajjfgnhkdaaDoorForms11W2
import Derived.Test.YtpblajjfgnhkdaaDoorForms11W3
import Derived.Test.YtpblajjfgnhkdaaDoorForms11W4
import Derived.Test.YtpblajjfgnhkdaaDoorForms11W5
import Derived.Test.YtpblajjfgnhkdaaDoorForms11W6
namespace Go.Proofs.YtpblajjfgnhkdaaDoor
open Go.RowKit
set_option linter.unusedVariables false
theorem treeForms_walk (which x : Int) (w : World) (ht : NameT w) :
    Calls Tryd.prog 5 #[.int .i64 which, .int .i64 x] w fun e w' => e = .returned (.bool true) ∧ Kept w w' := by
  obtain ⟨q, hq, q0, q1⟩ := masked x 10 1023 (by decide) (by decide)
  obtain ⟨r, hr, r0, r1⟩ := urest2 which 20 (by decide)
  rcases (by omega : r = 0 ∨ r = 1 ∨ r = 2 ∨ r = 3 ∨ r = 4 ∨ r = 5 ∨ r = 6 ∨ r = 7 ∨ r = 8 ∨ r = 9 ∨ r = 10 ∨ r = 11 ∨ r = 12 ∨ r = 13 ∨ r = 14 ∨ r = 15 ∨ r = 16 ∨ r = 17 ∨ r = 18 ∨ r = 19) with rfl | rfl | rfl | rfl | rfl | rfl | rfl | rfl | rfl | rfl | rfl | rfl | rfl | rfl | rfl | rfl | rfl | rfl | rfl | rfl
  · exact treeForms_0 which x q hr hq q0 q1 w ht
  · exact treeForms_1 which x q hr hq q0 q1 w ht
  · exact treeForms_2 which x q hr hq q0 q1 w ht
  · exact treeForms_3 which x q hr hq q0 q1 w ht
  · exact treeForms_4 which x q hr hq q0 q1 w ht
  · exact treeForms_5 which x q hr hq q0 q1 w ht
  · exact treeForms_6 which x q hr hq q0 q1 w ht
  · exact treeForms_7 which x q hr hq q0 q1 w ht
  · exact treeForms_8 which x q hr hq q0 q1 w ht
  · exact treeForms_9 which x q hr hq q0 q1 w ht
  · exact treeForms_10 which x q hr hq q0 q1 w ht
  · exact treeForms_11 which x q hr hq q0 q1 w ht
  · exact treeForms_12 which x q hr hq q0 q1 w ht
  · exact treeForms_13 which x q hr hq q0 q1 w ht
  · exact treeForms_14 which x q hr hq q0 q1 w ht
  · exact treeForms_15 which x q hr hq q0 q1 w ht
  · exact treeForms_16 which x q hr hq q0 q1 w ht
  · exact treeForms_17 which x q hr hq q0 q1 w ht
  · exact treeForms_18 which x q hr hq q0 q1 w ht
  · exact treeForms_19 which x q hr hq q0 q1 w ht
end Go.Proofs.YtpblajjfgnhkdaaDoor
