/- Layer 3: numbers, modes, boxes that may not be: every call. -/
import Derived.Test.YtbjkphelkfeliaaDoorLaw3Forms0
import Derived.Test.YtbjkphelkfeliaaDoorLaw3Forms1
import Derived.Test.YtbjkphelkfeliaaDoorMask
namespace Go.Proofs.YtbjkphelkfeliaaDoor
open Go.RowKit
theorem geomForms_walk (which x : Int) (w : World) (ht : Tab w) :
    Calls Tryd.prog 5 #[.int .i64 which, .int .i64 x] w fun e w' => e = .returned (.bool true) ∧ Kept w w' := by
  obtain ⟨q, hq, q0, q1⟩ := masked which 2 3 rfl (by decide)
  obtain ⟨k, rfl⟩ := Int.eq_ofNat_of_zero_le q0
  obtain ⟨r, hr, r0, r1⟩ := masked x 10 1023 rfl (by decide)
  obtain ⟨d, rfl⟩ : ∃ d, r = d - 1 := ⟨r + 1, by omega⟩
  obtain ⟨j, hj, j0, j1⟩ := urest2 which 8 (by decide)
  cases h16 : (bits .and .i64 which 16 == 16) with
  | false => exact geomForms_0 which x d k (by omega) hq h16 hr (by omega) (by omega) j hj j0 j1 w ht
  | true => exact geomForms_1 which x d k (by omega) hq (by simpa using h16) hr (by omega) (by omega) j hj j0 j1 w ht
end Go.Proofs.YtbjkphelkfeliaaDoor
