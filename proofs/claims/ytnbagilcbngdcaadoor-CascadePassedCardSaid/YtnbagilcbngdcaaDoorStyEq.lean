/- Layer 10: a style is equal to itself. -/
import Derived.Test.YtnbagilcbngdcaaDoorMg1
import Derived.Laws.StructEq
import Derived.Deep.RegionHeld3
namespace Go.Proofs.YtnbagilcbngdcaaDoor
open Go.RowKit
set_option linter.unusedSimpArgs false
set_option linter.unusedVariables false
set_option maxHeartbeats 4000000
theorem eql_len (d : Nat) (k v : Int) (w : World) : Sem.run Tryd.prog (Op.equalIn (d + 2) 23 (.agg #[.int .i64 k, .int .i64 v]) (.agg #[.int .i64 k, .int .i64 v])) w = .ok true w := by
  go_simp
theorem eql_four (d : Nat) (x0 x1 x2 x3 : Len) (w : World) : Sem.run Tryd.prog (Op.equalIn (d + 3) 40 (.agg #[.int .i64 x0.k, .int .i64 x0.v, .int .i64 x1.k, .int .i64 x1.v, .int .i64 x2.k, .int .i64 x2.v, .int .i64 x3.k, .int .i64 x3.v]) (.agg #[.int .i64 x0.k, .int .i64 x0.v, .int .i64 x1.k, .int .i64 x1.v, .int .i64 x2.k, .int .i64 x2.v, .int .i64 x3.k, .int .i64 x3.v])) w = .ok true w := by
  have he := fun k v w => eql_len d k v w
  unfold Op.equalIn
  go_simp
  rw [show List.range' 0 4 = [0, 1, 2, 3] from rfl]
  go_simp
theorem eql_sty (s : Sty) (w : World) : Sem.run Tryd.prog (Op.equalIn 10000 42 s.V s.V) w = .ok true w := by
  have he := fun k v w => eql_len 9997 k v w
  have hf := fun x0 x1 x2 x3 w => eql_four 9996 x0 x1 x2 x3 w
  unfold Sty.V Sty.C
  go_simp
end Go.Proofs.YtnbagilcbngdcaaDoor
