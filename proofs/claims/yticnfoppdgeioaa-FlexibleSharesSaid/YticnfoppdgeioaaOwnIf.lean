/- A variable of the call's own, read whole under a guard. -/
import Derived.Test.YticnfoppdgeioaaOwn
import Derived.BigFrame
namespace Go.Proofs.Yticnfoppdgeioaa
open Go.RowKit
theorem wpList_load_own_if {P : Program} {ops : Array Oper} {rest : List Oper} {op : Oper} {a : Act} {w : World} {Q : Exit → Act → World → Prop} (ty : TypeId) (x : Operand) (ho : op.op = .load ty x)
    (hw : Region.wanted op (yielded ops a.tmps) = true)
    (b : Nat) (hx : a.eval x = .pointer (some ⟨b, 0, none⟩)) {t : TypeId} {cs : Array Value} (h : Own w b t cs) (d : TypeDesc)
    (hu : P.underlying ty = some d) (hd : d.isRow = true) (hi : (P.info? ty).map (·.size) = some cs.size)
    (k : wpList P ops Q rest (a.put op.dst (.agg cs)) w) : wpList P ops Q (op :: rest) a w := by
  refine wpList_step fun K hK => ?_
  rw [if_pos hw]
  refine wp_load_mid ty x ho b 0 hx cs.toList d (fun j v hj => ?_) hu hd (by simpa using hi) (hK _ _ (by simpa using k))
  rw [Nat.zero_add]; exact h.at j v hj
end Go.Proofs.Yticnfoppdgeioaa
