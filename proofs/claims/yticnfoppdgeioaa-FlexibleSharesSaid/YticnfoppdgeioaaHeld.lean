/- Drawn regions: a variable of the call's own may be read whole first. -/
import Derived.Test.YticnfoppdgeioaaOwnIf
import Derived.Deep.RegionHeld3
namespace Go.Proofs.Yticnfoppdgeioaa
open Go.RowKit
theorem yieldsIf_load_own {P : Program} {ops : Array Oper} {S : World → Prop} {op : Oper} {a : Act} (hw : Region.wanted op (yielded ops a.tmps) = true) (ty : TypeId) (x : Operand) (ho : op.op = .load ty x)
    (b : Nat) (hx : a.eval x = .pointer (some ⟨b, 0, none⟩)) {t : TypeId} {cs : Array Value} (hS : ∀ w, S w → Own w b t cs) (d : TypeDesc)
    (hu : P.underlying ty = some d) (hd : d.isRow = true) (hi : (P.info? ty).map (·.size) = some cs.size) : YieldsIf P ops S op (.agg cs) a := by
  have h := yieldsIf_load_mid (P := P) (S := S) hw ty x ho b 0 hx cs.toList d (fun w h j v hj => by rw [Nat.zero_add]; exact (hS w h).at j v hj) hu hd (by simpa using hi)
  simpa using h
end Go.Proofs.Yticnfoppdgeioaa
