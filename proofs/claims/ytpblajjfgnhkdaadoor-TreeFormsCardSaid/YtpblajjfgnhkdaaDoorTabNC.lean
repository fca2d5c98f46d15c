/- The names of all properties, read off a row's list. -/
import Derived.Test.YtpblajjfgnhkdaaDoorProp
import Derived.Test.YtpblajjfgnhkdaaDoorTab
import Derived.WideShapes
namespace Go.Proofs.YtpblajjfgnhkdaaDoor
open Go.RowKit
theorem cells_of_strs {H : Type} {enc : TypeId × Value → H} {P : Program} {w : World} {base : Nat} {sp : Nat → Bool} {held : Bool} {fuel : Nat} {t e : TypeId} {n : Nat} {cs : List Value} {zs : List (List UInt8)} {p : List MemPlace}
    (ht : P.underlying t = some (.array n e)) (he : P.underlying e = some .string) (hce : P.cellsOf e = 1)
    (h : DataW.trod enc P w base sp held fuel t cs = some (.agg (zs.map fun z => (DataW.lit (Lit.string z) : DataW H)), p)) : ∀ (i : Nat) (z : List UInt8), zs[i]? = some z → ∃ s : ByteArray, cs[i]? = some (Value.string s) ∧ s.data.toList = z := by
  obtain ⟨xs, k, _, hx, hl, hn, hi⟩ := DataW.trod_array ht h
  intro i z hz
  simp only [Prod.mk.injEq, DataW.agg.injEq] at hx
  have hlz : zs.length = n := by have := congrArg List.length hx.1; simp at this; omega
  have hin : i < n := by rw [← hlz]; exact (List.getElem?_eq_some_iff.1 hz).1
  have hd := hi i hin
  rw [hce] at hd
  obtain ⟨x, hxi⟩ : ∃ x, xs[i]? = some x := ⟨xs[i]'(by omega), List.getElem?_eq_getElem (by omega)⟩
  have he1 : (xs.map (·.1))[i]? = (zs.map fun z => (DataW.lit (.string z) : DataW H))[i]? := by rw [hx.1]
  rw [List.getElem?_map, List.getElem?_map, hxi, hz] at he1
  simp only [Option.map_some, Option.some.injEq] at he1
  rw [hxi] at hd
  obtain ⟨s, hs, hx2, _⟩ := DataW.trod_string he hd
  rw [hx2] at he1
  simp only [DataW.lit.injEq, Lit.string.injEq] at he1
  refine ⟨s, ?_, he1⟩
  have := congrArg (·[0]?) hs
  simpa [List.getElem?_take, List.getElem?_drop] using this
theorem gN : Tryd.prog.globalNamed "forme/prop.names" = some 0 := by kernel_rfl
theorem tN : (Tryd.prog.globals[0]?).map (·.type) = some 96 := by kernel_rfl
theorem laidN {H : Type} : (Rows.laid_forme_prop_names : DataW H) = .agg ((nameL.map fun s => s.data.toList).map fun z => (DataW.lit (Lit.string z) : DataW H)) := by kernel_rfl
end Go.Proofs.YtpblajjfgnhkdaaDoor
