/- The two tables of package mode, read off the row's list. -/
import Derived.Test.YtpblajjfgnhkdaaDoorMode
import Derived.Lib.LaidTab
import Derived.LaidMore
import Derived.MakeChecks
namespace Go.Proofs.YtpblajjfgnhkdaaDoor
open Go.RowKit
theorem cell_lt {w : World} {b i : Nat} {v : Value} (h : w.cell? ⟨b, i, none⟩ = some v) : b < w.heap.size := by
  unfold World.cell? at h
  rcases Nat.lt_or_ge b w.heap.size with hlt | hge
  · exact hlt
  · simp [Array.getElem?_eq_none hge] at h
theorem tabCells {H : Type} {enc : TypeId × Value → H} {w : World} {base : Nat} {sp : Nat → Bool} {held : Bool} {fuel : Nat} {cs : List Value} {zs : List (List Int)} {p : List MemPlace}
    {t e : TypeId} {n m : Nat} (ht : Tryd.prog.underlying t = some (.array n e)) (he : Tryd.prog.underlying e = some (.array m 3)) (hce : Tryd.prog.cellsOf e = m) (h1 : Tryd.prog.cellsOf 3 = 1)
    (hu : Tryd.prog.underlying 3 = some (.int .i64)) (h : DataW.trod enc Tryd.prog w base sp held fuel t cs = some (.agg (zs.map (Lib.tabData .i64)), p)) :
    ∀ i z, zs[i]? = some z → (cs.drop (i * m)).take m = z.map (Value.int .i64) := by
  obtain ⟨xs, k, _, hx, hl, hn, hi⟩ := DataW.trod_array ht h
  intro i z hz
  simp only [Prod.mk.injEq, DataW.agg.injEq] at hx
  have hlz : zs.length = n := by have := congrArg List.length hx.1; simp at this; omega
  have hin : i < n := by rw [← hlz]; exact (List.getElem?_eq_some_iff.1 hz).1
  have hd := hi i hin
  rw [hce] at hd
  obtain ⟨x, hxi⟩ : ∃ x, xs[i]? = some x := ⟨xs[i]'(by omega), List.getElem?_eq_getElem (by omega)⟩
  have he1 : (xs.map (·.1))[i]? = (zs.map (Lib.tabData .i64))[i]? := by rw [hx.1]
  rw [List.getElem?_map, List.getElem?_map, hxi, hz] at he1
  simp only [Option.map_some, Option.some.injEq] at he1
  rw [hxi] at hd
  exact Lib.cells_of_tab he hu h1 hce (p := x.2) (by rw [hd]; exact congrArg some (Prod.ext he1 rfl))
theorem gE : Tryd.prog.globalNamed "forme/mode.edges" = some 2 := by kernel_rfl
theorem gR : Tryd.prog.globalNamed "forme/mode.rightToLeft" = some 1 := by kernel_rfl
theorem tE : (Tryd.prog.globals[2]?).map (·.type) = some 137 := by kernel_rfl
theorem tR : (Tryd.prog.globals[1]?).map (·.type) = some 136 := by kernel_rfl
theorem tab_of {W : World} (h : laidMetH Tryd.prog [("forme/mode.edges", Rows.laid_forme_mode_edges), ("forme/mode.rightToLeft", Rows.laid_forme_mode_rightToLeft)] W) : Tab W := by
  rw [MakeChecks.laidMetH_plain _ _ _ (by kernel_rfl)] at h
  obtain ⟨ps, ⟨g0, t0, cs0, f0, p0, q0, hg0, ht0, hv0, hd0, ⟨g1, t1, cs1, f1, p1, q1, hg1, ht1, hv1, hd1, _, _⟩, _⟩, _, _⟩ := h
  obtain rfl := Option.some.inj (gE.symm.trans hg0)
  obtain rfl := Option.some.inj (gR.symm.trans hg1)
  obtain rfl := Option.some.inj (tE.symm.trans ht0)
  obtain rfl := Option.some.inj (tR.symm.trans ht1)
  have c3 : Tryd.prog.cellsOf 3 = 1 := by kernel_rfl
  have c4 : Tryd.prog.cellsOf 136 = 4 := by kernel_rfl
  have e1 := Lib.cells_of_tab (zs := [1, 0, 2, 3]) Tryd.underlying136 Tryd.underlying3 c3 c4 hd1
  have e0 := tabCells (zs := [[3, 1, 0, 2], [0, 2, 1, 3], [0, 2, 3, 1]]) Tryd.underlying137 Tryd.underlying136 c4 c3 Tryd.underlying3 hd0
  have r : ∀ j v, ([.int .i64 1, .int .i64 0, .int .i64 2, .int .i64 3] : List Value)[j]? = some v → W.cell? ⟨1, j, none⟩ = some v := fun j v hj => by
    rw [World.var?_cell hg1 hv1 j, ← Array.getElem?_toList, e1]; exact hj
  have s : ∀ i z, ([[3, 1, 0, 2], [0, 2, 1, 3], [0, 2, 3, 1]] : List (List Int))[i]? = some z → ∀ j v, j < 4 → (z.map (Value.int .i64))[j]? = some v → W.cell? ⟨2, i * 4 + j, none⟩ = some v := fun i z hz j v hj4 hj => by
    have := e0 i z hz
    rw [World.var?_cell hg0 hv0, ← Array.getElem?_toList]
    rw [← this, List.getElem?_take, if_pos hj4, List.getElem?_drop] at hj
    exact hj
  have t1 := r 0 _ rfl
  have t2 := s 0 _ rfl 0 _ (by decide) rfl
  have l1 := cell_lt t1
  have l2 := cell_lt t2
  exact ⟨by omega, r 0 _ rfl, r 1 _ rfl, r 2 _ rfl, r 3 _ rfl, s 0 _ rfl 0 _ (by decide) rfl, s 0 _ rfl 1 _ (by decide) rfl, s 0 _ rfl 2 _ (by decide) rfl, s 0 _ rfl 3 _ (by decide) rfl,
    s 1 _ rfl 0 _ (by decide) rfl, s 1 _ rfl 1 _ (by decide) rfl, s 1 _ rfl 2 _ (by decide) rfl, s 1 _ rfl 3 _ (by decide) rfl, s 2 _ rfl 0 _ (by decide) rfl, s 2 _ rfl 1 _ (by decide) rfl, s 2 _ rfl 2 _ (by decide) rfl, s 2 _ rfl 3 _ (by decide) rfl⟩
end Go.Proofs.YtpblajjfgnhkdaaDoor
