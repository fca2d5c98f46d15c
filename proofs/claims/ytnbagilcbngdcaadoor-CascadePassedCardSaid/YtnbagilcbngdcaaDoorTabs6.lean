/- All tables, read off the row's list. -/
import Derived.Test.YtnbagilcbngdcaaDoorTabNC
import Derived.Test.YtnbagilcbngdcaaDoorPow8C
namespace Go.Proofs.YtnbagilcbngdcaaDoor
open Go.RowKit
theorem tabN6_of {W : World} (h : laidMetH Tryd.prog [("forme/mode.edges", Rows.laid_forme_mode_edges), ("forme/mode.rightToLeft", Rows.laid_forme_mode_rightToLeft), ("forme/prop.names", Rows.laid_forme_prop_names), ("math/bits.deBruijn32tab", Rows.laid_math_bits_deBruijn32tab), ("math/bits.deBruijn64tab", Rows.laid_math_bits_deBruijn64tab), ("internal/strconv.uint64pow10", Rows.laid_internal_strconv_uint64pow10)] W) : TabN W := by
  rw [MakeChecks.laidMetH_plain _ _ _ (by kernel_rfl)] at h
  obtain ⟨ps, ⟨g0, t0, cs0, f0, p0, q0, hg0, ht0, hv0, hd0, ⟨g1, t1, cs1, f1, p1, q1, hg1, ht1, hv1, hd1, ⟨g2, t2, cs2, f2, p2, q2, hg2, ht2, hv2, hd2, _, _⟩, _⟩, _⟩, _, _⟩ := h
  obtain rfl := Option.some.inj (gE.symm.trans hg0)
  obtain rfl := Option.some.inj (gR.symm.trans hg1)
  obtain rfl := Option.some.inj (gN.symm.trans hg2)
  obtain rfl := Option.some.inj (tE.symm.trans ht0)
  obtain rfl := Option.some.inj (tR.symm.trans ht1)
  obtain rfl := Option.some.inj (tN.symm.trans ht2)
  have c3 : Tryd.prog.cellsOf 3 = 1 := by kernel_rfl
  have c4 : Tryd.prog.cellsOf 118 = 4 := by kernel_rfl
  have c5 : Tryd.prog.cellsOf 9 = 1 := by kernel_rfl
  have e1 := Lib.cells_of_tab (zs := [1, 0, 2, 3]) Tryd.underlying118 Tryd.underlying3 c3 c4 hd1
  have e0 := tabCells (zs := [[3, 1, 0, 2], [0, 2, 1, 3], [0, 2, 3, 1]]) Tryd.underlying119 Tryd.underlying118 c4 c3 Tryd.underlying3 hd0
  rw [laidN] at hd2
  have e2 := cells_of_strs Tryd.underlying82 Tryd.underlying9 c5 hd2
  have r : ∀ j v, ([.int .i64 1, .int .i64 0, .int .i64 2, .int .i64 3] : List Value)[j]? = some v → W.cell? ⟨2, j, none⟩ = some v := fun j v hj => by
    rw [World.var?_cell hg1 hv1 j, ← Array.getElem?_toList, e1]; exact hj
  have s : ∀ i z, ([[3, 1, 0, 2], [0, 2, 1, 3], [0, 2, 3, 1]] : List (List Int))[i]? = some z → ∀ j v, j < 4 → (z.map (Value.int .i64))[j]? = some v → W.cell? ⟨3, i * 4 + j, none⟩ = some v := fun i z hz j v hj4 hj => by
    have := e0 i z hz
    rw [World.var?_cell hg0 hv0, ← Array.getElem?_toList]
    rw [← this, List.getElem?_take, if_pos hj4, List.getElem?_drop] at hj
    exact hj
  have n : ∀ k, k < 29 → W.cell? ⟨0, k, none⟩ = some (.string (nameS k)) := fun k hk => by
    have hkl : k < nameL.length := hk
    obtain ⟨x, hx⟩ : ∃ x, nameL[k]? = some x := ⟨nameL[k], List.getElem?_eq_getElem hkl⟩
    obtain ⟨s, hs, hd⟩ := e2 k x.data.toList (by rw [List.getElem?_map, hx]; rfl)
    have hsx : s = x := Go.WideShapes.bytes_inj hd
    rw [World.var?_cell hg2 hv2 k, ← Array.getElem?_toList, hs, hsx]
    unfold nameS
    rw [List.getD_eq_getElem?_getD, hx]
    rfl
  have t1 := r 0 _ rfl
  have t2 := s 0 _ rfl 0 _ (by decide) rfl
  have l1 := cell_lt t1
  have l2 := cell_lt t2
  exact ⟨⟨by omega, r 0 _ rfl, r 1 _ rfl, r 2 _ rfl, r 3 _ rfl, s 0 _ rfl 0 _ (by decide) rfl, s 0 _ rfl 1 _ (by decide) rfl, s 0 _ rfl 2 _ (by decide) rfl, s 0 _ rfl 3 _ (by decide) rfl,
    s 1 _ rfl 0 _ (by decide) rfl, s 1 _ rfl 1 _ (by decide) rfl, s 1 _ rfl 2 _ (by decide) rfl, s 1 _ rfl 3 _ (by decide) rfl, s 2 _ rfl 0 _ (by decide) rfl, s 2 _ rfl 1 _ (by decide) rfl, s 2 _ rfl 2 _ (by decide) rfl, s 2 _ rfl 3 _ (by decide) rfl⟩, cell_lt (n 0 (by decide)), n⟩
theorem pow6_of {W : World} (h : laidMetH Tryd.prog [("forme/mode.edges", Rows.laid_forme_mode_edges), ("forme/mode.rightToLeft", Rows.laid_forme_mode_rightToLeft), ("forme/prop.names", Rows.laid_forme_prop_names), ("math/bits.deBruijn32tab", Rows.laid_math_bits_deBruijn32tab), ("math/bits.deBruijn64tab", Rows.laid_math_bits_deBruijn64tab), ("internal/strconv.uint64pow10", Rows.laid_internal_strconv_uint64pow10)] W) : Pow W := by
  rw [MakeChecks.laidMetH_plain _ _ _ (by kernel_rfl)] at h
  have h2 := h.tail.tail.tail.tail.tail
  rw [laid10] at h2
  exact Lib.tabIs_of_head g10 ty10 Tryd.underlying113 Tryd.underlying79 (by kernel_rfl) (by kernel_rfl) h2
end Go.Proofs.YtnbagilcbngdcaaDoor
