/- The names of all properties, read off a row's list of one. -/
import Derived.Test.YtpblajjfgnhkdaaDoorTabNC
import Derived.Test.YtpblajjfgnhkdaaDoorDeclC
namespace Go.Proofs.YtpblajjfgnhkdaaDoor
open Go.RowKit
theorem tabN1_of {W : World} (h : laidMetH Tryd.prog [("forme/prop.names", Rows.laid_forme_prop_names)] W) : NameT W := by
  rw [MakeChecks.laidMetH_plain _ _ _ (by kernel_rfl)] at h
  obtain ⟨ps, ⟨g2, t2, cs2, f2, p2, q2, hg2, ht2, hv2, hd2, _, _⟩, _, _⟩ := h
  obtain rfl := Option.some.inj (gN.symm.trans hg2)
  obtain rfl := Option.some.inj (tN.symm.trans ht2)
  have c5 : Tryd.prog.cellsOf 9 = 1 := by kernel_rfl
  rw [laidN] at hd2
  have e2 := cells_of_strs Tryd.underlying96 Tryd.underlying9 c5 hd2
  have n : ∀ k, k < 29 → W.cell? ⟨0, k, none⟩ = some (.string (nameS k)) := fun k hk => by
    have hkl : k < nameL.length := hk
    obtain ⟨x, hx⟩ : ∃ x, nameL[k]? = some x := ⟨nameL[k], List.getElem?_eq_getElem hkl⟩
    obtain ⟨s, hs, hd⟩ := e2 k x.data.toList (by rw [List.getElem?_map, hx]; rfl)
    have hsx : s = x := Go.WideShapes.bytes_inj hd
    rw [World.var?_cell hg2 hv2 k, ← Array.getElem?_toList, hs, hsx]
    unfold nameS
    rw [List.getD_eq_getElem?_getD, hx]
    rfl
  exact ⟨World.block_lt_of_cell? _ _ (n 0 (by decide)), n⟩
end Go.Proofs.YtpblajjfgnhkdaaDoor
