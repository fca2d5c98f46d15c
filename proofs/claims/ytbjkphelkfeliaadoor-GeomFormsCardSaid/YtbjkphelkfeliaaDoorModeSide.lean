/- Layer 2: the side at an edge. -/
import Derived.Test.YtbjkphelkfeliaaDoorMode
namespace Go.Proofs.YtbjkphelkfeliaaDoor
open Go.RowKit
def sideF (wr di edge : Int) : Nat → Nat → Int × Int
  | 0, _ => (0, 200)
  | n + 1, k => if (edgeS wr di k).2 = 0 ∧ (edgeS wr di k).1 = edge then ((k : Int), 0) else sideF wr di edge n (k + 1)
def sideS (wr di edge : Int) : Int × Int := sideF wr di edge 4 0
theorem sideF_step {wr di edge : Int} {k : Nat} (h : k < 4) : sideF wr di edge (4 - k) k = if (edgeS wr di k).2 = 0 ∧ (edgeS wr di k).1 = edge then ((k : Int), 0) else sideF wr di edge (4 - (k + 1)) (k + 1) := by
  obtain ⟨n, hn⟩ : ∃ n, 4 - k = n + 1 := ⟨3 - k, by omega⟩
  rw [hn, show 4 - (k + 1) = n from by omega]; rfl
end Go.Proofs.YtbjkphelkfeliaaDoor
