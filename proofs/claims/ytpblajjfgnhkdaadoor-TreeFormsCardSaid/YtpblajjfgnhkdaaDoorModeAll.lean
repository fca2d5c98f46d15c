/- Layer 2: all modes, in memory of their own. -/
import Derived.Test.YtpblajjfgnhkdaaDoorMode
namespace Go.Proofs.YtpblajjfgnhkdaaDoor
open Go.RowKit
theorem modeInfo : (Tryd.prog.info? 52).map (fun i => (i.zero, i.size, i.bytes)) = some (some (.agg #[.int .i64 0, .int .i64 0]), 2, 16) := by kernel_rfl
/-- the six modes, number by number -/
def allModes : List Value := [.int .i64 0, .int .i64 0, .int .i64 0, .int .i64 1, .int .i64 1, .int .i64 0, .int .i64 1, .int .i64 1, .int .i64 2, .int .i64 0, .int .i64 2, .int .i64 1]
/-- where a list of cells lies, in a block of the call's own -/
structure Lies (w w' : World) (g : Nat) (xs : List Value) : Prop where
  ge : w.heap.size ≤ g
  lt : g < w'.heap.size
  cell : ∀ j u, xs[j]? = some u → w'.cell? ⟨g, j, none⟩ = some u
theorem Lies.kept {w w1 w2 : World} {g : Nat} {xs : List Value} (h : Lies w w1 g xs) (k : Kept w1 w2) : Lies w w2 g xs :=
  ⟨h.ge, Nat.lt_of_lt_of_le h.lt k.size, fun j u hu => (k.cell h.lt).trans (h.cell j u hu)⟩
theorem lies_of {w w' : World} {e : TypeId} {size n : Nat} {v : Value} {xs : List Value} (h : w'.ownsRow w.heap.size e size v n xs) (hn : 0 < n) : ∃ g cap, v = .slice (some ⟨g, 0, none⟩) n cap ∧ Lies w w' g xs := by
  rcases h.2 with ⟨_, h0⟩ | ⟨g, cap, cur, rfl, hge, hh, _⟩
  · omega
  refine ⟨g, cap, rfl, hge, (Array.getElem?_eq_some_iff.1 hh).1, fun j u hu => ?_⟩
  have := h.cells (g := g) rfl j u hu
  have e : ((⟨g, 0, none⟩ : Addr).add j) = ⟨g, j, none⟩ := by
    unfold Addr.add
    by_cases h : j = 0
    · subst h; rfl
    · rw [if_neg h]; simp
  rwa [e] at this
end Go.Proofs.YtpblajjfgnhkdaaDoor
