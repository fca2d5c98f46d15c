/- Layer 2: all modes, in memory of their own. -/
import Derived.Test.YtkapmnbkmljpkaaDoorMode
namespace Go.Proofs.YtkapmnbkmljpkaaDoor
open Go.RowKit
theorem modeInfo : (Tryd.prog.info? 23).map (fun i => (i.zero, i.size, i.bytes)) = some (some (.agg #[.int .i64 0, .int .i64 0]), 2, 16) := by kernel_rfl
/-- the six modes, number by number -/
def allModes : List Value := [.int .i64 0, .int .i64 0, .int .i64 0, .int .i64 1, .int .i64 1, .int .i64 0, .int .i64 1, .int .i64 1, .int .i64 2, .int .i64 0, .int .i64 2, .int .i64 1]
set_option maxHeartbeats 1000000 in
theorem modeAll_any (w : World) :
    Calls Tryd.prog 13 #[] w fun e w' => ∃ v, e = .returned v ∧ w'.ownsRow w.heap.size 23 2 v 6 allModes ∧ Kept w w' := by
  obtain ⟨i0, hi, hz0, hz1, hz2⟩ := info_parts modeInfo
  go_enter Tryd.func13, Tryd.ntmps13
  go_wp2
  go_loopw [1, 2] (fun v i wx => ∃ k : Nat, k ≤ 3 ∧ i = .int .i64 k ∧ wx.ownsRow w.heap.size 23 2 v (2 * k) (allModes.take (4 * k)) ∧ Kept w wx) (fun _ i _ => 3 - (intOf i).toNat)
  case atStart => exact ⟨0, Nat.zero_le _, rfl, World.ownsRow_nil _ _ _ _, Kept.refl _⟩
  case round =>
    obtain ⟨k, hk4, rfl, hown, hk⟩ := hrel
    rcases (by omega : k = 0 ∨ k = 1 ∨ k = 2 ∨ k = 3) with rfl | rfl | rfl | rfl
    case inr.inr.inr =>
      go_wp2
      go_ret
      exact ⟨_, rfl, hown, hk⟩
    case inl =>
      go_wp2_with (at_builtin; refine wpList_append_own _ rfl _ _ 29 rfl w.heap.size 23 i0 (.agg #[.int .i64 0, .int .i64 0]) 2 16 Tryd.underlying29 hi hz0 hz1 hz2 rfl (by decide) _ _ _ rfl (hown.alloc _) ⟨wr.heap.size, 0, none⟩ 2 2 [.int .i64 0, .int .i64 0, .int .i64 0, .int .i64 1] rfl rfl (lit_cells wr #[.int .i64 0, .int .i64 0, .int .i64 0, .int .i64 1] 23) (by simp [Value.oneCell']) (by simp [maxLen]) (by decide) (by have := hk.size; simp; omega) ?_; intro v2 w2 hown2 hg2 _)
      have hk2 : Kept w w2 := (hk.alloc _).grown hg2 (row_ge hown)
      exact ⟨⟨0 + 1, by omega, rfl, hown2, hk2⟩, by simp [intOf]⟩
    case inr.inl =>
      go_wp2_with (at_builtin; refine wpList_append_own _ rfl _ _ 29 rfl w.heap.size 23 i0 (.agg #[.int .i64 0, .int .i64 0]) 2 16 Tryd.underlying29 hi hz0 hz1 hz2 rfl (by decide) _ _ _ rfl (hown.alloc _) ⟨wr.heap.size, 0, none⟩ 2 2 [.int .i64 1, .int .i64 0, .int .i64 1, .int .i64 1] rfl rfl (lit_cells wr #[.int .i64 1, .int .i64 0, .int .i64 1, .int .i64 1] 23) (by simp [Value.oneCell']) (by simp [maxLen]) (by decide) (by have := hk.size; simp; omega) ?_; intro v2 w2 hown2 hg2 _)
      have hk2 : Kept w w2 := (hk.alloc _).grown hg2 (row_ge hown)
      exact ⟨⟨1 + 1, by omega, rfl, hown2, hk2⟩, by simp [intOf]⟩
    case inr.inr.inl =>
      go_wp2_with (at_builtin; refine wpList_append_own _ rfl _ _ 29 rfl w.heap.size 23 i0 (.agg #[.int .i64 0, .int .i64 0]) 2 16 Tryd.underlying29 hi hz0 hz1 hz2 rfl (by decide) _ _ _ rfl (hown.alloc _) ⟨wr.heap.size, 0, none⟩ 2 2 [.int .i64 2, .int .i64 0, .int .i64 2, .int .i64 1] rfl rfl (lit_cells wr #[.int .i64 2, .int .i64 0, .int .i64 2, .int .i64 1] 23) (by simp [Value.oneCell']) (by simp [maxLen]) (by decide) (by have := hk.size; simp; omega) ?_; intro v2 w2 hown2 hg2 _)
      have hk2 : Kept w w2 := (hk.alloc _).grown hg2 (row_ge hown)
      exact ⟨⟨2 + 1, by omega, rfl, hown2, hk2⟩, by simp [intOf]⟩
/-- where a list of cells lies, in a block of the call's own -/
structure Lies (w w' : World) (g : Nat) (xs : List Value) : Prop where
  ge : w.heap.size ≤ g
  lt : g < w'.heap.size
  cell : ∀ j u, xs[j]? = some u → w'.cell? ⟨g, j, none⟩ = some u
theorem Lies.kept {w w1 w2 : World} {g : Nat} {xs : List Value} (h : Lies w w1 g xs) (k : Kept w1 w2) : Lies w w2 g xs :=
  ⟨h.ge, Nat.lt_of_lt_of_le h.lt k.size, fun j u hu => (k.cell h.lt).trans (h.cell j u hu)⟩
theorem lies_of {w w' : World} {e : TypeId} {size n : Nat} {v : Value} {xs : List Value} (h : w'.ownsRow w.heap.size e size v n xs) (hn : 0 < n) : ∃ g cap, v = .slice (some ⟨g, 0, none⟩) n cap ∧ Lies w w' g xs := by
  rcases h.2 with ⟨_, h0⟩ | ⟨g, cap, cur, rfl, hge, hh, _⟩
  · omega
  refine ⟨g, cap, rfl, hge, (Array.getElem?_eq_some_iff.1 hh).1, fun j u hu => ?_⟩
  have := h.cells (g := g) rfl j u hu
  have e : ((⟨g, 0, none⟩ : Addr).add j) = ⟨g, j, none⟩ := by
    unfold Addr.add
    by_cases h : j = 0
    · subst h; rfl
    · rw [if_neg h]; simp
  rwa [e] at this
theorem modeAll_lies (w : World) :
    Calls Tryd.prog 13 #[] w fun e w' => ∃ g cap, e = .returned (.slice (some ⟨g, 0, none⟩) 6 cap) ∧ Lies w w' g allModes ∧ Kept w w' :=
  (modeAll_any w).mono fun e w' ⟨v, he, ho, hk⟩ => by
    obtain ⟨g, cap, hv, hl⟩ := lies_of ho (by decide)
    exact ⟨g, cap, by rw [he, hv], hl, hk⟩
end Go.Proofs.YtkapmnbkmljpkaaDoor
