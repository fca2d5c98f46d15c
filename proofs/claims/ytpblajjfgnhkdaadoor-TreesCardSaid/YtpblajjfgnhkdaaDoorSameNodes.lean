/- Nodes, compared: the same. -/
import Derived.Test.YtpblajjfgnhkdaaDoorCopyNodes
import Derived.BigRegion
namespace Go.Proofs.YtpblajjfgnhkdaaDoor
open Go.RowKit Go.Deep
set_option linter.unusedSimpArgs false
set_option linter.unusedVariables false
set_option maxRecDepth 20000 in
set_option maxHeartbeats 4000000 in
theorem sameNodes_yes (sl1 sl2 : Option Addr) (n c1 c2 : Nat) (N : Nat → Nd) (D1 D2 : Nat → Value) (w : World) (h1 : NodesV w (.slice sl1 n c1) n N D1) (h2 : NodesV w (.slice sl2 n c2) n N D2) (hn : n ≤ 4611686018427387904) :
    Calls Tryd.prog 22 #[.slice sl1 n c1, .slice sl2 n c2] w fun e w' => e = .returned (.bool true) ∧ Kept w w' := by
  have H1 := Lib.hid h1
  have H2 := Lib.hid h2
  clear h1 h2
  go_enter Tryd.func22, Tryd.ntmps22
  go_wp2
  go_loopw [5, 6, 7] (fun i _ _ wx => ∃ k : Nat, k ≤ n ∧ i = .int .i64 k ∧ Kept w wx) (fun i _ _ _ => n - (intOf i).toNat)
  case atStart => exact ⟨0, Nat.zero_le _, rfl, Kept.refl _⟩
  case round =>
    obtain ⟨k, hkn, rfl, hk⟩ := hrel
    by_cases hlt : k < n
    · have hi1 : (k : Int) < (n : Int) := by omega
      have hi0 : (0 : Int) ≤ (k : Int) := Int.natCast_nonneg _
      obtain ⟨b, off, rfl, hle, hrow⟩ := (H1.out.kept hk).row.row (by omega)
      obtain ⟨b2, off2, rfl, hle2, hrow2⟩ := (H2.out.kept hk).row.row (by omega)
      have hd1 := ((H1.out.kept hk).each k hlt).decls
      have hd2 := ((H2.out.kept hk).each k hlt).decls
      have hfew := ((H1.out.kept hk).each k hlt).few
      obtain ⟨a0, a1, a2, a3, a4, a5⟩ := node_cells hrow hlt
      obtain ⟨e0, e1, e2, e3, e4, e5⟩ := node_cells hrow2 hlt
      obtain ⟨o1, p1, hD1⟩ := hd1.shape
      obtain ⟨o2, p2, hD2⟩ := hd2.shape
      rw [hD1] at a4 hd1
      rw [hD2] at e4 hd2
      clear hrow hrow2 hD1 hD2
      have HS := Lib.hid (fun wx (hx : Kept wr wx) => sameDecls_yes (w := wx) (hd1.kept hx) (hd2.kept hx) hfew)
      clear hd1 hd2
      generalize N k = y at *
      obtain ⟨pa, ki, fl, cl, m, P, T, te⟩ := y
      dsimp only at a0 a1 a2 a3 a4 a5 e0 e1 e2 e3 e4 e5 HS hfew
      have lb1 : b < wr.heap.size := World.block_lt_of_cell? _ _ a0
      have lb2 : b2 < wr.heap.size := World.block_lt_of_cell? _ _ e0
      go_upto_region 6 with fail
      go_region
      all_goals
        go_wp2_with (first
          | (go_at_call 38; (refine (HS.out _ (((Kept.refl wr).alloc _).alloc _).drew).mono ?_); rintro e w3 ⟨rfl, hn3⟩))
        exact ⟨⟨k + 1, by omega, by first | rfl | go_num, hk.trans (((((Kept.refl wr).alloc _).alloc _).drew).trans hn3)⟩, by first | (simp [intOf]; done) | (simp [intOf]; omega)⟩
    · obtain rfl : k = n := by omega
      go_wp2
      go_ret
      exact ⟨rfl, hk⟩
end Go.Proofs.YtpblajjfgnhkdaaDoor
