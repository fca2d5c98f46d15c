/- Layer 3: what is held while a rectangle is put together. -/
import Derived.Test.YtbjkphelkfeliaaDoorGeom2
import Derived.Deep.RegionHeld3
namespace Go.Proofs.YtbjkphelkfeliaaDoor
open Go.RowKit
set_option linter.unusedSimpArgs false
set_option linter.unusedVariables false
/-- what a cell holds, whatever it is -/
def rd (w : World) (p : Addr) : Value := (w.cell? p).getD undef
theorem rd_some {w : World} {p : Addr} {v : Value} (h : w.cell? p = some v) : w.cell? p = some (rd w p) := by unfold rd; rw [h]; rfl
theorem set_some {w : World} {p q : Addr} {u v : Value} (h : w.cell? q = some v) : (w.setCell p u).cell? q = some (rd (w.setCell p u) q) := by
  obtain ⟨v', hv⟩ := cell?_setCell_some (w := w) (p := p) (x := u) (q := q) h
  exact rd_some hv
def SB (w : World) (bm bi ba bz bo : Nat) (wm di ia ib a0 a1 z0 z1 : Int) (W : World) : Prop :=
  Kept w W ∧
  W.cell? ⟨bm, 0, none⟩ = some (.int .i64 wm) ∧
  W.cell? ⟨bm, 1, none⟩ = some (.int .i64 di) ∧
  W.cell? ⟨bi, 0, none⟩ = some (.int .i64 ia) ∧
  W.cell? ⟨bi, 1, none⟩ = some (.int .i64 ib) ∧
  W.cell? ⟨ba, 0, none⟩ = some (.int .i64 a0) ∧
  W.cell? ⟨ba, 1, none⟩ = some (.int .i64 a1) ∧
  W.cell? ⟨bz, 0, none⟩ = some (.int .i64 z0) ∧
  W.cell? ⟨bz, 1, none⟩ = some (.int .i64 z1) ∧
  bm < W.heap.size ∧
  bi < W.heap.size ∧
  ba < W.heap.size ∧
  bz < W.heap.size ∧
  bo < W.heap.size ∧
  W.cell? ⟨bo, 0, none⟩ = some (rd W ⟨bo, 0, none⟩) ∧
  W.cell? ⟨bo, 1, none⟩ = some (rd W ⟨bo, 1, none⟩) ∧
  W.cell? ⟨bo, 2, none⟩ = some (rd W ⟨bo, 2, none⟩) ∧
  W.cell? ⟨bo, 3, none⟩ = some (rd W ⟨bo, 3, none⟩) ∧
  W.frozen? ⟨bo, 0, none⟩ = false ∧
  W.frozen? ⟨bo, 1, none⟩ = false ∧
  W.frozen? ⟨bo, 2, none⟩ = false ∧
  W.frozen? ⟨bo, 3, none⟩ = false
theorem SB.call {w : World} {bm bi ba bz bo : Nat} {wm di ia ib a0 a1 z0 z1 : Int} {W w1 : World} (hh : SB w bm bi ba bz bo wm di ia ib a0 a1 z0 z1 W) (hn : Kept W w1) : SB w bm bi ba bz bo wm di ia ib a0 a1 z0 z1 w1 := by
  obtain ⟨k, cm0, cm1, ci0, ci1, ca0, ca1, cz0, cz1, lm, li, la, lz, lo, o0, o1, o2, o3, f0, f1, f2, f3⟩ := hh
  exact ⟨k.trans hn, (hn.cell lm).trans cm0, (hn.cell lm).trans cm1, (hn.cell li).trans ci0, (hn.cell li).trans ci1, (hn.cell la).trans ca0, (hn.cell la).trans ca1, (hn.cell lz).trans cz0, (hn.cell lz).trans cz1, Nat.lt_of_lt_of_le lm hn.size, Nat.lt_of_lt_of_le li hn.size, Nat.lt_of_lt_of_le la hn.size, Nat.lt_of_lt_of_le lz hn.size, Nat.lt_of_lt_of_le lo hn.size, rd_some ((hn.cell lo).trans o0), rd_some ((hn.cell lo).trans o1), rd_some ((hn.cell lo).trans o2), rd_some ((hn.cell lo).trans o3), (hn.below.frozen (p := ⟨bo, 0, none⟩) lo).trans f0, (hn.below.frozen (p := ⟨bo, 1, none⟩) lo).trans f1, (hn.below.frozen (p := ⟨bo, 2, none⟩) lo).trans f2, (hn.below.frozen (p := ⟨bo, 3, none⟩) lo).trans f3⟩
theorem SB.set {w : World} {bm bi ba bz bo : Nat} {wm di ia ib a0 a1 z0 z1 : Int} {W : World} (hh : SB w bm bi ba bz bo wm di ia ib a0 a1 z0 z1 W) (hb : w.heap.size ≤ bo) (hm : bm ≠ bo) (hi : bi ≠ bo) (ha : ba ≠ bo) (hz : bz ≠ bo) (j : Nat) (v : Value) :
    SB w bm bi ba bz bo wm di ia ib a0 a1 z0 z1 (W.setCell ⟨bo, j, none⟩ v) := by
  obtain ⟨k, cm0, cm1, ci0, ci1, ca0, ca1, cz0, cz1, lm, li, la, lz, lo, o0, o1, o2, o3, f0, f1, f2, f3⟩ := hh
  exact ⟨k.set hb _, (World.cell?_setCell_other _ _ _ _ (by intro e; injection e; omega)).trans cm0, (World.cell?_setCell_other _ _ _ _ (by intro e; injection e; omega)).trans cm1, (World.cell?_setCell_other _ _ _ _ (by intro e; injection e; omega)).trans ci0, (World.cell?_setCell_other _ _ _ _ (by intro e; injection e; omega)).trans ci1, (World.cell?_setCell_other _ _ _ _ (by intro e; injection e; omega)).trans ca0, (World.cell?_setCell_other _ _ _ _ (by intro e; injection e; omega)).trans ca1, (World.cell?_setCell_other _ _ _ _ (by intro e; injection e; omega)).trans cz0, (World.cell?_setCell_other _ _ _ _ (by intro e; injection e; omega)).trans cz1, by simpa using lm, by simpa using li, by simpa using la, by simpa using lz, by simpa using lo, set_some o0, set_some o1, set_some o2, set_some o3, by rw [World.frozen?_setCell]; exact f0, by rw [World.frozen?_setCell]; exact f1, by rw [World.frozen?_setCell]; exact f2, by rw [World.frozen?_setCell]; exact f3⟩
theorem SB.of {w : World} {bm bi ba bz bo tm ti ta tz to : Nat} {wm di ia ib a0 a1 z0 z1 : Int} {W : World} {c0 c1 c2 c3 : Value} (k : Kept w W) (m : Own W bm tm #[.int .i64 wm, .int .i64 di]) (i : Own W bi ti #[.int .i64 ia, .int .i64 ib]) (a : Own W ba ta #[.int .i64 a0, .int .i64 a1]) (z : Own W bz tz #[.int .i64 z0, .int .i64 z1]) (o : Own W bo to #[c0, c1, c2, c3]) :
    SB w bm bi ba bz bo wm di ia ib a0 a1 z0 z1 W :=
  ⟨k, m.at 0 _ rfl, m.at 1 _ rfl, i.at 0 _ rfl, i.at 1 _ rfl, a.at 0 _ rfl, a.at 1 _ rfl, z.at 0 _ rfl, z.at 1 _ rfl, m.lt, i.lt, a.lt, z.lt, o.lt, rd_some (o.at 0 _ rfl), rd_some (o.at 1 _ rfl), rd_some (o.at 2 _ rfl), rd_some (o.at 3 _ rfl), o.free 0, o.free 1, o.free 2, o.free 3⟩
end Go.Proofs.YtbjkphelkfeliaaDoor
