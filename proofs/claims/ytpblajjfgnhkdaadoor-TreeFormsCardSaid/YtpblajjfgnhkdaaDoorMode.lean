/- Layer 2: modes. -/
import Derived.Test.YtpblajjfgnhkdaaDoorEach
namespace Go.Proofs.YtpblajjfgnhkdaaDoor
open Go.RowKit
/-- the two tables of package mode, as the program lays them -/
structure Tab (w : World) : Prop where
  size : 2 ≤ w.heap.size ∧ 1 < w.heap.size ∧ 2 < w.heap.size
  r0 : w.cell? ⟨1, 0, none⟩ = some (.int .i64 1)
  r1 : w.cell? ⟨1, 1, none⟩ = some (.int .i64 0)
  r2 : w.cell? ⟨1, 2, none⟩ = some (.int .i64 2)
  r3 : w.cell? ⟨1, 3, none⟩ = some (.int .i64 3)
  e0 : w.cell? ⟨2, 0, none⟩ = some (.int .i64 3)
  e1 : w.cell? ⟨2, 1, none⟩ = some (.int .i64 1)
  e2 : w.cell? ⟨2, 2, none⟩ = some (.int .i64 0)
  e3 : w.cell? ⟨2, 3, none⟩ = some (.int .i64 2)
  e4 : w.cell? ⟨2, 4, none⟩ = some (.int .i64 0)
  e5 : w.cell? ⟨2, 5, none⟩ = some (.int .i64 2)
  e6 : w.cell? ⟨2, 6, none⟩ = some (.int .i64 1)
  e7 : w.cell? ⟨2, 7, none⟩ = some (.int .i64 3)
  e8 : w.cell? ⟨2, 8, none⟩ = some (.int .i64 0)
  e9 : w.cell? ⟨2, 9, none⟩ = some (.int .i64 2)
  e10 : w.cell? ⟨2, 10, none⟩ = some (.int .i64 3)
  e11 : w.cell? ⟨2, 11, none⟩ = some (.int .i64 1)
theorem Tab.kept {w w' : World} (h : Tab w) (k : Kept w w') : Tab w' := by
  have hs := h.size
  have hz := k.size
  exact ⟨by omega, (k.cell (by simp; omega)).trans h.r0, (k.cell (by simp; omega)).trans h.r1, (k.cell (by simp; omega)).trans h.r2, (k.cell (by simp; omega)).trans h.r3, (k.cell (by simp; omega)).trans h.e0, (k.cell (by simp; omega)).trans h.e1, (k.cell (by simp; omega)).trans h.e2, (k.cell (by simp; omega)).trans h.e3, (k.cell (by simp; omega)).trans h.e4, (k.cell (by simp; omega)).trans h.e5, (k.cell (by simp; omega)).trans h.e6, (k.cell (by simp; omega)).trans h.e7, (k.cell (by simp; omega)).trans h.e8, (k.cell (by simp; omega)).trans h.e9, (k.cell (by simp; omega)).trans h.e10, (k.cell (by simp; omega)).trans h.e11⟩
def modeMayB (wr di : Int) : Bool := inB 0 2 wr && inB 0 1 di
theorem modeMayB_true {wr di : Int} : modeMayB wr di = true ↔ (0 ≤ wr ∧ wr ≤ 2) ∧ 0 ≤ di ∧ di ≤ 1 := by unfold modeMayB; rw [Bool.and_eq_true, inB_true, inB_true]
abbrev modeV (wr di : Int) : Value := .agg #[.int .i64 wr, .int .i64 di]
theorem modeMay_any (wr di : Int) (w : World) :
    Calls Tryd.prog 39 #[modeV wr di] w fun e w' => e = .returned (.bool (modeMayB wr di)) ∧ Kept w w' := by
  cases h : inB 0 2 wr
  · have hs : modeMayB wr di = false := by unfold modeMayB; rw [h]; rfl
    have Hs := Lib.hid hs
    clear hs
    have hk : Kept w w := Kept.refl w
    go_enter Tryd.func39, Tryd.ntmps39
    go_wp2_with (first
      | (go_at_call 29; refine (each1_any _ _ _ _ _ (cell_at _ _ _ _ _ _ (by simp) rfl)).mono ?_; rintro e w1 ⟨rfl, rfl⟩)
      | fail)
    go_ret
    exact ⟨ret_bool Hs.out.symm, (by first | ((repeat (first | with_reducible exact hk | with_reducible refine Kept.alloc ?_ _ | with_reducible refine Kept.drew ?_ | with_reducible refine Kept.drewN ?_ _ | with_reducible refine Kept.set ?_ (by first | (simp; done) | (simp; omega) | omega) _)); done) | exact hk | exact (hk.alloc _) | exact ((hk.alloc _).alloc _) | exact (((hk.alloc _).alloc _).alloc _) | exact ((((hk.alloc _).alloc _).alloc _).alloc _) | exact (((((hk.alloc _).alloc _).alloc _).alloc _).alloc _) | exact ((((((hk.alloc _).alloc _).alloc _).alloc _).alloc _).alloc _) | (repeat (first | exact hk | refine Kept.alloc ?_ _ | refine Kept.drew ?_ | refine Kept.drewN ?_ _ | refine Kept.set ?_ (by first | (simp; done) | (simp; omega) | omega) _)))⟩
  · have hs : modeMayB wr di = inB 0 1 di := by unfold modeMayB; rw [h]; rfl
    have Hs := Lib.hid hs
    clear hs
    have hk : Kept w w := Kept.refl w
    go_enter Tryd.func39, Tryd.ntmps39
    go_wp2_with (first
      | (go_at_call 29; refine (each1_any _ _ _ _ _ (cell_at _ _ _ _ _ _ (by simp) rfl)).mono ?_; rintro e w1 ⟨rfl, rfl⟩)
      | fail)
    go_ret
    exact ⟨ret_bool Hs.out.symm, (by first | ((repeat (first | with_reducible exact hk | with_reducible refine Kept.alloc ?_ _ | with_reducible refine Kept.drew ?_ | with_reducible refine Kept.drewN ?_ _ | with_reducible refine Kept.set ?_ (by first | (simp; done) | (simp; omega) | omega) _)); done) | exact hk | exact (hk.alloc _) | exact ((hk.alloc _).alloc _) | exact (((hk.alloc _).alloc _).alloc _) | exact ((((hk.alloc _).alloc _).alloc _).alloc _) | exact (((((hk.alloc _).alloc _).alloc _).alloc _).alloc _) | exact ((((((hk.alloc _).alloc _).alloc _).alloc _).alloc _).alloc _) | (repeat (first | exact hk | refine Kept.alloc ?_ _ | refine Kept.drew ?_ | refine Kept.drewN ?_ _ | refine Kept.set ?_ (by first | (simp; done) | (simp; omega) | omega) _)))⟩
def vertB (wr di : Int) : Bool := modeMayB wr di && wr != 0
theorem modeVertical_any (wr di : Int) (w : World) :
    Calls Tryd.prog 84 #[modeV wr di] w fun e w' => e = .returned (.bool (vertB wr di)) ∧ Kept w w' := by
  cases h : modeMayB wr di
  all_goals
    have hs : vertB wr di = (modeMayB wr di && wr != 0) := rfl
    rw [h] at hs
    have Hs := Lib.hid hs
    clear hs
    have hk : Kept w w := Kept.refl w
    go_enter Tryd.func84, Tryd.ntmps84
    go_wp2_with (go_at_call 39; refine (modeMay_any _ _ _).mono ?_; rintro e w1 ⟨rfl, hn⟩; have hcell := hn.cell (p := ⟨w.heap.size, 0, none⟩) (by simp); replace hk := Kept.trans (by first | exact hk | exact hk.alloc _ | exact (hk.alloc _).alloc _) hn)
    go_ret
    exact ⟨ret_bool (by rw [Hs.out]; rfl), (by first | ((repeat (first | with_reducible exact hk | with_reducible refine Kept.alloc ?_ _ | with_reducible refine Kept.drew ?_ | with_reducible refine Kept.drewN ?_ _ | with_reducible refine Kept.set ?_ (by first | (simp; done) | (simp; omega) | omega) _)); done) | exact hk | exact (hk.alloc _) | exact ((hk.alloc _).alloc _) | exact (((hk.alloc _).alloc _).alloc _) | exact ((((hk.alloc _).alloc _).alloc _).alloc _) | exact (((((hk.alloc _).alloc _).alloc _).alloc _).alloc _) | exact ((((((hk.alloc _).alloc _).alloc _).alloc _).alloc _).alloc _) | (repeat (first | exact hk | refine Kept.alloc ?_ _ | refine Kept.drew ?_ | refine Kept.drewN ?_ _ | refine Kept.set ?_ (by first | (simp; done) | (simp; omega) | omega) _)))⟩
/-- the side that is meant where lines run from right to left -/
def rtlS (side : Int) : Int := if side = 0 then 1 else if side = 1 then 0 else side
def edgeT (wr side : Int) : Int :=
  if wr = 0 then (if side = 0 then 3 else if side = 1 then 1 else if side = 2 then 0 else 2)
  else if wr = 1 then (if side = 0 then 0 else if side = 1 then 2 else if side = 2 then 1 else 3)
  else (if side = 0 then 0 else if side = 1 then 2 else if side = 2 then 3 else 1)
def edgeS (wr di side : Int) : Int × Int := if modeMayB wr di = true ∧ inB 0 3 side = true then (edgeT wr (if di = 1 then rtlS side else side), 0) else (0, 200)
set_option maxHeartbeats 8000000 in
theorem modeEdge_any (wr di side : Int) (w : World) (ht : Tab w) :
    Calls Tryd.prog 98 #[modeV wr di, .int .i64 side] w fun e w' => e = .returned (.tuple #[.int .i64 (edgeS wr di side).1, .int .i64 (edgeS wr di side).2]) ∧ Kept w w' := by
  cases h1 : modeMayB wr di <;> cases h2 : inB 0 3 side
  case true.true =>
    obtain ⟨⟨a1, a2⟩, b1, b2⟩ := modeMayB_true.1 h1
    obtain ⟨c1, c2⟩ := inB_true.1 h2
    rcases (by omega : wr = 0 ∨ wr = 1 ∨ wr = 2) with rfl | rfl | rfl <;> rcases (by omega : di = 0 ∨ di = 1) with rfl | rfl <;> rcases (by omega : side = 0 ∨ side = 1 ∨ side = 2 ∨ side = 3) with rfl | rfl | rfl | rfl
    all_goals
      clear a1 a2 b1 b2 c1 c2
      have hk : Kept w w := Kept.refl w
      go_enter Tryd.func98, Tryd.ntmps98
      go_wp2_with fail
      refine (modeMay_any _ _ _).mono ?_
      rintro e w1 ⟨rfl, hn⟩
      have hcell := hn.cell (p := ⟨w.heap.size, 0, none⟩) (by simp)
      have hcell1 := hn.cell (p := ⟨w.heap.size, 1, none⟩) (by simp)
      have hz : w.heap.size < w1.heap.size := by have := hn.size; simp at this; omega
      replace hk := Kept.trans (by first | ((repeat (first | with_reducible exact hk | with_reducible refine Kept.alloc ?_ _ | with_reducible refine Kept.drew ?_ | with_reducible refine Kept.drewN ?_ _ | with_reducible refine Kept.set ?_ (by first | (simp; done) | (simp; omega) | omega) _)); done) | exact hk | exact (hk.alloc _) | exact ((hk.alloc _).alloc _) | exact (((hk.alloc _).alloc _).alloc _) | exact ((((hk.alloc _).alloc _).alloc _).alloc _) | exact (((((hk.alloc _).alloc _).alloc _).alloc _).alloc _) | exact ((((((hk.alloc _).alloc _).alloc _).alloc _).alloc _).alloc _)) hn
      obtain ⟨t0, r0, r1, r2, r3, e0, e1, e2, e3, e4, e5, e6, e7, e8, e9, e10, e11⟩ := ht.kept hk
      have t1 : 1 < w1.heap.size := by omega
      have t2 : 0 < w1.heap.size := by omega
      have t3 := t0.2.1
      have t4 := t0.2.2
      clear ht hn t0
      go_wp2_with (first
        | (go_at_call 29; refine (each1_any _ _ _ _ _ (cell_at _ _ _ _ _ _ (by simp) rfl)).mono ?_; rintro e w1 ⟨rfl, rfl⟩)
        | fail)
      go_ret2
      exact ⟨rfl, (by first | ((repeat (first | with_reducible exact hk | with_reducible refine Kept.alloc ?_ _ | with_reducible refine Kept.drew ?_ | with_reducible refine Kept.drewN ?_ _ | with_reducible refine Kept.set ?_ (by first | (simp; done) | (simp; omega) | omega) _)); done) | exact hk | exact (hk.alloc _) | exact ((hk.alloc _).alloc _) | exact (((hk.alloc _).alloc _).alloc _) | exact ((((hk.alloc _).alloc _).alloc _).alloc _) | exact (((((hk.alloc _).alloc _).alloc _).alloc _).alloc _) | exact ((((((hk.alloc _).alloc _).alloc _).alloc _).alloc _).alloc _) | (repeat (first | exact hk | refine Kept.alloc ?_ _ | refine Kept.drew ?_ | refine Kept.drewN ?_ _ | refine Kept.set ?_ (by first | (simp; done) | (simp; omega) | omega) _)))⟩
  all_goals
    have hs : edgeS wr di side = (0, 200) := if_neg (by simp [h1, h2])
    have Hs := Lib.hid hs
    clear hs ht
    have hk : Kept w w := Kept.refl w
    go_enter Tryd.func98, Tryd.ntmps98
    go_wp2_with (first
      | (go_at_call 39; refine (modeMay_any _ _ _).mono ?_; rintro e w1 ⟨rfl, hn⟩; replace hk := Kept.trans (by first | ((repeat (first | with_reducible exact hk | with_reducible refine Kept.alloc ?_ _ | with_reducible refine Kept.drew ?_ | with_reducible refine Kept.drewN ?_ _ | with_reducible refine Kept.set ?_ (by first | (simp; done) | (simp; omega) | omega) _)); done) | exact hk | exact (hk.alloc _) | exact ((hk.alloc _).alloc _) | exact (((hk.alloc _).alloc _).alloc _) | exact ((((hk.alloc _).alloc _).alloc _).alloc _) | exact (((((hk.alloc _).alloc _).alloc _).alloc _).alloc _) | exact ((((((hk.alloc _).alloc _).alloc _).alloc _).alloc _).alloc _)) hn)
      | (go_at_call 29; refine (each1_any _ _ _ _ _ (cell_at _ _ _ _ _ _ (by simp) rfl)).mono ?_; rintro e w1 ⟨rfl, rfl⟩)
      | fail)
    go_ret2
    exact ⟨by rw [Hs.out]; rfl, (by first | ((repeat (first | with_reducible exact hk | with_reducible refine Kept.alloc ?_ _ | with_reducible refine Kept.drew ?_ | with_reducible refine Kept.drewN ?_ _ | with_reducible refine Kept.set ?_ (by first | (simp; done) | (simp; omega) | omega) _)); done) | exact hk | exact (hk.alloc _) | exact ((hk.alloc _).alloc _) | exact (((hk.alloc _).alloc _).alloc _) | exact ((((hk.alloc _).alloc _).alloc _).alloc _) | exact (((((hk.alloc _).alloc _).alloc _).alloc _).alloc _) | exact ((((((hk.alloc _).alloc _).alloc _).alloc _).alloc _).alloc _) | (repeat (first | exact hk | refine Kept.alloc ?_ _ | refine Kept.drew ?_ | refine Kept.drewN ?_ _ | refine Kept.set ?_ (by first | (simp; done) | (simp; omega) | omega) _)))⟩
end Go.Proofs.YtpblajjfgnhkdaaDoor
