/- Layer 14: Law14Table. -/
import Derived.Test.YtpkphohgnelajaaSpan14
import Derived.Test.YtpkphohgnelajaaMask
import Derived.Deep.CutRange
namespace Go.Proofs.Ytpkphohgnelajaa
open Go.RowKit
set_option linter.unusedSimpArgs false
set_option linter.unusedVariables false
set_option maxHeartbeats 8000000
set_option maxRecDepth 20000
def tabE0 (a b : Int) : Sty := ⟨⟨1, 300⟩, ⟨0, 0⟩, ⟨1, 0⟩, ⟨0, 0⟩, ⟨1, a⟩, ⟨1, b⟩, ⟨1, 0⟩, ⟨1, 0⟩, ⟨1, 3⟩, ⟨1, 4⟩, ⟨1, 0⟩, ⟨1, 0⟩, ⟨0, 0⟩, 0, 1, 0, 0, 0, false⟩
def tabE1 (a b : Int) : Sty := ⟨⟨1, 300⟩, ⟨0, 0⟩, ⟨1, 0⟩, ⟨0, 0⟩, ⟨0, 0⟩, ⟨1, b⟩, ⟨1, 0⟩, ⟨1, 0⟩, ⟨1, 3⟩, ⟨1, 4⟩, ⟨1, 0⟩, ⟨1, 0⟩, ⟨0, 0⟩, 0, 1, 0, 0, 0, false⟩
def tabE2 (a b : Int) : Sty := ⟨⟨1, 300⟩, ⟨0, 0⟩, ⟨1, 0⟩, ⟨0, 0⟩, ⟨1, a⟩, ⟨0, 0⟩, ⟨1, 0⟩, ⟨1, 0⟩, ⟨1, 3⟩, ⟨1, 4⟩, ⟨1, 0⟩, ⟨1, 0⟩, ⟨0, 0⟩, 0, 1, 0, 0, 0, false⟩
def tabE3 (a b : Int) : Sty := ⟨⟨1, 300⟩, ⟨0, 0⟩, ⟨1, 0⟩, ⟨0, 0⟩, ⟨0, 0⟩, ⟨0, 0⟩, ⟨1, 0⟩, ⟨1, 0⟩, ⟨1, 3⟩, ⟨1, 4⟩, ⟨1, 0⟩, ⟨1, 0⟩, ⟨0, 0⟩, 0, 1, 0, 0, 0, false⟩
def tabE4 (a b : Int) : Sty := ⟨⟨0, 0⟩, ⟨0, 0⟩, ⟨1, 0⟩, ⟨0, 0⟩, ⟨1, a⟩, ⟨1, b⟩, ⟨1, 0⟩, ⟨1, 0⟩, ⟨1, 3⟩, ⟨1, 4⟩, ⟨1, 0⟩, ⟨1, 0⟩, ⟨0, 0⟩, 0, 1, 0, 0, 0, false⟩
def tabE5 (a b : Int) : Sty := ⟨⟨2, 50⟩, ⟨0, 0⟩, ⟨1, 0⟩, ⟨0, 0⟩, ⟨1, a⟩, ⟨1, b⟩, ⟨1, 0⟩, ⟨1, 0⟩, ⟨1, 3⟩, ⟨1, 4⟩, ⟨1, 0⟩, ⟨1, 0⟩, ⟨0, 0⟩, 0, 1, 0, 0, 0, false⟩
theorem tab_eq0 {a b : Int} (a0 : 0 ≤ a) (a1 : a ≤ 63) (b0 : 0 ≤ b) (b1 : b ≤ 63) : eqS (tabE0 a b) 1000 = ((a, 300, 693 - a), 0) := by
  have ea : lenB 1 a = true := inB_true.2 (by omega)
  have eb : lenB 1 b = true := inB_true.2 (by omega)
  have p0 : okM ⟨1, a⟩ ⟨1, 3⟩ = true := by unfold okM; simp [ea]; decide
  have p1 : okM ⟨1, b⟩ ⟨1, 4⟩ = true := by unfold okM; simp [eb]; decide
  have hm : mayS (tabE0 a b) = true := by
    rw [← ref_may]
    unfold refS tabE0
    simp only [p0, p1]
    rfl
  have al : alongS (tabE0 a b) = 7 + a + b := by
    have m0 := (mar_bd p0).1
    have m1 := (mar_bd p1).1
    have e : alongS (tabE0 a b) = 3 + 4 + marS ⟨1, a⟩ + marS ⟨1, b⟩ := rfl
    rw [e]
    simp only [m0, m1]
    show 3 + 4 + (a : Int) + b = _
    omega
  have q1 : usedS 1 300 1000 (1000 - (7 + a + b)) = (300, 0) := used_px (by decide) (by decide) (mayB_true.2 (by omega))
  have q2 : usedS 1 0 1000 0 = (0, 0) := used_px (by decide) (by decide) (by decide)
  have q3 : usedS 0 0 1000 1073741824 = (1073741824, 0) := used_auto (by decide) (by decide) (by decide)
  have hz : sizeS (tabE0 a b) 1000 = 300 := by
    have e : sizeS (tabE0 a b) 1000 = max 0 (max (usedS 1 0 1000 0).1 (min (usedS 1 300 1000 (1000 - alongS (tabE0 a b))).1 (usedS 0 0 1000 1073741824).1)) := rfl
    rw [e, al, q1, q2, q3]
    show max 0 (max 0 (min (300) 1073741824)) = _
    omega
  have hl : leftS (tabE0 a b) 1000 = 1000 - (300) - (7 + a + b) := by unfold leftS; rw [hz, al]
  have he : eqS (tabE0 a b) 1000 = (spanS (tabE0 a b) 1000, 0) := if_pos ⟨hm, by decide⟩
  rw [he]
  unfold spanS
  have m0 : marS (tabE0 a b).m0 = a := (mar_bd p0).1
  have m1 : marS (tabE0 a b).m1 = b := (mar_bd p1).1
  rw [if_neg (fun h => absurd (show (1 : Int) = 0 from h.1) (by decide)), if_neg (show ¬ (tabE0 a b).m0.k = 0 from fun h => absurd (show (1 : Int) = 0 from h) (by decide)), hl, hz, m0, m1]
  congr 3; omega
theorem tab_eq1 {a b : Int} (a0 : 0 ≤ a) (a1 : a ≤ 63) (b0 : 0 ≤ b) (b1 : b ≤ 63) : eqS (tabE1 a b) 1000 = ((693 - b, 300, b), 0) := by
  have ea : lenB 1 a = true := inB_true.2 (by omega)
  have eb : lenB 1 b = true := inB_true.2 (by omega)
  have p0 : okM ⟨0, 0⟩ ⟨1, 3⟩ = true := by unfold okM; simp [show lenB 0 0 = true from by decide]; decide
  have p1 : okM ⟨1, b⟩ ⟨1, 4⟩ = true := by unfold okM; simp [eb]; decide
  have hm : mayS (tabE1 a b) = true := by
    rw [← ref_may]
    unfold refS tabE1
    simp only [p0, p1]
    rfl
  have al : alongS (tabE1 a b) = 7 + 0 + b := by
    have m0 := (mar_bd p0).1
    have m1 := (mar_bd p1).1
    have e : alongS (tabE1 a b) = 3 + 4 + marS ⟨0, 0⟩ + marS ⟨1, b⟩ := rfl
    rw [e]
    simp only [m0, m1]
    show 3 + 4 + (0 : Int) + b = _
    omega
  have q1 : usedS 1 300 1000 (1000 - (7 + 0 + b)) = (300, 0) := used_px (by decide) (by decide) (mayB_true.2 (by omega))
  have q2 : usedS 1 0 1000 0 = (0, 0) := used_px (by decide) (by decide) (by decide)
  have q3 : usedS 0 0 1000 1073741824 = (1073741824, 0) := used_auto (by decide) (by decide) (by decide)
  have hz : sizeS (tabE1 a b) 1000 = 300 := by
    have e : sizeS (tabE1 a b) 1000 = max 0 (max (usedS 1 0 1000 0).1 (min (usedS 1 300 1000 (1000 - alongS (tabE1 a b))).1 (usedS 0 0 1000 1073741824).1)) := rfl
    rw [e, al, q1, q2, q3]
    show max 0 (max 0 (min (300) 1073741824)) = _
    omega
  have hl : leftS (tabE1 a b) 1000 = 1000 - (300) - (7 + 0 + b) := by unfold leftS; rw [hz, al]
  have he : eqS (tabE1 a b) 1000 = (spanS (tabE1 a b) 1000, 0) := if_pos ⟨hm, by decide⟩
  rw [he]
  unfold spanS
  have m0 : marS (tabE1 a b).m0 = 0 := (mar_bd p0).1
  have m1 : marS (tabE1 a b).m1 = b := (mar_bd p1).1
  rw [if_neg (fun h => absurd (show (1 : Int) = 0 from h.2) (by decide)), if_pos (show (tabE1 a b).m0.k = 0 from rfl), hl, hz, m1]
  congr 2; omega
theorem tab_eq2 {a b : Int} (a0 : 0 ≤ a) (a1 : a ≤ 63) (b0 : 0 ≤ b) (b1 : b ≤ 63) : eqS (tabE2 a b) 1000 = ((a, 300, 693 - a), 0) := by
  have ea : lenB 1 a = true := inB_true.2 (by omega)
  have eb : lenB 1 b = true := inB_true.2 (by omega)
  have p0 : okM ⟨1, a⟩ ⟨1, 3⟩ = true := by unfold okM; simp [ea]; decide
  have p1 : okM ⟨0, 0⟩ ⟨1, 4⟩ = true := by unfold okM; simp [show lenB 0 0 = true from by decide]; decide
  have hm : mayS (tabE2 a b) = true := by
    rw [← ref_may]
    unfold refS tabE2
    simp only [p0, p1]
    rfl
  have al : alongS (tabE2 a b) = 7 + a + 0 := by
    have m0 := (mar_bd p0).1
    have m1 := (mar_bd p1).1
    have e : alongS (tabE2 a b) = 3 + 4 + marS ⟨1, a⟩ + marS ⟨0, 0⟩ := rfl
    rw [e]
    simp only [m0, m1]
    show 3 + 4 + (a : Int) + 0 = _
    omega
  have q1 : usedS 1 300 1000 (1000 - (7 + a + 0)) = (300, 0) := used_px (by decide) (by decide) (mayB_true.2 (by omega))
  have q2 : usedS 1 0 1000 0 = (0, 0) := used_px (by decide) (by decide) (by decide)
  have q3 : usedS 0 0 1000 1073741824 = (1073741824, 0) := used_auto (by decide) (by decide) (by decide)
  have hz : sizeS (tabE2 a b) 1000 = 300 := by
    have e : sizeS (tabE2 a b) 1000 = max 0 (max (usedS 1 0 1000 0).1 (min (usedS 1 300 1000 (1000 - alongS (tabE2 a b))).1 (usedS 0 0 1000 1073741824).1)) := rfl
    rw [e, al, q1, q2, q3]
    show max 0 (max 0 (min (300) 1073741824)) = _
    omega
  have hl : leftS (tabE2 a b) 1000 = 1000 - (300) - (7 + a + 0) := by unfold leftS; rw [hz, al]
  have he : eqS (tabE2 a b) 1000 = (spanS (tabE2 a b) 1000, 0) := if_pos ⟨hm, by decide⟩
  rw [he]
  unfold spanS
  have m0 : marS (tabE2 a b).m0 = a := (mar_bd p0).1
  have m1 : marS (tabE2 a b).m1 = 0 := (mar_bd p1).1
  rw [if_neg (fun h => absurd (show (1 : Int) = 0 from h.1) (by decide)), if_neg (show ¬ (tabE2 a b).m0.k = 0 from fun h => absurd (show (1 : Int) = 0 from h) (by decide)), hl, hz, m0, m1]
  congr 3; omega
theorem tab_eq3 {a b : Int} (a0 : 0 ≤ a) (a1 : a ≤ 63) (b0 : 0 ≤ b) (b1 : b ≤ 63) : eqS (tabE3 a b) 1000 = ((346, 300, 347), 0) := by
  have ea : lenB 1 a = true := inB_true.2 (by omega)
  have eb : lenB 1 b = true := inB_true.2 (by omega)
  have p0 : okM ⟨0, 0⟩ ⟨1, 3⟩ = true := by unfold okM; simp [show lenB 0 0 = true from by decide]; decide
  have p1 : okM ⟨0, 0⟩ ⟨1, 4⟩ = true := by unfold okM; simp [show lenB 0 0 = true from by decide]; decide
  have hm : mayS (tabE3 a b) = true := by
    rw [← ref_may]
    unfold refS tabE3
    simp only [p0, p1]
    rfl
  have al : alongS (tabE3 a b) = 7 + 0 + 0 := by
    have m0 := (mar_bd p0).1
    have m1 := (mar_bd p1).1
    have e : alongS (tabE3 a b) = 3 + 4 + marS ⟨0, 0⟩ + marS ⟨0, 0⟩ := rfl
    rw [e]
    simp only [m0, m1]
    show 3 + 4 + (0 : Int) + 0 = _
    omega
  have q1 : usedS 1 300 1000 (1000 - (7 + 0 + 0)) = (300, 0) := used_px (by decide) (by decide) (mayB_true.2 (by omega))
  have q2 : usedS 1 0 1000 0 = (0, 0) := used_px (by decide) (by decide) (by decide)
  have q3 : usedS 0 0 1000 1073741824 = (1073741824, 0) := used_auto (by decide) (by decide) (by decide)
  have hz : sizeS (tabE3 a b) 1000 = 300 := by
    have e : sizeS (tabE3 a b) 1000 = max 0 (max (usedS 1 0 1000 0).1 (min (usedS 1 300 1000 (1000 - alongS (tabE3 a b))).1 (usedS 0 0 1000 1073741824).1)) := rfl
    rw [e, al, q1, q2, q3]
    show max 0 (max 0 (min (300) 1073741824)) = _
    omega
  have hl : leftS (tabE3 a b) 1000 = 1000 - (300) - (7 + 0 + 0) := by unfold leftS; rw [hz, al]
  have he : eqS (tabE3 a b) 1000 = (spanS (tabE3 a b) 1000, 0) := if_pos ⟨hm, by decide⟩
  rw [he]
  unfold spanS
  have m0 : marS (tabE3 a b).m0 = 0 := (mar_bd p0).1
  have m1 : marS (tabE3 a b).m1 = 0 := (mar_bd p1).1
  rw [if_pos ⟨rfl, rfl⟩, hl, hz]
  congr 2
theorem tab_eq4 {a b : Int} (a0 : 0 ≤ a) (a1 : a ≤ 63) (b0 : 0 ≤ b) (b1 : b ≤ 63) : eqS (tabE4 a b) 1000 = ((a, 993 - a - b, b), 0) := by
  have ea : lenB 1 a = true := inB_true.2 (by omega)
  have eb : lenB 1 b = true := inB_true.2 (by omega)
  have p0 : okM ⟨1, a⟩ ⟨1, 3⟩ = true := by unfold okM; simp [ea]; decide
  have p1 : okM ⟨1, b⟩ ⟨1, 4⟩ = true := by unfold okM; simp [eb]; decide
  have hm : mayS (tabE4 a b) = true := by
    rw [← ref_may]
    unfold refS tabE4
    simp only [p0, p1]
    rfl
  have al : alongS (tabE4 a b) = 7 + a + b := by
    have m0 := (mar_bd p0).1
    have m1 := (mar_bd p1).1
    have e : alongS (tabE4 a b) = 3 + 4 + marS ⟨1, a⟩ + marS ⟨1, b⟩ := rfl
    rw [e]
    simp only [m0, m1]
    show 3 + 4 + (a : Int) + b = _
    omega
  have q1 : usedS 0 0 1000 (1000 - (7 + a + b)) = (1000 - (7 + a + b), 0) := used_auto (by decide) (by decide) (mayB_true.2 (by omega))
  have q2 : usedS 1 0 1000 0 = (0, 0) := used_px (by decide) (by decide) (by decide)
  have q3 : usedS 0 0 1000 1073741824 = (1073741824, 0) := used_auto (by decide) (by decide) (by decide)
  have hz : sizeS (tabE4 a b) 1000 = 993 - a - b := by
    have e : sizeS (tabE4 a b) 1000 = max 0 (max (usedS 1 0 1000 0).1 (min (usedS 0 0 1000 (1000 - alongS (tabE4 a b))).1 (usedS 0 0 1000 1073741824).1)) := rfl
    rw [e, al, q1, q2, q3]
    show max 0 (max 0 (min (1000 - (7 + a + b)) 1073741824)) = _
    omega
  have hl : leftS (tabE4 a b) 1000 = 1000 - (993 - a - b) - (7 + a + b) := by unfold leftS; rw [hz, al]
  have he : eqS (tabE4 a b) 1000 = (spanS (tabE4 a b) 1000, 0) := if_pos ⟨hm, by decide⟩
  rw [he]
  unfold spanS
  have m0 : marS (tabE4 a b).m0 = a := (mar_bd p0).1
  have m1 : marS (tabE4 a b).m1 = b := (mar_bd p1).1
  rw [if_neg (fun h => absurd (show (1 : Int) = 0 from h.1) (by decide)), if_neg (show ¬ (tabE4 a b).m0.k = 0 from fun h => absurd (show (1 : Int) = 0 from h) (by decide)), hl, hz, m0, m1]
  congr 3; omega
theorem tab_eq5 {a b : Int} (a0 : 0 ≤ a) (a1 : a ≤ 63) (b0 : 0 ≤ b) (b1 : b ≤ 63) : eqS (tabE5 a b) 1000 = ((a, 500, 493 - a), 0) := by
  have ea : lenB 1 a = true := inB_true.2 (by omega)
  have eb : lenB 1 b = true := inB_true.2 (by omega)
  have p0 : okM ⟨1, a⟩ ⟨1, 3⟩ = true := by unfold okM; simp [ea]; decide
  have p1 : okM ⟨1, b⟩ ⟨1, 4⟩ = true := by unfold okM; simp [eb]; decide
  have hm : mayS (tabE5 a b) = true := by
    rw [← ref_may]
    unfold refS tabE5
    simp only [p0, p1]
    rfl
  have al : alongS (tabE5 a b) = 7 + a + b := by
    have m0 := (mar_bd p0).1
    have m1 := (mar_bd p1).1
    have e : alongS (tabE5 a b) = 3 + 4 + marS ⟨1, a⟩ + marS ⟨1, b⟩ := rfl
    rw [e]
    simp only [m0, m1]
    show 3 + 4 + (a : Int) + b = _
    omega
  have q1 : usedS 2 50 1000 (1000 - (7 + a + b)) = (1000 * 50 / 100, 0) := used_pct (by decide) (by decide) (by decide) (by decide) (mayB_true.2 (by omega))
  have q2 : usedS 1 0 1000 0 = (0, 0) := used_px (by decide) (by decide) (by decide)
  have q3 : usedS 0 0 1000 1073741824 = (1073741824, 0) := used_auto (by decide) (by decide) (by decide)
  have hz : sizeS (tabE5 a b) 1000 = 500 := by
    have e : sizeS (tabE5 a b) 1000 = max 0 (max (usedS 1 0 1000 0).1 (min (usedS 2 50 1000 (1000 - alongS (tabE5 a b))).1 (usedS 0 0 1000 1073741824).1)) := rfl
    rw [e, al, q1, q2, q3]
    show max 0 (max 0 (min (1000 * 50 / 100) 1073741824)) = _
    omega
  have hl : leftS (tabE5 a b) 1000 = 1000 - (500) - (7 + a + b) := by unfold leftS; rw [hz, al]
  have he : eqS (tabE5 a b) 1000 = (spanS (tabE5 a b) 1000, 0) := if_pos ⟨hm, by decide⟩
  rw [he]
  unfold spanS
  have m0 : marS (tabE5 a b).m0 = a := (mar_bd p0).1
  have m1 : marS (tabE5 a b).m1 = b := (mar_bd p1).1
  rw [if_neg (fun h => absurd (show (1 : Int) = 0 from h.1) (by decide)), if_neg (show ¬ (tabE5 a b).m0.k = 0 from fun h => absurd (show (1 : Int) = 0 from h) (by decide)), hl, hz, m0, m1]
  congr 3; omega
theorem equationTable_walk (which start fin : Int) (w : World) :
    Calls Try.prog 11 #[.int .i64 which, .int .i64 start, .int .i64 fin] w fun e w' => e = .returned (.bool true) ∧ Kept w w' := by
  obtain ⟨a, ha, a0, a1⟩ := masked start 6 63 rfl (by decide)
  obtain ⟨b, hb, b0, b1⟩ := masked fin 6 63 rfl (by decide)
  obtain ⟨u, hu, u0⟩ : ∃ u, IntKind.u64.wrap which = u ∧ 0 ≤ u := ⟨_, rfl, by rw [IntKind.wrap_u64]; omega⟩
  rcases (by omega : u % 6 = 0 ∨ u % 6 = 1 ∨ u % 6 = 2 ∨ u % 6 = 3 ∨ u % 6 = 4 ∨ u % 6 = 5) with hq | hq | hq | hq | hq | hq
  · have h1 := tab_eq0 a0 a1 b0 b1
    have hq' : u.tmod 6 = 0 := by rw [Int.tmod_eq_emod_of_nonneg u0]; exact hq
    have hk : Kept w w := Kept.refl w
    go_enter Try.func11, Try.ntmps11
    go_wp2_with fail
    refine (awake14_any _).mono ?_
    rintro e w1 ⟨rfl, hn⟩
    replace hk := hk.trans hn
    clear hn
    go_wp2_with fail
    refine (newStyle_lit _).mono ?_
    rintro e w1 ⟨rfl, hn⟩
    replace hk := hk.trans hn
    clear hn
    have tok1 : True := trivial
    go_wp2_with (first | (refine here_store 26 _ _ rfl ?_; refine wpList_store_own rfl 26 _ _ rfl _ _ rfl rfl (Own.new _ _ _) (by rfl) (by kernel_rfl) (by rfl) ?_; intro X s hoX hkX; have hsz := hk.size; replace hk := hkX _ (hk.alloc _) (by first | omega | (simp; omega)); clear hoX hkX; have cs0 := s.at 0 _ rfl; have fs0 := s.free 0; have cs1 := s.at 1 _ rfl; have fs1 := s.free 1; have cs8 := s.at 8 _ rfl; have fs8 := s.free 8; have cs9 := s.at 9 _ rfl; have fs9 := s.free 9; have cs10 := s.at 10 _ rfl; have fs10 := s.free 10; have cs11 := s.at 11 _ rfl; have fs11 := s.free 11; have cs17 := s.at 17 _ rfl; have fs17 := s.free 17; have cs19 := s.at 19 _ rfl; have fs19 := s.free 19) | (refine here_store 43 _ _ rfl ?_; have _t := tok1; refine wpList_store_own rfl 43 _ _ rfl _ _ rfl rfl (Own.at_ _ _ _ (by simp)) (by rfl) (by kernel_rfl) (by rfl) ?_; clear _t tok1; intro X2 wn hoX hkX; have hsz2 := hk.size; have sl := s.lt; replace hk := hkX _ (((((((hk.set (by first | omega | (simp; done) | (simp; omega)) _).set (by first | omega | (simp; done) | (simp; omega)) _).set (by first | omega | (simp; done) | (simp; omega)) _).set (by first | omega | (simp; done) | (simp; omega)) _).set (by first | omega | (simp; done) | (simp; omega)) _).set (by first | omega | (simp; done) | (simp; omega)) _).alloc _) (by first | omega | (simp; omega)); have hoO := fun (b' : Nat) (t' : TypeId) (cs' : Array Value) hne h => Own.same (t := t') (cs := cs') h (hoX b' hne); replace s := (hoO _ _ _ (by first | omega | (simp; omega)) (Own.alloc ((((((s.set 17 _).set 19 _).set 9 _).set 11 _).set 0 _).set 1 _) _)).is (ds := #[.int .i64 1, .int .i64 300, .int .i64 0, .int .i64 0, .int .i64 1, .int .i64 0, .int .i64 0, .int .i64 0, .int .i64 1, .int .i64 a, .int .i64 1, .int .i64 b, .int .i64 1, .int .i64 0, .int .i64 1, .int .i64 0, .int .i64 1, .int .i64 3, .int .i64 1, .int .i64 4, .int .i64 1, .int .i64 0, .int .i64 1, .int .i64 0, .int .i64 0, .int .i64 0, .int .i64 0, .int .i64 1, .int .i64 0, .int .i64 0, .int .i64 0, .bool false]) (by rfl); clear hoO hoX hkX cs0 fs0 cs1 fs1 cs8 fs8 cs9 fs9 cs10 fs10 cs11 fs11 cs17 fs17 cs19 fs19; have cw0 := wn.at 0 _ rfl; have fw0 := wn.free 0; have cw1 := wn.at 1 _ rfl; have fw1 := wn.free 1; have cw2 := wn.at 2 _ rfl; have fw2 := wn.free 2) | (refine here_load 26 _ rfl ?_; refine wpList_load_own rfl 26 _ rfl _ rfl s _ Try.underlying26 rfl (by kernel_rfl) ?_))
    clear cw0 fw0 cw1 fw1 cw2 fw2
    go_wp2_with fail
    refine (eqBlock_any (tabE0 a b) 1000 _).mono ?_
    rintro e w1 ⟨rfl, hn⟩
    replace hk := hk.trans hn
    replace s := s.kept hn
    replace wn := wn.kept hn
    clear hn
    replace wn_l := wn.lt
    replace wn_0 := wn.at 0 _ rfl
    replace wn_1 := wn.at 1 _ rfl
    replace wn_2 := wn.at 2 _ rfl
    clear s
    go_wp2_with fail
    refine with_boxes1 ?_
    intro X hX x
    have hsz := hk.size
    replace hk := hk.trans hX
    replace wn := wn.kept hX
    clear hX
    replace wn_l := wn.lt
    replace wn_0 := wn.at 0 _ rfl
    replace wn_1 := wn.at 1 _ rfl
    replace wn_2 := wn.at 2 _ rfl
    replace x_l := x.lt
    replace x_0 := x.at 0 _ rfl
    replace x_1 := x.at 1 _ rfl
    replace x_2 := x.at 2 _ rfl
    refine (num_any _ _).mono ?_
    rintro e w1 ⟨rfl, rfl⟩
    go_wp2
    go_ret
    exact ⟨rfl, hk⟩
  · have h1 := tab_eq1 a0 a1 b0 b1
    have hq' : u.tmod 6 = 1 := by rw [Int.tmod_eq_emod_of_nonneg u0]; exact hq
    have hk : Kept w w := Kept.refl w
    go_enter Try.func11, Try.ntmps11
    go_wp2_with fail
    refine (awake14_any _).mono ?_
    rintro e w1 ⟨rfl, hn⟩
    replace hk := hk.trans hn
    clear hn
    go_wp2_with fail
    refine (newStyle_lit _).mono ?_
    rintro e w1 ⟨rfl, hn⟩
    replace hk := hk.trans hn
    clear hn
    have tok1 : True := trivial
    go_wp2_with (first | (refine here_store 26 _ _ rfl ?_; refine wpList_store_own rfl 26 _ _ rfl _ _ rfl rfl (Own.new _ _ _) (by rfl) (by kernel_rfl) (by rfl) ?_; intro X s hoX hkX; have hsz := hk.size; replace hk := hkX _ (hk.alloc _) (by first | omega | (simp; omega)); clear hoX hkX; have cs0 := s.at 0 _ rfl; have fs0 := s.free 0; have cs1 := s.at 1 _ rfl; have fs1 := s.free 1; have cs8 := s.at 8 _ rfl; have fs8 := s.free 8; have cs9 := s.at 9 _ rfl; have fs9 := s.free 9; have cs10 := s.at 10 _ rfl; have fs10 := s.free 10; have cs11 := s.at 11 _ rfl; have fs11 := s.free 11; have cs17 := s.at 17 _ rfl; have fs17 := s.free 17; have cs19 := s.at 19 _ rfl; have fs19 := s.free 19) | (refine here_store 43 _ _ rfl ?_; have _t := tok1; refine wpList_store_own rfl 43 _ _ rfl _ _ rfl rfl (Own.at_ _ _ _ (by simp)) (by rfl) (by kernel_rfl) (by rfl) ?_; clear _t tok1; intro X2 wn hoX hkX; have hsz2 := hk.size; have sl := s.lt; replace hk := hkX _ (((((((hk.set (by first | omega | (simp; done) | (simp; omega)) _).set (by first | omega | (simp; done) | (simp; omega)) _).set (by first | omega | (simp; done) | (simp; omega)) _).set (by first | omega | (simp; done) | (simp; omega)) _).set (by first | omega | (simp; done) | (simp; omega)) _).set (by first | omega | (simp; done) | (simp; omega)) _).alloc _) (by first | omega | (simp; omega)); have hoO := fun (b' : Nat) (t' : TypeId) (cs' : Array Value) hne h => Own.same (t := t') (cs := cs') h (hoX b' hne); replace s := (hoO _ _ _ (by first | omega | (simp; omega)) (Own.alloc ((((((s.set 17 _).set 19 _).set 9 _).set 11 _).set 0 _).set 1 _) _)).is (ds := #[.int .i64 1, .int .i64 300, .int .i64 0, .int .i64 0, .int .i64 1, .int .i64 0, .int .i64 0, .int .i64 0, .int .i64 1, .int .i64 a, .int .i64 1, .int .i64 b, .int .i64 1, .int .i64 0, .int .i64 1, .int .i64 0, .int .i64 1, .int .i64 3, .int .i64 1, .int .i64 4, .int .i64 1, .int .i64 0, .int .i64 1, .int .i64 0, .int .i64 0, .int .i64 0, .int .i64 0, .int .i64 1, .int .i64 0, .int .i64 0, .int .i64 0, .bool false]) (by rfl); clear hoO hoX hkX cs0 fs0 cs1 fs1 cs8 fs8 cs9 fs9 cs10 fs10 cs11 fs11 cs17 fs17 cs19 fs19; have cs8 := s.at 8 _ rfl; have fs8 := s.free 8; have cs9 := s.at 9 _ rfl; have fs9 := s.free 9; have cw0 := wn.at 0 _ rfl; have fw0 := wn.free 0; have cw1 := wn.at 1 _ rfl; have fw1 := wn.free 1; have cw2 := wn.at 2 _ rfl; have fw2 := wn.free 2) | (refine here_load 26 _ rfl ?_; refine wpList_load_own rfl 26 _ rfl _ rfl (((((s.set 8 _).set 9 _).other (by first | omega | (simp; done) | (simp; omega)) _).other (by first | omega | (simp; done) | (simp; omega)) _).other (by first | omega | (simp; done) | (simp; omega)) _) _ Try.underlying26 rfl (by kernel_rfl) ?_))
    clear cs8 fs8 cs9 fs9 cw0 fw0 cw1 fw1 cw2 fw2
    go_wp2_with fail
    refine with_eq ?_
    intro X eX
    have hsz := hk.size
    replace hk := (eX ▸ (by first | ((repeat (first | with_reducible exact hk | with_reducible refine Kept.alloc ?_ _ | with_reducible refine Kept.drew ?_ | with_reducible refine Kept.drewN ?_ _ | with_reducible refine Kept.set ?_ (by first | (simp; done) | (simp; omega) | omega) _)); done) | exact hk | exact (hk.alloc _) | exact ((hk.alloc _).alloc _) | exact (((hk.alloc _).alloc _).alloc _) | exact ((((hk.alloc _).alloc _).alloc _).alloc _) | exact (((((hk.alloc _).alloc _).alloc _).alloc _).alloc _) | exact ((((((hk.alloc _).alloc _).alloc _).alloc _).alloc _).alloc _) | (repeat (first | exact hk | refine Kept.alloc ?_ _ | refine Kept.drew ?_ | refine Kept.drewN ?_ _ | refine Kept.set ?_ (by first | (simp; done) | (simp; omega) | omega) _))) : Kept w X)
    replace s : Own X _ _ #[.int .i64 1, .int .i64 300, .int .i64 0, .int .i64 0, .int .i64 1, .int .i64 0, .int .i64 0, .int .i64 0, .int .i64 0, .int .i64 0, .int .i64 1, .int .i64 b, .int .i64 1, .int .i64 0, .int .i64 1, .int .i64 0, .int .i64 1, .int .i64 3, .int .i64 1, .int .i64 4, .int .i64 1, .int .i64 0, .int .i64 1, .int .i64 0, .int .i64 0, .int .i64 0, .int .i64 0, .int .i64 1, .int .i64 0, .int .i64 0, .int .i64 0, .bool false] := eX ▸ (((((((s.set 8 _).set 9 _).other (by first | omega | (simp; done) | (simp; omega)) _).other (by first | omega | (simp; done) | (simp; omega)) _).other (by first | omega | (simp; done) | (simp; omega)) _)).is (by rfl))
    replace wn : Own X _ _ #[.int .i64 (693 - b), .int .i64 (300), .int .i64 (b)] := eX ▸ (((((((wn.other (by first | omega | (simp; done) | (simp; omega)) _).other (by first | omega | (simp; done) | (simp; omega)) _).set 0 _).set 1 _).set 2 _)).is (by rfl))
    clear eX
    replace wn_l := wn.lt
    replace wn_0 := wn.at 0 _ rfl
    replace wn_1 := wn.at 1 _ rfl
    replace wn_2 := wn.at 2 _ rfl
    go_wp2_with fail
    refine (eqBlock_any (tabE1 a b) 1000 _).mono ?_
    rintro e w1 ⟨rfl, hn⟩
    replace hk := hk.trans hn
    replace s := s.kept hn
    replace wn := wn.kept hn
    clear hn
    replace wn_l := wn.lt
    replace wn_0 := wn.at 0 _ rfl
    replace wn_1 := wn.at 1 _ rfl
    replace wn_2 := wn.at 2 _ rfl
    clear s
    go_wp2_with fail
    refine with_boxes1 ?_
    intro X hX x
    have hsz := hk.size
    replace hk := hk.trans hX
    replace wn := wn.kept hX
    clear hX
    replace wn_l := wn.lt
    replace wn_0 := wn.at 0 _ rfl
    replace wn_1 := wn.at 1 _ rfl
    replace wn_2 := wn.at 2 _ rfl
    replace x_l := x.lt
    replace x_0 := x.at 0 _ rfl
    replace x_1 := x.at 1 _ rfl
    replace x_2 := x.at 2 _ rfl
    refine (num_any _ _).mono ?_
    rintro e w1 ⟨rfl, rfl⟩
    go_wp2
    go_ret
    exact ⟨rfl, hk⟩
  · have h1 := tab_eq2 a0 a1 b0 b1
    have hq' : u.tmod 6 = 2 := by rw [Int.tmod_eq_emod_of_nonneg u0]; exact hq
    have hk : Kept w w := Kept.refl w
    go_enter Try.func11, Try.ntmps11
    go_wp2_with fail
    refine (awake14_any _).mono ?_
    rintro e w1 ⟨rfl, hn⟩
    replace hk := hk.trans hn
    clear hn
    go_wp2_with fail
    refine (newStyle_lit _).mono ?_
    rintro e w1 ⟨rfl, hn⟩
    replace hk := hk.trans hn
    clear hn
    have tok1 : True := trivial
    go_wp2_with (first | (refine here_store 26 _ _ rfl ?_; refine wpList_store_own rfl 26 _ _ rfl _ _ rfl rfl (Own.new _ _ _) (by rfl) (by kernel_rfl) (by rfl) ?_; intro X s hoX hkX; have hsz := hk.size; replace hk := hkX _ (hk.alloc _) (by first | omega | (simp; omega)); clear hoX hkX; have cs0 := s.at 0 _ rfl; have fs0 := s.free 0; have cs1 := s.at 1 _ rfl; have fs1 := s.free 1; have cs8 := s.at 8 _ rfl; have fs8 := s.free 8; have cs9 := s.at 9 _ rfl; have fs9 := s.free 9; have cs10 := s.at 10 _ rfl; have fs10 := s.free 10; have cs11 := s.at 11 _ rfl; have fs11 := s.free 11; have cs17 := s.at 17 _ rfl; have fs17 := s.free 17; have cs19 := s.at 19 _ rfl; have fs19 := s.free 19) | (refine here_store 43 _ _ rfl ?_; have _t := tok1; refine wpList_store_own rfl 43 _ _ rfl _ _ rfl rfl (Own.at_ _ _ _ (by simp)) (by rfl) (by kernel_rfl) (by rfl) ?_; clear _t tok1; intro X2 wn hoX hkX; have hsz2 := hk.size; have sl := s.lt; replace hk := hkX _ (((((((hk.set (by first | omega | (simp; done) | (simp; omega)) _).set (by first | omega | (simp; done) | (simp; omega)) _).set (by first | omega | (simp; done) | (simp; omega)) _).set (by first | omega | (simp; done) | (simp; omega)) _).set (by first | omega | (simp; done) | (simp; omega)) _).set (by first | omega | (simp; done) | (simp; omega)) _).alloc _) (by first | omega | (simp; omega)); have hoO := fun (b' : Nat) (t' : TypeId) (cs' : Array Value) hne h => Own.same (t := t') (cs := cs') h (hoX b' hne); replace s := (hoO _ _ _ (by first | omega | (simp; omega)) (Own.alloc ((((((s.set 17 _).set 19 _).set 9 _).set 11 _).set 0 _).set 1 _) _)).is (ds := #[.int .i64 1, .int .i64 300, .int .i64 0, .int .i64 0, .int .i64 1, .int .i64 0, .int .i64 0, .int .i64 0, .int .i64 1, .int .i64 a, .int .i64 1, .int .i64 b, .int .i64 1, .int .i64 0, .int .i64 1, .int .i64 0, .int .i64 1, .int .i64 3, .int .i64 1, .int .i64 4, .int .i64 1, .int .i64 0, .int .i64 1, .int .i64 0, .int .i64 0, .int .i64 0, .int .i64 0, .int .i64 1, .int .i64 0, .int .i64 0, .int .i64 0, .bool false]) (by rfl); clear hoO hoX hkX cs0 fs0 cs1 fs1 cs8 fs8 cs9 fs9 cs10 fs10 cs11 fs11 cs17 fs17 cs19 fs19; have cs10 := s.at 10 _ rfl; have fs10 := s.free 10; have cs11 := s.at 11 _ rfl; have fs11 := s.free 11; have cw0 := wn.at 0 _ rfl; have fw0 := wn.free 0; have cw1 := wn.at 1 _ rfl; have fw1 := wn.free 1; have cw2 := wn.at 2 _ rfl; have fw2 := wn.free 2) | (refine here_load 26 _ rfl ?_; refine wpList_load_own rfl 26 _ rfl _ rfl ((s.set 10 _).set 11 _) _ Try.underlying26 rfl (by kernel_rfl) ?_))
    clear cs10 fs10 cs11 fs11 cw0 fw0 cw1 fw1 cw2 fw2
    go_wp2_with fail
    refine with_eq ?_
    intro X eX
    have hsz := hk.size
    replace hk := (eX ▸ (by first | ((repeat (first | with_reducible exact hk | with_reducible refine Kept.alloc ?_ _ | with_reducible refine Kept.drew ?_ | with_reducible refine Kept.drewN ?_ _ | with_reducible refine Kept.set ?_ (by first | (simp; done) | (simp; omega) | omega) _)); done) | exact hk | exact (hk.alloc _) | exact ((hk.alloc _).alloc _) | exact (((hk.alloc _).alloc _).alloc _) | exact ((((hk.alloc _).alloc _).alloc _).alloc _) | exact (((((hk.alloc _).alloc _).alloc _).alloc _).alloc _) | exact ((((((hk.alloc _).alloc _).alloc _).alloc _).alloc _).alloc _) | (repeat (first | exact hk | refine Kept.alloc ?_ _ | refine Kept.drew ?_ | refine Kept.drewN ?_ _ | refine Kept.set ?_ (by first | (simp; done) | (simp; omega) | omega) _))) : Kept w X)
    replace s : Own X _ _ #[.int .i64 1, .int .i64 300, .int .i64 0, .int .i64 0, .int .i64 1, .int .i64 0, .int .i64 0, .int .i64 0, .int .i64 1, .int .i64 a, .int .i64 0, .int .i64 0, .int .i64 1, .int .i64 0, .int .i64 1, .int .i64 0, .int .i64 1, .int .i64 3, .int .i64 1, .int .i64 4, .int .i64 1, .int .i64 0, .int .i64 1, .int .i64 0, .int .i64 0, .int .i64 0, .int .i64 0, .int .i64 1, .int .i64 0, .int .i64 0, .int .i64 0, .bool false] := eX ▸ ((((s.set 10 _).set 11 _)).is (by rfl))
    replace wn : Own X _ _ #[.int .i64 (a), .int .i64 (300), .int .i64 (693 - a)] := eX ▸ ((((wn.other (by first | omega | (simp; done) | (simp; omega)) _).other (by first | omega | (simp; done) | (simp; omega)) _)).is (by rfl))
    clear eX
    replace wn_l := wn.lt
    replace wn_0 := wn.at 0 _ rfl
    replace wn_1 := wn.at 1 _ rfl
    replace wn_2 := wn.at 2 _ rfl
    go_wp2_with fail
    refine (eqBlock_any (tabE2 a b) 1000 _).mono ?_
    rintro e w1 ⟨rfl, hn⟩
    replace hk := hk.trans hn
    replace s := s.kept hn
    replace wn := wn.kept hn
    clear hn
    replace wn_l := wn.lt
    replace wn_0 := wn.at 0 _ rfl
    replace wn_1 := wn.at 1 _ rfl
    replace wn_2 := wn.at 2 _ rfl
    clear s
    go_wp2_with fail
    refine with_boxes1 ?_
    intro X hX x
    have hsz := hk.size
    replace hk := hk.trans hX
    replace wn := wn.kept hX
    clear hX
    replace wn_l := wn.lt
    replace wn_0 := wn.at 0 _ rfl
    replace wn_1 := wn.at 1 _ rfl
    replace wn_2 := wn.at 2 _ rfl
    replace x_l := x.lt
    replace x_0 := x.at 0 _ rfl
    replace x_1 := x.at 1 _ rfl
    replace x_2 := x.at 2 _ rfl
    refine (num_any _ _).mono ?_
    rintro e w1 ⟨rfl, rfl⟩
    go_wp2
    go_ret
    exact ⟨rfl, hk⟩
  · have h1 := tab_eq3 a0 a1 b0 b1
    have hq' : u.tmod 6 = 3 := by rw [Int.tmod_eq_emod_of_nonneg u0]; exact hq
    have hk : Kept w w := Kept.refl w
    go_enter Try.func11, Try.ntmps11
    go_wp2_with fail
    refine (awake14_any _).mono ?_
    rintro e w1 ⟨rfl, hn⟩
    replace hk := hk.trans hn
    clear hn
    go_wp2_with fail
    refine (newStyle_lit _).mono ?_
    rintro e w1 ⟨rfl, hn⟩
    replace hk := hk.trans hn
    clear hn
    have tok1 : True := trivial
    go_wp2_with (first | (refine here_store 26 _ _ rfl ?_; refine wpList_store_own rfl 26 _ _ rfl _ _ rfl rfl (Own.new _ _ _) (by rfl) (by kernel_rfl) (by rfl) ?_; intro X s hoX hkX; have hsz := hk.size; replace hk := hkX _ (hk.alloc _) (by first | omega | (simp; omega)); clear hoX hkX; have cs0 := s.at 0 _ rfl; have fs0 := s.free 0; have cs1 := s.at 1 _ rfl; have fs1 := s.free 1; have cs8 := s.at 8 _ rfl; have fs8 := s.free 8; have cs9 := s.at 9 _ rfl; have fs9 := s.free 9; have cs10 := s.at 10 _ rfl; have fs10 := s.free 10; have cs11 := s.at 11 _ rfl; have fs11 := s.free 11; have cs17 := s.at 17 _ rfl; have fs17 := s.free 17; have cs19 := s.at 19 _ rfl; have fs19 := s.free 19) | (refine here_store 43 _ _ rfl ?_; have _t := tok1; refine wpList_store_own rfl 43 _ _ rfl _ _ rfl rfl (Own.at_ _ _ _ (by simp)) (by rfl) (by kernel_rfl) (by rfl) ?_; clear _t tok1; intro X2 wn hoX hkX; have hsz2 := hk.size; have sl := s.lt; replace hk := hkX _ (((((((hk.set (by first | omega | (simp; done) | (simp; omega)) _).set (by first | omega | (simp; done) | (simp; omega)) _).set (by first | omega | (simp; done) | (simp; omega)) _).set (by first | omega | (simp; done) | (simp; omega)) _).set (by first | omega | (simp; done) | (simp; omega)) _).set (by first | omega | (simp; done) | (simp; omega)) _).alloc _) (by first | omega | (simp; omega)); have hoO := fun (b' : Nat) (t' : TypeId) (cs' : Array Value) hne h => Own.same (t := t') (cs := cs') h (hoX b' hne); replace s := (hoO _ _ _ (by first | omega | (simp; omega)) (Own.alloc ((((((s.set 17 _).set 19 _).set 9 _).set 11 _).set 0 _).set 1 _) _)).is (ds := #[.int .i64 1, .int .i64 300, .int .i64 0, .int .i64 0, .int .i64 1, .int .i64 0, .int .i64 0, .int .i64 0, .int .i64 1, .int .i64 a, .int .i64 1, .int .i64 b, .int .i64 1, .int .i64 0, .int .i64 1, .int .i64 0, .int .i64 1, .int .i64 3, .int .i64 1, .int .i64 4, .int .i64 1, .int .i64 0, .int .i64 1, .int .i64 0, .int .i64 0, .int .i64 0, .int .i64 0, .int .i64 1, .int .i64 0, .int .i64 0, .int .i64 0, .bool false]) (by rfl); clear hoO hoX hkX cs0 fs0 cs1 fs1 cs8 fs8 cs9 fs9 cs10 fs10 cs11 fs11 cs17 fs17 cs19 fs19; have cs8 := s.at 8 _ rfl; have fs8 := s.free 8; have cs9 := s.at 9 _ rfl; have fs9 := s.free 9; have cs10 := s.at 10 _ rfl; have fs10 := s.free 10; have cs11 := s.at 11 _ rfl; have fs11 := s.free 11; have cw0 := wn.at 0 _ rfl; have fw0 := wn.free 0; have cw1 := wn.at 1 _ rfl; have fw1 := wn.free 1; have cw2 := wn.at 2 _ rfl; have fw2 := wn.free 2) | (refine here_load 26 _ rfl ?_; refine wpList_load_own rfl 26 _ rfl _ rfl (((((((s.set 8 _).set 9 _).set 10 _).set 11 _).other (by first | omega | (simp; done) | (simp; omega)) _).other (by first | omega | (simp; done) | (simp; omega)) _).other (by first | omega | (simp; done) | (simp; omega)) _) _ Try.underlying26 rfl (by kernel_rfl) ?_))
    clear cs8 fs8 cs9 fs9 cs10 fs10 cs11 fs11 cw0 fw0 cw1 fw1 cw2 fw2
    go_wp2_with fail
    refine with_eq ?_
    intro X eX
    have hsz := hk.size
    replace hk := (eX ▸ (by first | ((repeat (first | with_reducible exact hk | with_reducible refine Kept.alloc ?_ _ | with_reducible refine Kept.drew ?_ | with_reducible refine Kept.drewN ?_ _ | with_reducible refine Kept.set ?_ (by first | (simp; done) | (simp; omega) | omega) _)); done) | exact hk | exact (hk.alloc _) | exact ((hk.alloc _).alloc _) | exact (((hk.alloc _).alloc _).alloc _) | exact ((((hk.alloc _).alloc _).alloc _).alloc _) | exact (((((hk.alloc _).alloc _).alloc _).alloc _).alloc _) | exact ((((((hk.alloc _).alloc _).alloc _).alloc _).alloc _).alloc _) | (repeat (first | exact hk | refine Kept.alloc ?_ _ | refine Kept.drew ?_ | refine Kept.drewN ?_ _ | refine Kept.set ?_ (by first | (simp; done) | (simp; omega) | omega) _))) : Kept w X)
    replace s : Own X _ _ #[.int .i64 1, .int .i64 300, .int .i64 0, .int .i64 0, .int .i64 1, .int .i64 0, .int .i64 0, .int .i64 0, .int .i64 0, .int .i64 0, .int .i64 0, .int .i64 0, .int .i64 1, .int .i64 0, .int .i64 1, .int .i64 0, .int .i64 1, .int .i64 3, .int .i64 1, .int .i64 4, .int .i64 1, .int .i64 0, .int .i64 1, .int .i64 0, .int .i64 0, .int .i64 0, .int .i64 0, .int .i64 1, .int .i64 0, .int .i64 0, .int .i64 0, .bool false] := eX ▸ (((((((((s.set 8 _).set 9 _).set 10 _).set 11 _).other (by first | omega | (simp; done) | (simp; omega)) _).other (by first | omega | (simp; done) | (simp; omega)) _).other (by first | omega | (simp; done) | (simp; omega)) _)).is (by rfl))
    replace wn : Own X _ _ #[.int .i64 (346), .int .i64 (300), .int .i64 (347)] := eX ▸ (((((((((wn.other (by first | omega | (simp; done) | (simp; omega)) _).other (by first | omega | (simp; done) | (simp; omega)) _).other (by first | omega | (simp; done) | (simp; omega)) _).other (by first | omega | (simp; done) | (simp; omega)) _).set 0 _).set 1 _).set 2 _)).is (by rfl))
    clear eX
    replace wn_l := wn.lt
    replace wn_0 := wn.at 0 _ rfl
    replace wn_1 := wn.at 1 _ rfl
    replace wn_2 := wn.at 2 _ rfl
    go_wp2_with fail
    refine (eqBlock_any (tabE3 a b) 1000 _).mono ?_
    rintro e w1 ⟨rfl, hn⟩
    replace hk := hk.trans hn
    replace s := s.kept hn
    replace wn := wn.kept hn
    clear hn
    replace wn_l := wn.lt
    replace wn_0 := wn.at 0 _ rfl
    replace wn_1 := wn.at 1 _ rfl
    replace wn_2 := wn.at 2 _ rfl
    clear s
    go_wp2_with fail
    refine with_boxes1 ?_
    intro X hX x
    have hsz := hk.size
    replace hk := hk.trans hX
    replace wn := wn.kept hX
    clear hX
    replace wn_l := wn.lt
    replace wn_0 := wn.at 0 _ rfl
    replace wn_1 := wn.at 1 _ rfl
    replace wn_2 := wn.at 2 _ rfl
    replace x_l := x.lt
    replace x_0 := x.at 0 _ rfl
    replace x_1 := x.at 1 _ rfl
    replace x_2 := x.at 2 _ rfl
    refine (num_any _ _).mono ?_
    rintro e w1 ⟨rfl, rfl⟩
    go_wp2
    go_ret
    exact ⟨rfl, hk⟩
  · have h1 := tab_eq4 a0 a1 b0 b1
    have hq' : u.tmod 6 = 4 := by rw [Int.tmod_eq_emod_of_nonneg u0]; exact hq
    have hk : Kept w w := Kept.refl w
    go_enter Try.func11, Try.ntmps11
    go_wp2_with fail
    refine (awake14_any _).mono ?_
    rintro e w1 ⟨rfl, hn⟩
    replace hk := hk.trans hn
    clear hn
    go_wp2_with fail
    refine (newStyle_lit _).mono ?_
    rintro e w1 ⟨rfl, hn⟩
    replace hk := hk.trans hn
    clear hn
    have tok1 : True := trivial
    go_wp2_with (first | (refine here_store 26 _ _ rfl ?_; refine wpList_store_own rfl 26 _ _ rfl _ _ rfl rfl (Own.new _ _ _) (by rfl) (by kernel_rfl) (by rfl) ?_; intro X s hoX hkX; have hsz := hk.size; replace hk := hkX _ (hk.alloc _) (by first | omega | (simp; omega)); clear hoX hkX; have cs0 := s.at 0 _ rfl; have fs0 := s.free 0; have cs1 := s.at 1 _ rfl; have fs1 := s.free 1; have cs8 := s.at 8 _ rfl; have fs8 := s.free 8; have cs9 := s.at 9 _ rfl; have fs9 := s.free 9; have cs10 := s.at 10 _ rfl; have fs10 := s.free 10; have cs11 := s.at 11 _ rfl; have fs11 := s.free 11; have cs17 := s.at 17 _ rfl; have fs17 := s.free 17; have cs19 := s.at 19 _ rfl; have fs19 := s.free 19) | (refine here_store 43 _ _ rfl ?_; have _t := tok1; refine wpList_store_own rfl 43 _ _ rfl _ _ rfl rfl (Own.at_ _ _ _ (by simp)) (by rfl) (by kernel_rfl) (by rfl) ?_; clear _t tok1; intro X2 wn hoX hkX; have hsz2 := hk.size; have sl := s.lt; replace hk := hkX _ (((((((hk.set (by first | omega | (simp; done) | (simp; omega)) _).set (by first | omega | (simp; done) | (simp; omega)) _).set (by first | omega | (simp; done) | (simp; omega)) _).set (by first | omega | (simp; done) | (simp; omega)) _).set (by first | omega | (simp; done) | (simp; omega)) _).set (by first | omega | (simp; done) | (simp; omega)) _).alloc _) (by first | omega | (simp; omega)); have hoO := fun (b' : Nat) (t' : TypeId) (cs' : Array Value) hne h => Own.same (t := t') (cs := cs') h (hoX b' hne); replace s := (hoO _ _ _ (by first | omega | (simp; omega)) (Own.alloc ((((((s.set 17 _).set 19 _).set 9 _).set 11 _).set 0 _).set 1 _) _)).is (ds := #[.int .i64 1, .int .i64 300, .int .i64 0, .int .i64 0, .int .i64 1, .int .i64 0, .int .i64 0, .int .i64 0, .int .i64 1, .int .i64 a, .int .i64 1, .int .i64 b, .int .i64 1, .int .i64 0, .int .i64 1, .int .i64 0, .int .i64 1, .int .i64 3, .int .i64 1, .int .i64 4, .int .i64 1, .int .i64 0, .int .i64 1, .int .i64 0, .int .i64 0, .int .i64 0, .int .i64 0, .int .i64 1, .int .i64 0, .int .i64 0, .int .i64 0, .bool false]) (by rfl); clear hoO hoX hkX cs0 fs0 cs1 fs1 cs8 fs8 cs9 fs9 cs10 fs10 cs11 fs11 cs17 fs17 cs19 fs19; have cs0 := s.at 0 _ rfl; have fs0 := s.free 0; have cs1 := s.at 1 _ rfl; have fs1 := s.free 1; have cw0 := wn.at 0 _ rfl; have fw0 := wn.free 0; have cw1 := wn.at 1 _ rfl; have fw1 := wn.free 1; have cw2 := wn.at 2 _ rfl; have fw2 := wn.free 2) | (refine here_load 26 _ rfl ?_; refine wpList_load_own rfl 26 _ rfl _ rfl (((((s.set 0 _).set 1 _).other (by first | omega | (simp; done) | (simp; omega)) _).other (by first | omega | (simp; done) | (simp; omega)) _).other (by first | omega | (simp; done) | (simp; omega)) _) _ Try.underlying26 rfl (by kernel_rfl) ?_))
    clear cs0 fs0 cs1 fs1 cw0 fw0 cw1 fw1 cw2 fw2
    go_wp2_with fail
    refine with_eq ?_
    intro X eX
    have hsz := hk.size
    replace hk := (eX ▸ (by first | ((repeat (first | with_reducible exact hk | with_reducible refine Kept.alloc ?_ _ | with_reducible refine Kept.drew ?_ | with_reducible refine Kept.drewN ?_ _ | with_reducible refine Kept.set ?_ (by first | (simp; done) | (simp; omega) | omega) _)); done) | exact hk | exact (hk.alloc _) | exact ((hk.alloc _).alloc _) | exact (((hk.alloc _).alloc _).alloc _) | exact ((((hk.alloc _).alloc _).alloc _).alloc _) | exact (((((hk.alloc _).alloc _).alloc _).alloc _).alloc _) | exact ((((((hk.alloc _).alloc _).alloc _).alloc _).alloc _).alloc _) | (repeat (first | exact hk | refine Kept.alloc ?_ _ | refine Kept.drew ?_ | refine Kept.drewN ?_ _ | refine Kept.set ?_ (by first | (simp; done) | (simp; omega) | omega) _))) : Kept w X)
    replace s : Own X _ _ #[.int .i64 0, .int .i64 0, .int .i64 0, .int .i64 0, .int .i64 1, .int .i64 0, .int .i64 0, .int .i64 0, .int .i64 1, .int .i64 a, .int .i64 1, .int .i64 b, .int .i64 1, .int .i64 0, .int .i64 1, .int .i64 0, .int .i64 1, .int .i64 3, .int .i64 1, .int .i64 4, .int .i64 1, .int .i64 0, .int .i64 1, .int .i64 0, .int .i64 0, .int .i64 0, .int .i64 0, .int .i64 1, .int .i64 0, .int .i64 0, .int .i64 0, .bool false] := eX ▸ (((((((s.set 0 _).set 1 _).other (by first | omega | (simp; done) | (simp; omega)) _).other (by first | omega | (simp; done) | (simp; omega)) _).other (by first | omega | (simp; done) | (simp; omega)) _)).is (by rfl))
    replace wn : Own X _ _ #[.int .i64 (a), .int .i64 (993 - a - b), .int .i64 (b)] := eX ▸ (((((((wn.other (by first | omega | (simp; done) | (simp; omega)) _).other (by first | omega | (simp; done) | (simp; omega)) _).set 0 _).set 1 _).set 2 _)).is (by rfl))
    clear eX
    replace wn_l := wn.lt
    replace wn_0 := wn.at 0 _ rfl
    replace wn_1 := wn.at 1 _ rfl
    replace wn_2 := wn.at 2 _ rfl
    go_wp2_with fail
    refine (eqBlock_any (tabE4 a b) 1000 _).mono ?_
    rintro e w1 ⟨rfl, hn⟩
    replace hk := hk.trans hn
    replace s := s.kept hn
    replace wn := wn.kept hn
    clear hn
    replace wn_l := wn.lt
    replace wn_0 := wn.at 0 _ rfl
    replace wn_1 := wn.at 1 _ rfl
    replace wn_2 := wn.at 2 _ rfl
    clear s
    go_wp2_with fail
    refine with_boxes1 ?_
    intro X hX x
    have hsz := hk.size
    replace hk := hk.trans hX
    replace wn := wn.kept hX
    clear hX
    replace wn_l := wn.lt
    replace wn_0 := wn.at 0 _ rfl
    replace wn_1 := wn.at 1 _ rfl
    replace wn_2 := wn.at 2 _ rfl
    replace x_l := x.lt
    replace x_0 := x.at 0 _ rfl
    replace x_1 := x.at 1 _ rfl
    replace x_2 := x.at 2 _ rfl
    refine (num_any _ _).mono ?_
    rintro e w1 ⟨rfl, rfl⟩
    go_wp2
    go_ret
    exact ⟨rfl, hk⟩
  · have h1 := tab_eq5 a0 a1 b0 b1
    have hq' : u.tmod 6 = 5 := by rw [Int.tmod_eq_emod_of_nonneg u0]; exact hq
    have hk : Kept w w := Kept.refl w
    go_enter Try.func11, Try.ntmps11
    go_wp2_with fail
    refine (awake14_any _).mono ?_
    rintro e w1 ⟨rfl, hn⟩
    replace hk := hk.trans hn
    clear hn
    go_wp2_with fail
    refine (newStyle_lit _).mono ?_
    rintro e w1 ⟨rfl, hn⟩
    replace hk := hk.trans hn
    clear hn
    have tok1 : True := trivial
    go_wp2_with (first | (refine here_store 26 _ _ rfl ?_; refine wpList_store_own rfl 26 _ _ rfl _ _ rfl rfl (Own.new _ _ _) (by rfl) (by kernel_rfl) (by rfl) ?_; intro X s hoX hkX; have hsz := hk.size; replace hk := hkX _ (hk.alloc _) (by first | omega | (simp; omega)); clear hoX hkX; have cs0 := s.at 0 _ rfl; have fs0 := s.free 0; have cs1 := s.at 1 _ rfl; have fs1 := s.free 1; have cs8 := s.at 8 _ rfl; have fs8 := s.free 8; have cs9 := s.at 9 _ rfl; have fs9 := s.free 9; have cs10 := s.at 10 _ rfl; have fs10 := s.free 10; have cs11 := s.at 11 _ rfl; have fs11 := s.free 11; have cs17 := s.at 17 _ rfl; have fs17 := s.free 17; have cs19 := s.at 19 _ rfl; have fs19 := s.free 19) | (refine here_store 43 _ _ rfl ?_; have _t := tok1; refine wpList_store_own rfl 43 _ _ rfl _ _ rfl rfl (Own.at_ _ _ _ (by simp)) (by rfl) (by kernel_rfl) (by rfl) ?_; clear _t tok1; intro X2 wn hoX hkX; have hsz2 := hk.size; have sl := s.lt; replace hk := hkX _ (((((((hk.set (by first | omega | (simp; done) | (simp; omega)) _).set (by first | omega | (simp; done) | (simp; omega)) _).set (by first | omega | (simp; done) | (simp; omega)) _).set (by first | omega | (simp; done) | (simp; omega)) _).set (by first | omega | (simp; done) | (simp; omega)) _).set (by first | omega | (simp; done) | (simp; omega)) _).alloc _) (by first | omega | (simp; omega)); have hoO := fun (b' : Nat) (t' : TypeId) (cs' : Array Value) hne h => Own.same (t := t') (cs := cs') h (hoX b' hne); replace s := (hoO _ _ _ (by first | omega | (simp; omega)) (Own.alloc ((((((s.set 17 _).set 19 _).set 9 _).set 11 _).set 0 _).set 1 _) _)).is (ds := #[.int .i64 1, .int .i64 300, .int .i64 0, .int .i64 0, .int .i64 1, .int .i64 0, .int .i64 0, .int .i64 0, .int .i64 1, .int .i64 a, .int .i64 1, .int .i64 b, .int .i64 1, .int .i64 0, .int .i64 1, .int .i64 0, .int .i64 1, .int .i64 3, .int .i64 1, .int .i64 4, .int .i64 1, .int .i64 0, .int .i64 1, .int .i64 0, .int .i64 0, .int .i64 0, .int .i64 0, .int .i64 1, .int .i64 0, .int .i64 0, .int .i64 0, .bool false]) (by rfl); clear hoO hoX hkX cs0 fs0 cs1 fs1 cs8 fs8 cs9 fs9 cs10 fs10 cs11 fs11 cs17 fs17 cs19 fs19; have cs0 := s.at 0 _ rfl; have fs0 := s.free 0; have cs1 := s.at 1 _ rfl; have fs1 := s.free 1; have cw0 := wn.at 0 _ rfl; have fw0 := wn.free 0; have cw1 := wn.at 1 _ rfl; have fw1 := wn.free 1; have cw2 := wn.at 2 _ rfl; have fw2 := wn.free 2) | (refine here_load 26 _ rfl ?_; refine wpList_load_own rfl 26 _ rfl _ rfl (((((s.set 0 _).set 1 _).other (by first | omega | (simp; done) | (simp; omega)) _).other (by first | omega | (simp; done) | (simp; omega)) _).other (by first | omega | (simp; done) | (simp; omega)) _) _ Try.underlying26 rfl (by kernel_rfl) ?_))
    clear cs0 fs0 cs1 fs1 cw0 fw0 cw1 fw1 cw2 fw2
    go_wp2_with fail
    refine with_eq ?_
    intro X eX
    have hsz := hk.size
    replace hk := (eX ▸ (by first | ((repeat (first | with_reducible exact hk | with_reducible refine Kept.alloc ?_ _ | with_reducible refine Kept.drew ?_ | with_reducible refine Kept.drewN ?_ _ | with_reducible refine Kept.set ?_ (by first | (simp; done) | (simp; omega) | omega) _)); done) | exact hk | exact (hk.alloc _) | exact ((hk.alloc _).alloc _) | exact (((hk.alloc _).alloc _).alloc _) | exact ((((hk.alloc _).alloc _).alloc _).alloc _) | exact (((((hk.alloc _).alloc _).alloc _).alloc _).alloc _) | exact ((((((hk.alloc _).alloc _).alloc _).alloc _).alloc _).alloc _) | (repeat (first | exact hk | refine Kept.alloc ?_ _ | refine Kept.drew ?_ | refine Kept.drewN ?_ _ | refine Kept.set ?_ (by first | (simp; done) | (simp; omega) | omega) _))) : Kept w X)
    replace s : Own X _ _ #[.int .i64 2, .int .i64 50, .int .i64 0, .int .i64 0, .int .i64 1, .int .i64 0, .int .i64 0, .int .i64 0, .int .i64 1, .int .i64 a, .int .i64 1, .int .i64 b, .int .i64 1, .int .i64 0, .int .i64 1, .int .i64 0, .int .i64 1, .int .i64 3, .int .i64 1, .int .i64 4, .int .i64 1, .int .i64 0, .int .i64 1, .int .i64 0, .int .i64 0, .int .i64 0, .int .i64 0, .int .i64 1, .int .i64 0, .int .i64 0, .int .i64 0, .bool false] := eX ▸ (((((((s.set 0 _).set 1 _).other (by first | omega | (simp; done) | (simp; omega)) _).other (by first | omega | (simp; done) | (simp; omega)) _).other (by first | omega | (simp; done) | (simp; omega)) _)).is (by rfl))
    replace wn : Own X _ _ #[.int .i64 (a), .int .i64 (500), .int .i64 (493 - a)] := eX ▸ (((((((wn.other (by first | omega | (simp; done) | (simp; omega)) _).other (by first | omega | (simp; done) | (simp; omega)) _).set 0 _).set 1 _).set 2 _)).is (by rfl))
    clear eX
    replace wn_l := wn.lt
    replace wn_0 := wn.at 0 _ rfl
    replace wn_1 := wn.at 1 _ rfl
    replace wn_2 := wn.at 2 _ rfl
    go_wp2_with fail
    refine (eqBlock_any (tabE5 a b) 1000 _).mono ?_
    rintro e w1 ⟨rfl, hn⟩
    replace hk := hk.trans hn
    replace s := s.kept hn
    replace wn := wn.kept hn
    clear hn
    replace wn_l := wn.lt
    replace wn_0 := wn.at 0 _ rfl
    replace wn_1 := wn.at 1 _ rfl
    replace wn_2 := wn.at 2 _ rfl
    clear s
    go_wp2_with fail
    refine with_boxes1 ?_
    intro X hX x
    have hsz := hk.size
    replace hk := hk.trans hX
    replace wn := wn.kept hX
    clear hX
    replace wn_l := wn.lt
    replace wn_0 := wn.at 0 _ rfl
    replace wn_1 := wn.at 1 _ rfl
    replace wn_2 := wn.at 2 _ rfl
    replace x_l := x.lt
    replace x_0 := x.at 0 _ rfl
    replace x_1 := x.at 1 _ rfl
    replace x_2 := x.at 2 _ rfl
    refine (num_any _ _).mono ?_
    rintro e w1 ⟨rfl, rfl⟩
    go_wp2
    go_ret
    exact ⟨rfl, hk⟩
end Go.Proofs.Ytpkphohgnelajaa
