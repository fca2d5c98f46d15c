/- Layer 17: floats of one side, by counting. -/
import Derived.Test.YtkdidhhilcamkaaLaw17All
namespace Go.Proofs.Ytkdidhhilcamkaa
open Go.RowKit Go.Deep
set_option linter.unusedSimpArgs false
set_option linter.unusedVariables false
/-- where float i stands, of floats of length g, of which F fit -/
def sideI (g : Int) (F : Nat) (side : Int) (i : Nat) : Int := if side = 2 then 400 - g - g * ((i % F : Nat) : Int) else g * ((i % F : Nat) : Int)
def sideZ (g : Int) (F : Nat) (side : Int) (i j : Nat) : Int := [sideI g F side i, 10 * ((i / F : Nat) : Int), g, 10, side].getD j 0
/-- how many of the first k stand in row q -/
def inRow (F q k : Nat) : Nat := min (k - q * F) F
structure Fit (g : Int) (F : Nat) : Prop where
  pos : 1 ≤ g
  most : g ≤ 128
  fit : g * (F : Int) ≤ 400
  more : 400 < g * (F : Int) + g
  three : 3 ≤ F
theorem fit_of {g : Int} (h1 : 1 ≤ g) (h2 : g ≤ 128) (F : Nat) (hF : 400 / g = (F : Int)) : Fit g F := by
  have h3 : g * (400 / g) ≤ 400 := Int.mul_ediv_self_le (by omega)
  have h4 : 400 < g * (400 / g) + g := Int.lt_mul_ediv_self_add (by omega)
  have h5 : 3 ≤ 400 / g := (Int.le_ediv_iff_mul_le (by omega)).2 (by omega)
  rw [hF] at h3 h4 h5
  exact ⟨h1, h2, h3, h4, by omega⟩
theorem Fit.rest {g : Int} {F : Nat} (h : Fit g F) {r : Nat} (hr : r < F) : 0 ≤ g * (r : Int) ∧ g * (r : Int) + g ≤ 400 := by
  have h1 : g * ((r : Int) + 1) ≤ g * (F : Int) := Int.mul_le_mul_of_nonneg_left (by omega) (by have := h.pos; omega)
  have h2 : 0 ≤ g * (r : Int) := Int.mul_nonneg (by have := h.pos; omega) (Int.natCast_nonneg _)
  rw [Int.mul_add] at h1
  have := h.fit
  omega
theorem Fit.all {g : Int} {F : Nat} (h : Fit g F) {r : Nat} (hr : r ≤ F) : 0 ≤ g * (r : Int) ∧ g * (r : Int) ≤ 400 := by
  have h1 : g * (r : Int) ≤ g * (F : Int) := Int.mul_le_mul_of_nonneg_left (by omega) (by have := h.pos; omega)
  have h2 : 0 ≤ g * (r : Int) := Int.mul_nonneg (by have := h.pos; omega) (Int.natCast_nonneg _)
  have := h.fit
  omega
theorem sideI_bd {g : Int} {F : Nat} (h : Fit g F) (side : Int) (i : Nat) : 0 ≤ sideI g F side i ∧ sideI g F side i ≤ 400 := by
  have hr := h.rest (r := i % F) (Nat.mod_lt _ (by have := h.three; omega))
  have := h.pos
  unfold sideI
  split <;> omega
theorem sideZ_may {g : Int} {F : Nat} (h : Fit g F) {side : Int} (hs : side = 1 ∨ side = 2) {j : Nat} (hj : j ≤ 32) : mayX 400 j (excOf (sideZ g F side)) = true := by
  refine mayX_true.2 ⟨by decide, hj, allE_of fun k hk => ?_⟩
  have h1 := sideI_bd h side k
  have h2 : k / F ≤ k := Nat.div_le_self _ _
  have h5 : 0 ≤ 10 * ((k / F : Nat) : Int) ∧ 10 * ((k / F : Nat) : Int) ≤ 4194304 := by
    generalize k / F = m at h2 ⊢
    omega
  have h3 := h.pos
  have h4 := h.most
  unfold excB
  rw [show (excOf (sideZ g F side) k).side = side from rfl, show (excOf (sideZ g F side) k).si = g from rfl, show (excOf (sideZ g F side) k).sb = 10 from rfl, show (excOf (sideZ g F side) k).ab = 10 * ((k / F : Nat) : Int) from rfl, show (excOf (sideZ g F side) k).ai = sideI g F side k from rfl,
    inB_true.2 (show 1 ≤ side ∧ side ≤ 2 by omega), inB_true.2 (show 0 ≤ g ∧ g ≤ 4194304 by omega), inB_true.2 (show (0 : Int) ≤ 10 ∧ (10 : Int) ≤ 4194304 by decide), inB_true.2 h5, mayB_true.2 (show -1073741824 ≤ sideI g F side k ∧ sideI g F side k ≤ 1073741824 by omega)]
  rfl
theorem side_meets {g : Int} {F : Nat} {side : Int} (k q : Nat) : meetsB (excOf (sideZ g F side) k) (10 * (q : Int)) 10 = decide (k / F = q) := by
  unfold meetsB endS
  rw [show (excOf (sideZ g F side) k).ab = 10 * ((k / F : Nat) : Int) from rfl, show (excOf (sideZ g F side) k).sb = 10 from rfl]
  rw [Bool.eq_iff_iff, Bool.and_eq_true, decide_eq_true_eq, decide_eq_true_eq, decide_eq_true_eq]
  omega
theorem row_step {F : Nat} (hF : 0 < F) (q k : Nat) : (k / F = q → inRow F q k = k % F ∧ inRow F q (k + 1) = k % F + 1) ∧ (k / F ≠ q → inRow F q (k + 1) = inRow F q k) := by
  have hd := Nat.div_add_mod k F
  have hm := Nat.mod_lt k hF
  refine ⟨fun h => ?_, fun h => ?_⟩
  · rw [h, Nat.mul_comm] at hd
    unfold inRow
    omega
  · unfold inRow
    rcases Nat.lt_or_ge (k / F) q with h1 | h1
    · have : (k / F + 1) * F ≤ q * F := Nat.mul_le_mul_right F h1
      rw [Nat.add_mul, Nat.one_mul, Nat.mul_comm] at this
      omega
    · have : (q + 1) * F ≤ (k / F) * F := Nat.mul_le_mul_right F (by omega)
      rw [Nat.add_mul, Nat.one_mul] at this
      rw [Nat.mul_comm] at hd
      omega
theorem side_band {g : Int} {F : Nat} (h : Fit g F) {side : Int} (hs : side = 1 ∨ side = 2) (q : Nat) : ∀ k, bandS (excOf (sideZ g F side)) 400 (10 * (q : Int)) 10 k = if side = 2 then (0, 400 - g * ((inRow F q k : Nat) : Int)) else (g * ((inRow F q k : Nat) : Int), 400) := by
  have hF : 0 < F := by have := h.three; omega
  intro k
  induction k with
  | zero =>
    have : inRow F q 0 = 0 := by unfold inRow; omega
    rw [this]
    rcases hs with rfl | rfl <;> simp [bandS]
  | succ k ih =>
    have e : bandS (excOf (sideZ g F side)) 400 (10 * (q : Int)) 10 (k + 1) = if meetsB (excOf (sideZ g F side) k) (10 * (q : Int)) 10 = true then (if side = 1 then (max (bandS (excOf (sideZ g F side)) 400 (10 * (q : Int)) 10 k).1 (sideI g F side k + g), (bandS (excOf (sideZ g F side)) 400 (10 * (q : Int)) 10 k).2) else ((bandS (excOf (sideZ g F side)) 400 (10 * (q : Int)) 10 k).1, min (bandS (excOf (sideZ g F side)) 400 (10 * (q : Int)) 10 k).2 (sideI g F side k))) else bandS (excOf (sideZ g F side)) 400 (10 * (q : Int)) 10 k := rfl
    rw [e, side_meets, ih]
    obtain ⟨r1, r2⟩ := row_step hF q k
    by_cases hq : k / F = q
    · obtain ⟨c1, c2⟩ := r1 hq
      rw [if_pos (by simpa using hq), c1, c2]
      have hm := h.rest (r := k % F) (Nat.mod_lt _ hF)
      have hp := h.pos
      have e2 : g * (((k % F + 1 : Nat)) : Int) = g * ((k % F : Nat) : Int) + g := by rw [Int.natCast_add, Int.mul_add]; simp
      rw [e2]
      rcases hs with rfl | rfl
      · simp only [sideI, if_neg (show ¬ (1 : Int) = 2 by decide), if_pos]
        congr 1
        omega
      · simp only [sideI, if_neg (show ¬ (2 : Int) = 1 by decide), if_pos]
        congr 1
        omega
    · rw [if_neg (by simpa using hq), r2 hq]
theorem side_below (g : Int) (F : Nat) (side : Int) : ∀ k, belowS (excOf (sideZ g F side)) 0 k = 0 := by
  intro k
  induction k with
  | zero => rfl
  | succ k ih =>
    rw [show belowS (excOf (sideZ g F side)) 0 (k + 1) = if clearsB 0 side = true then max (belowS (excOf (sideZ g F side)) 0 k) (endS (excOf (sideZ g F side) k)) else belowS (excOf (sideZ g F side)) 0 k from rfl, if_neg (by unfold clearsB; simp)]
    exact ih
theorem side_top {g : Int} {F : Nat} (hF : 0 < F) (side : Int) : ∀ k, topS (excOf (sideZ g F side)) 0 (k + 1) = 10 * ((k / F : Nat) : Int) := by
  intro k
  induction k with
  | zero =>
    show max 0 (10 * ((0 / F : Nat) : Int)) = _
    rw [Nat.zero_div]; rfl
  | succ k ih =>
    rw [show topS (excOf (sideZ g F side)) 0 (k + 1 + 1) = max (topS (excOf (sideZ g F side)) 0 (k + 1)) (10 * (((k + 1) / F : Nat) : Int)) from rfl, ih]
    have h1 : k / F ≤ (k + 1) / F := Nat.div_le_div_right (by omega)
    generalize k / F = a at *
    generalize (k + 1) / F = b at *
    omega
theorem side_fits {g : Int} {F : Nat} (h : Fit g F) {side : Int} (hs : side = 1 ∨ side = 2) (q k : Nat) (hr : inRow F q k < F) : fitsB (excOf (sideZ g F side)) 400 k g 10 (10 * (q : Int)) = true := by
  have hm := h.rest hr
  unfold fitsB
  rw [side_band h hs q k]
  rcases hs with rfl | rfl
  · rw [if_neg (by decide)]
    dsimp only
    rw [decide_eq_true (by omega)]; rfl
  · rw [if_pos rfl]
    dsimp only
    rw [decide_eq_true (by have := h.pos; omega)]; rfl
theorem side_place {g : Int} {F : Nat} (h : Fit g F) {side : Int} (hs : side = 1 ∨ side = 2) {q k : Nat} (hr : inRow F q k < F) (hq : k / F = q) (hk : inRow F q k = k % F) (hy : placeY (excOf (sideZ g F side)) 400 k 0 0 g 10 = 10 * (q : Int)) :
    placeE (excOf (sideZ g F side)) 400 k 0 side 0 g 10 = excOf (sideZ g F side) k := by
  have hm := h.rest hr
  have hi : placeI (excOf (sideZ g F side)) 400 k 0 side 0 g 10 = sideI g F side k := by
    unfold placeI
    rw [hy, side_band h hs q k]
    rcases hs with rfl | rfl
    · rw [if_neg (by decide), if_neg (by decide), hk]
      unfold sideI
      rw [if_neg (by decide)]
    · rw [if_pos rfl, if_pos rfl, hk]
      unfold sideI
      rw [if_pos rfl]
      rw [hk] at hm
      have := h.pos
      dsimp only
      omega
  unfold placeE
  rw [hi, hy, ← hq]
  rfl
theorem sides_step {g : Int} {F : Nat} (h : Fit g F) {side : Int} (hs : side = 1 ∨ side = 2) {j : Nat} (hj : j ≤ 32) : placeR (excOf (sideZ g F side)) 400 j 0 side 0 g 10 = (excOf (sideZ g F side) j, 0) := by
  have hF : 0 < F := by have := h.three; omega
  have hp := h.pos
  have hb : placeB (excOf (sideZ g F side)) 400 j 0 side 0 g 10 = true := by
    unfold placeB
    rw [sideZ_may h hs hj, inB_true.2 (show 0 ≤ g ∧ g ≤ 4194304 by have := h.most; omega), inB_true.2 (show 1 ≤ side ∧ side ≤ 2 by omega)]
    rfl
  rw [placeR_yes hb]
  congr 1
  cases j with
  | zero =>
    have hr : inRow F 0 0 = 0 := by unfold inRow; omega
    refine side_place h hs (q := 0) (by omega) (Nat.zero_div _) (by rw [hr, Nat.zero_mod]) ?_
    show settleS _ 400 0 g 10 (topS (excOf (sideZ g F side)) (max 0 (belowS (excOf (sideZ g F side)) 0 0)) 0) = _
    exact settle_fits (y := 10 * ((0 : Nat) : Int)) (side_fits h hs 0 0 (by omega))
  | succ k =>
    have hd := Nat.div_add_mod k F
    have hm := Nat.mod_lt k hF
    have hst : startS (excOf (sideZ g F side)) (k + 1) 0 0 = 10 * ((k / F : Nat) : Int) := by
      unfold startS
      rw [side_below]
      exact side_top hF side k
    obtain ⟨c1, c2⟩ := (row_step hF (k / F) k).1 rfl
    by_cases hl : k % F + 1 < F
    · have hq : (k + 1) / F = k / F := by
        rw [Nat.div_eq_iff hF]
        rw [Nat.mul_comm] at hd
        omega
      have hmm : (k + 1) % F = k % F + 1 := by
        have := Nat.div_add_mod (k + 1) F
        rw [hq] at this
        omega
      refine side_place h hs (q := k / F) (by omega) hq (by rw [c2, hmm]) ?_
      unfold placeY
      rw [hst]
      exact settle_fits (side_fits h hs (k / F) (k + 1) (by omega))
    · have hfull : k % F + 1 = F := by omega
      have hk1 : k + 1 = (k / F + 1) * F := by rw [Nat.add_mul, Nat.one_mul, Nat.mul_comm]; omega
      have hq : (k + 1) / F = k / F + 1 := by rw [hk1]; exact Nat.mul_div_cancel _ hF
      have hr0 : inRow F (k / F + 1) (k + 1) = 0 := by unfold inRow; omega
      have hm0 : (k + 1) % F = 0 := by rw [hk1]; exact Nat.mul_mod_left _ _
      refine side_place h hs (q := k / F + 1) (by omega) hq (by rw [hr0, hm0]) ?_
      have hany : anyE (excOf (sideZ g F side)) (10 * ((k / F : Nat) : Int)) 10 (k + 1) = true := anyE_yes (k := k) (by omega) (by rw [side_meets]; simp)
      have hno : fitsB (excOf (sideZ g F side)) 400 (k + 1) g 10 (10 * ((k / F : Nat) : Int)) = false := by
        have hmo := h.more
        have hfi := h.fit
        unfold fitsB
        rw [side_band h hs (k / F) (k + 1), c2, hfull, hany]
        rcases hs with rfl | rfl
        · rw [if_neg (by decide)]
          dsimp only
          rw [decide_eq_false (by omega)]; rfl
        · rw [if_pos rfl]
          dsimp only
          rw [decide_eq_false (by omega)]; rfl
      obtain ⟨_, n2, ⟨i, hi, n3⟩, n4⟩ := nextS_is (E := excOf (sideZ g F side)) (y := 10 * ((k / F : Nat) : Int)) (k + 1) (anyE_ends hany)
      have n5 := n4 k (by omega) (by show _ < 10 * ((k / F : Nat) : Int) + 10; omega)
      have e1 : endS (excOf (sideZ g F side) i) = 10 * ((i / F : Nat) : Int) + 10 := rfl
      have e2 : endS (excOf (sideZ g F side) k) = 10 * ((k / F : Nat) : Int) + 10 := rfl
      have hnx : (nextS (excOf (sideZ g F side)) (10 * ((k / F : Nat) : Int)) (k + 1)).1 = 10 * ((k / F + 1 : Nat) : Int) := by omega
      unfold placeY
      rw [hst, settle_not hno, hnx]
      exact settle_fits (side_fits h hs (k / F + 1) (k + 1) (by omega))
end Go.Proofs.Ytkdidhhilcamkaa
