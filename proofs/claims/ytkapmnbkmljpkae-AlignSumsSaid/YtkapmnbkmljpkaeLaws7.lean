/- Layer 7: the walks of the statements. -/
import Derived.Test.YtkapmnbkmljpkaeAwake7
import Derived.Test.YtkapmnbkmljpkaeMask
namespace Go.Proofs.Ytkapmnbkmljpkae
open Go.RowKit
set_option linter.unusedSimpArgs false
set_option linter.unusedVariables false
theorem sprXs_len_le (how room adv gaps : Int) (last : Bool) : (sprXs how room adv gaps last).length ≤ 4611686018427387904 := by
  unfold sprXs
  split
  · rename_i h
    unfold sprB at h
    rw [Bool.and_eq_true, inB_true] at h
    rw [spreadXs_len]
    omega
  · simp
theorem aligns_walk (how room adv gaps : Int) (last : Bool) (w : World) :
    Calls Try.prog 3 #[.int .i64 how, .int .i64 room, .int .i64 adv, .int .i64 gaps, .bool last] w fun e w' => e = .returned (.bool true) ∧ Kept w w' := by
  have hl := sprXs_len_le how room adv gaps last
  have hk : Kept w w := Kept.refl w
  go_enter Try.func3, Try.ntmps3
  go_wp2_with fail
  refine (alignOffset_any _ _ _ _).mono ?_
  rintro e w1 ⟨rfl, hn⟩
  replace hk := hk.trans hn
  clear hn
  go_wp2_with fail
  refine (refOffset_any _ _ _ _).mono ?_
  rintro e w1 ⟨rfl, hn⟩
  replace hk := hk.trans hn
  clear hn
  go_wp2_with fail
  refine (spread_any _ _ _ _ _ _).mono ?_
  rintro e w1 ⟨v, rfl, hv, hn⟩
  replace hk := hk.trans hn
  clear hn
  go_wp2_with fail
  refine (refSpread_any _ _ _ _ _ _).mono ?_
  rintro e w1 ⟨u, rfl, hu, hn⟩
  replace hk := hk.trans hn
  replace hv := hv.kept hn
  clear hn
  generalize offS how room adv = E at *
  generalize sprE how room adv gaps = D at *
  generalize sprXs how room adv gaps last = xs at *
  go_wp2_with fail
  refine (num_any _ _).mono ?_
  rintro e w1 ⟨rfl, rfl⟩
  go_wp2_with fail
  refine (sameInts_yes hv hu hl).mono ?_
  rintro e w1 ⟨rfl, hn⟩
  replace hk := hk.trans hn
  replace hv := hv.kept hn
  replace hu := hu.kept hn
  clear hn
  go_wp2_with fail
  refine (num_any _ _).mono ?_
  rintro e w1 ⟨rfl, rfl⟩
  go_wp2_with fail
  refine (awake7_any _).mono ?_
  rintro e w1 ⟨rfl, hn⟩
  replace hk := hk.trans hn
  replace hv := hv.kept hn
  replace hu := hu.kept hn
  clear hn
  go_wp2
  go_ret
  exact ⟨rfl, (by first | ((repeat (first | with_reducible exact hk | with_reducible refine Kept.alloc ?_ _ | with_reducible refine Kept.drew ?_ | with_reducible refine Kept.drewN ?_ _ | with_reducible refine Kept.set ?_ (by first | (simp; done) | (simp; omega) | omega) _)); done) | exact hk | exact (hk.alloc _) | exact ((hk.alloc _).alloc _) | exact (((hk.alloc _).alloc _).alloc _) | exact ((((hk.alloc _).alloc _).alloc _).alloc _) | exact (((((hk.alloc _).alloc _).alloc _).alloc _).alloc _) | exact ((((((hk.alloc _).alloc _).alloc _).alloc _).alloc _).alloc _) | (repeat (first | exact hk | refine Kept.alloc ?_ _ | refine Kept.drew ?_ | refine Kept.drewN ?_ _ | refine Kept.set ?_ (by first | (simp; done) | (simp; omega) | omega) _)))⟩
theorem almB_in {how room adv : Int} (h : 0 ≤ how ∧ how ≤ 3) (h1 : 0 ≤ room ∧ room ≤ 1073741824) (h2 : 0 ≤ adv ∧ adv ≤ 1073741824) : almB how room adv = true := almB_true.2 ⟨h, h1, h2⟩
theorem sprE_ok {how room adv gaps : Int} (h : almB how room adv = true) (h2 : 0 ≤ gaps ∧ gaps ≤ 80) : sprE how room adv gaps = 0 := by
  unfold sprE sprB; rw [h, inB_true.2 h2]; rfl
theorem sprXs_ok {how room adv : Int} {n : Nat} {last : Bool} (h : almB how room adv = true) (h2 : n ≤ 80) : sprXs how room adv n last = spreadXs how room adv n last := by
  unfold sprXs sprB; rw [h, inB_true.2 ⟨by omega, by omega⟩]; simp
theorem offS_ok {how room adv : Int} (h : almB how room adv = true) : offS how room adv = ((if how = 1 then leftS room adv else if how = 2 then leftS room adv / 2 else 0), 0) := if_pos h
/-- a row of zeros -/
structure Zeros (w : World) (v : Value) (n : Nat) : Prop where
  row : ∃ A cap, v = .slice A n cap ∧ ∀ j, j < n → ∃ g, A = some ⟨g, 0, none⟩ ∧ g < w.heap.size ∧ w.cell? ⟨g, j, none⟩ = some (.int .i64 0)
theorem Zeros.kept {w w' : World} {v : Value} {n : Nat} (h : Zeros w v n) (k : Kept w w') : Zeros w' v n := by
  obtain ⟨A, cap, hv, hc⟩ := h.row
  refine ⟨A, cap, hv, fun j hj => ?_⟩
  obtain ⟨g, hA, hl, hx⟩ := hc j hj
  exact ⟨g, hA, Nat.lt_of_lt_of_le hl k.size, (k.cell hl).trans hx⟩
theorem Zeros.of {w w' : World} {v : Value} {xs : List Int} {n : Nat} (h : NewInts w w' v xs) (hl : xs.length = n) (h0 : ∀ j, j < n → xs.getD j 0 = 0) : Zeros w' v n := by
  subst hl
  rcases h with ⟨hv, rfl⟩ | ⟨g, cap, hv, _, hl, hc⟩
  · exact ⟨none, 0, hv, fun j hj => by simp at hj⟩
  · refine ⟨_, cap, hv, fun j hj => ⟨g, rfl, hl, ?_⟩⟩
    have := hc j hj
    rwa [Nat.zero_add, h0 j hj] at this
theorem zeros_of (how room adv : Int) (n : Nat) (last : Bool) (h : how ≠ 3 ∨ last = true ∨ room ≤ adv) (j : Nat) (hj : j < n) : (spreadXs how room adv n last).getD j 0 = 0 := by
  unfold spreadXs
  by_cases h3 : how = 3 ∧ last = false
  · obtain ⟨rfl, rfl⟩ := h3
    have hl : leftS room adv = 0 := if_neg (by simp at h; omega)
    rw [if_pos ⟨rfl, rfl⟩, hl]
    simp [List.getD_eq_getElem?_getD, hj, spreadAt]
    try omega
  · rw [if_neg h3]; simp [List.getD_eq_getElem?_getD, hj]
end Go.Proofs.Ytkapmnbkmljpkae
