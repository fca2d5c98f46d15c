/- Layer 7: each where it should be. -/
import Derived.Test.YtkapmnbkmljpkaeLaws7
namespace Go.Proofs.Ytkapmnbkmljpkae
open Go.RowKit
set_option linter.unusedSimpArgs false
set_option linter.unusedVariables false
set_option maxHeartbeats 2000000 in
theorem alignSides_lt (a b c r x : Int) (n : Nat) (hr : bits .and .i64 a 65535 = r) (r1 : 0 ≤ r) (r2 : r ≤ 65535) (hx : bits .and .i64 b 65535 = x) (x1 : 0 ≤ x) (x2 : x ≤ 65535)
    (hn : bits .and .i64 c 15 = (n : Int)) (n2 : n ≤ 15) (h4 : r < x) (w : World) :
    Calls Try.prog 6 #[.int .i64 a, .int .i64 b, .int .i64 c] w fun e w' => e = .returned (.bool true) ∧ Kept w w' := by
  have hl : leftS r x = 0 := if_neg (by omega)
  have m0 := almB_in (how := 0) (room := r) (adv := x) (by omega) (by omega) (by omega)
  have m1 := almB_in (how := 1) (room := r) (adv := x) (by omega) (by omega) (by omega)
  have m2 := almB_in (how := 2) (room := r) (adv := x) (by omega) (by omega) (by omega)
  have m3 := almB_in (how := 3) (room := r) (adv := x) (by omega) (by omega) (by omega)
  have e0 : offS 0 r x = (0, 0) := by rw [offS_ok m0]; rfl
  have e1 : offS 1 r x = (0, 0) := by rw [offS_ok m1, hl]; rfl
  obtain ⟨q, hq⟩ : ∃ q : Int, ((0) : Int) / 2 = q := ⟨_, rfl⟩
  have e2 : offS 2 r x = (q, 0) := by rw [offS_ok m2, hl, ← hq]; rfl
  have e3 : offS 3 r x = (0, 0) := by rw [offS_ok m3]; rfl
  have e4 := sprE_ok (gaps := n) m2 (by omega)
  have z1 : ∀ w w' v, NewInts w w' v (sprXs 2 r x n false) → Zeros w' v n := fun w w' v hv => Zeros.of hv (by rw [sprXs_ok m2 (by omega), spreadXs_len]) (fun j hj => by rw [sprXs_ok m2 (by omega)]; exact zeros_of _ _ _ _ _ (.inl (by decide)) j hj)
  have Z1 := Lib.hid z1
  clear z1 m0 m1 m2 m3 hl
  obtain rfl : q = 0 := by omega
  clear hq
  have hk : Kept w w := Kept.refl w
  go_enter Try.func6, Try.ntmps6
  go_wp2_with fail
  refine (awake7_any _).mono ?_
  rintro e w1 ⟨rfl, hn⟩
  replace hk := hk.trans hn
  clear hn
  go_wp2_with fail
  refine (alignOffset_any _ _ _ _).mono ?_
  rintro e w1 ⟨rfl, hn⟩
  replace hk := hk.trans hn
  clear hn
  go_wp2_with fail
  refine (alignOffset_any _ _ _ _).mono ?_
  rintro e w1 ⟨rfl, hn⟩
  replace hk := hk.trans hn
  clear hn
  go_wp2_with fail
  refine (alignOffset_any _ _ _ _).mono ?_
  rintro e w1 ⟨rfl, hn⟩
  replace hk := hk.trans hn
  clear hn
  go_wp2_with fail
  refine (alignOffset_any _ _ _ _).mono ?_
  rintro e w1 ⟨rfl, hn⟩
  replace hk := hk.trans hn
  clear hn
  go_wp2_with fail
  refine (spread_any _ _ _ _ _ _).mono ?_
  rintro e w1 ⟨v, rfl, hv, hn⟩
  replace hk := hk.trans hn
  clear hn
  have hz := Z1.out _ _ _ hv
  clear hv
  obtain ⟨A, ca, rfl, ha⟩ := hz.row
  clear hz
  go_wp2
  go_loopw [21] (fun i wx => ∃ j : Nat, j ≤ n ∧ i = .int .i64 j ∧ wx = w1) (fun i _ => n - (intOf i).toNat)
  case atStart => exact ⟨0, Nat.zero_le _, rfl, rfl⟩
  case round =>
    obtain ⟨j, hj, rfl, rfl⟩ := hrel
    by_cases hlt : j < n
    · obtain ⟨g1, rfl, _, c1⟩ := ha j hlt
      have hi0 : (0 : Int) ≤ (j : Int) := Int.natCast_nonneg _
      have hi1 : (j : Int) < (n : Int) := by omega
      clear ha
      go_wp2
      go_roundw
      case rel => exact ⟨j + 1, by omega, by go_num, trivial⟩
      case measure => simp [intOf]; omega
    · obtain rfl : j = n := by omega
      clear ha
      go_wp2_with (first
        | (go_at_call 12; refine (num_any _ _).mono ?_; rintro e w1 ⟨rfl, rfl⟩)
        | fail)
      go_ret
      exact ⟨rfl, (by first | ((repeat (first | with_reducible exact hk | with_reducible refine Kept.alloc ?_ _ | with_reducible refine Kept.drew ?_ | with_reducible refine Kept.drewN ?_ _ | with_reducible refine Kept.set ?_ (by first | (simp; done) | (simp; omega) | omega) _)); done) | exact hk | exact (hk.alloc _) | exact ((hk.alloc _).alloc _) | exact (((hk.alloc _).alloc _).alloc _) | exact ((((hk.alloc _).alloc _).alloc _).alloc _) | exact (((((hk.alloc _).alloc _).alloc _).alloc _).alloc _) | exact ((((((hk.alloc _).alloc _).alloc _).alloc _).alloc _).alloc _) | (repeat (first | exact hk | refine Kept.alloc ?_ _ | refine Kept.drew ?_ | refine Kept.drewN ?_ _ | refine Kept.set ?_ (by first | (simp; done) | (simp; omega) | omega) _)))⟩
set_option maxHeartbeats 2000000 in
theorem alignSides_eq (a b c r x : Int) (n : Nat) (hr : bits .and .i64 a 65535 = r) (r1 : 0 ≤ r) (r2 : r ≤ 65535) (hx : bits .and .i64 b 65535 = x) (x1 : 0 ≤ x) (x2 : x ≤ 65535)
    (hn : bits .and .i64 c 15 = (n : Int)) (n2 : n ≤ 15) (h4 : r = x) (w : World) :
    Calls Try.prog 6 #[.int .i64 a, .int .i64 b, .int .i64 c] w fun e w' => e = .returned (.bool true) ∧ Kept w w' := by
  subst h4
  have hl : leftS r r = 0 := if_neg (by omega)
  have m0 := almB_in (how := 0) (room := r) (adv := r) (by omega) (by omega) (by omega)
  have m1 := almB_in (how := 1) (room := r) (adv := r) (by omega) (by omega) (by omega)
  have m2 := almB_in (how := 2) (room := r) (adv := r) (by omega) (by omega) (by omega)
  have m3 := almB_in (how := 3) (room := r) (adv := r) (by omega) (by omega) (by omega)
  have e0 : offS 0 r r = (0, 0) := by rw [offS_ok m0]; rfl
  have e1 : offS 1 r r = (0, 0) := by rw [offS_ok m1, hl]; rfl
  obtain ⟨q, hq⟩ : ∃ q : Int, ((0) : Int) / 2 = q := ⟨_, rfl⟩
  have e2 : offS 2 r r = (q, 0) := by rw [offS_ok m2, hl, ← hq]; rfl
  have e3 : offS 3 r r = (0, 0) := by rw [offS_ok m3]; rfl
  have e4 := sprE_ok (gaps := n) m2 (by omega)
  have z1 : ∀ w w' v, NewInts w w' v (sprXs 2 r r n false) → Zeros w' v n := fun w w' v hv => Zeros.of hv (by rw [sprXs_ok m2 (by omega), spreadXs_len]) (fun j hj => by rw [sprXs_ok m2 (by omega)]; exact zeros_of _ _ _ _ _ (.inl (by decide)) j hj)
  have Z1 := Lib.hid z1
  clear z1 m0 m1 m2 m3 hl
  obtain rfl : q = 0 := by omega
  clear hq
  have hk : Kept w w := Kept.refl w
  go_enter Try.func6, Try.ntmps6
  go_wp2_with fail
  refine (awake7_any _).mono ?_
  rintro e w1 ⟨rfl, hn⟩
  replace hk := hk.trans hn
  clear hn
  go_wp2_with fail
  refine (alignOffset_any _ _ _ _).mono ?_
  rintro e w1 ⟨rfl, hn⟩
  replace hk := hk.trans hn
  clear hn
  go_wp2_with fail
  refine (alignOffset_any _ _ _ _).mono ?_
  rintro e w1 ⟨rfl, hn⟩
  replace hk := hk.trans hn
  clear hn
  go_wp2_with fail
  refine (alignOffset_any _ _ _ _).mono ?_
  rintro e w1 ⟨rfl, hn⟩
  replace hk := hk.trans hn
  clear hn
  go_wp2_with fail
  refine (alignOffset_any _ _ _ _).mono ?_
  rintro e w1 ⟨rfl, hn⟩
  replace hk := hk.trans hn
  clear hn
  go_wp2_with fail
  refine (spread_any _ _ _ _ _ _).mono ?_
  rintro e w1 ⟨v, rfl, hv, hn⟩
  replace hk := hk.trans hn
  clear hn
  have hz := Z1.out _ _ _ hv
  clear hv
  obtain ⟨A, ca, rfl, ha⟩ := hz.row
  clear hz
  go_wp2
  go_loopw [21] (fun i wx => ∃ j : Nat, j ≤ n ∧ i = .int .i64 j ∧ wx = w1) (fun i _ => n - (intOf i).toNat)
  case atStart => exact ⟨0, Nat.zero_le _, rfl, rfl⟩
  case round =>
    obtain ⟨j, hj, rfl, rfl⟩ := hrel
    by_cases hlt : j < n
    · obtain ⟨g1, rfl, _, c1⟩ := ha j hlt
      have hi0 : (0 : Int) ≤ (j : Int) := Int.natCast_nonneg _
      have hi1 : (j : Int) < (n : Int) := by omega
      clear ha
      go_wp2
      go_roundw
      case rel => exact ⟨j + 1, by omega, by go_num, trivial⟩
      case measure => simp [intOf]; omega
    · obtain rfl : j = n := by omega
      clear ha
      go_wp2_with (first
        | (go_at_call 12; refine (num_any _ _).mono ?_; rintro e w1 ⟨rfl, rfl⟩)
        | fail)
      go_ret
      exact ⟨rfl, (by first | ((repeat (first | with_reducible exact hk | with_reducible refine Kept.alloc ?_ _ | with_reducible refine Kept.drew ?_ | with_reducible refine Kept.drewN ?_ _ | with_reducible refine Kept.set ?_ (by first | (simp; done) | (simp; omega) | omega) _)); done) | exact hk | exact (hk.alloc _) | exact ((hk.alloc _).alloc _) | exact (((hk.alloc _).alloc _).alloc _) | exact ((((hk.alloc _).alloc _).alloc _).alloc _) | exact (((((hk.alloc _).alloc _).alloc _).alloc _).alloc _) | exact ((((((hk.alloc _).alloc _).alloc _).alloc _).alloc _).alloc _) | (repeat (first | exact hk | refine Kept.alloc ?_ _ | refine Kept.drew ?_ | refine Kept.drewN ?_ _ | refine Kept.set ?_ (by first | (simp; done) | (simp; omega) | omega) _)))⟩
set_option maxHeartbeats 2000000 in
theorem alignSides_gt (a b c r x : Int) (n : Nat) (hr : bits .and .i64 a 65535 = r) (r1 : 0 ≤ r) (r2 : r ≤ 65535) (hx : bits .and .i64 b 65535 = x) (x1 : 0 ≤ x) (x2 : x ≤ 65535)
    (hn : bits .and .i64 c 15 = (n : Int)) (n2 : n ≤ 15) (h4 : x < r) (w : World) :
    Calls Try.prog 6 #[.int .i64 a, .int .i64 b, .int .i64 c] w fun e w' => e = .returned (.bool true) ∧ Kept w w' := by
  have hl : leftS r x = r - x := if_pos h4
  have m0 := almB_in (how := 0) (room := r) (adv := x) (by omega) (by omega) (by omega)
  have m1 := almB_in (how := 1) (room := r) (adv := x) (by omega) (by omega) (by omega)
  have m2 := almB_in (how := 2) (room := r) (adv := x) (by omega) (by omega) (by omega)
  have m3 := almB_in (how := 3) (room := r) (adv := x) (by omega) (by omega) (by omega)
  have e0 : offS 0 r x = (0, 0) := by rw [offS_ok m0]; rfl
  have e1 : offS 1 r x = (r - x, 0) := by rw [offS_ok m1, hl]; rfl
  obtain ⟨q, hq⟩ : ∃ q : Int, ((r - x) : Int) / 2 = q := ⟨_, rfl⟩
  have e2 : offS 2 r x = (q, 0) := by rw [offS_ok m2, hl, ← hq]; rfl
  have e3 : offS 3 r x = (0, 0) := by rw [offS_ok m3]; rfl
  have e4 := sprE_ok (gaps := n) m2 (by omega)
  have z1 : ∀ w w' v, NewInts w w' v (sprXs 2 r x n false) → Zeros w' v n := fun w w' v hv => Zeros.of hv (by rw [sprXs_ok m2 (by omega), spreadXs_len]) (fun j hj => by rw [sprXs_ok m2 (by omega)]; exact zeros_of _ _ _ _ _ (.inl (by decide)) j hj)
  have Z1 := Lib.hid z1
  clear z1 m0 m1 m2 m3 hl
  have q2 : 0 ≤ q := by omega
  have q3 : q ≤ 65535 := by omega
  have q1 : 2 * q = r - x ∨ 2 * q = r - x - 1 := by omega
  clear hq
  have hk : Kept w w := Kept.refl w
  go_enter Try.func6, Try.ntmps6
  go_wp2_with fail
  refine (awake7_any _).mono ?_
  rintro e w1 ⟨rfl, hn⟩
  replace hk := hk.trans hn
  clear hn
  go_wp2_with fail
  refine (alignOffset_any _ _ _ _).mono ?_
  rintro e w1 ⟨rfl, hn⟩
  replace hk := hk.trans hn
  clear hn
  go_wp2_with fail
  refine (alignOffset_any _ _ _ _).mono ?_
  rintro e w1 ⟨rfl, hn⟩
  replace hk := hk.trans hn
  clear hn
  go_wp2_with fail
  refine (alignOffset_any _ _ _ _).mono ?_
  rintro e w1 ⟨rfl, hn⟩
  replace hk := hk.trans hn
  clear hn
  go_wp2_with fail
  refine (alignOffset_any _ _ _ _).mono ?_
  rintro e w1 ⟨rfl, hn⟩
  replace hk := hk.trans hn
  clear hn
  go_wp2_with fail
  refine (spread_any _ _ _ _ _ _).mono ?_
  rintro e w1 ⟨v, rfl, hv, hn⟩
  replace hk := hk.trans hn
  clear hn
  have hz := Z1.out _ _ _ hv
  clear hv
  obtain ⟨A, ca, rfl, ha⟩ := hz.row
  clear hz
  go_wp2
  go_loopw [21] (fun i wx => ∃ j : Nat, j ≤ n ∧ i = .int .i64 j ∧ wx = w1) (fun i _ => n - (intOf i).toNat)
  case atStart => exact ⟨0, Nat.zero_le _, rfl, rfl⟩
  case round =>
    obtain ⟨j, hj, rfl, rfl⟩ := hrel
    by_cases hlt : j < n
    · obtain ⟨g1, rfl, _, c1⟩ := ha j hlt
      have hi0 : (0 : Int) ≤ (j : Int) := Int.natCast_nonneg _
      have hi1 : (j : Int) < (n : Int) := by omega
      clear ha
      go_wp2
      go_roundw
      case rel => exact ⟨j + 1, by omega, by go_num, trivial⟩
      case measure => simp [intOf]; omega
    · obtain rfl : j = n := by omega
      clear ha
      rcases q1 with q1 | q1
      · have b1 : (2 * q == r - x) = true := by simp [q1]
        clear q1
        go_wp2_with (first
          | (go_at_call 12; refine (num_any _ _).mono ?_; rintro e w1 ⟨rfl, rfl⟩)
          | fail)
        go_ret
        exact ⟨rfl, (by first | ((repeat (first | with_reducible exact hk | with_reducible refine Kept.alloc ?_ _ | with_reducible refine Kept.drew ?_ | with_reducible refine Kept.drewN ?_ _ | with_reducible refine Kept.set ?_ (by first | (simp; done) | (simp; omega) | omega) _)); done) | exact hk | exact (hk.alloc _) | exact ((hk.alloc _).alloc _) | exact (((hk.alloc _).alloc _).alloc _) | exact ((((hk.alloc _).alloc _).alloc _).alloc _) | exact (((((hk.alloc _).alloc _).alloc _).alloc _).alloc _) | exact ((((((hk.alloc _).alloc _).alloc _).alloc _).alloc _).alloc _) | (repeat (first | exact hk | refine Kept.alloc ?_ _ | refine Kept.drew ?_ | refine Kept.drewN ?_ _ | refine Kept.set ?_ (by first | (simp; done) | (simp; omega) | omega) _)))⟩
      · have b1 : (2 * q == r - x) = false := by simp [q1]; omega
        have b2 : (2 * q == r - x - 1) = true := by simp [q1]
        clear q1
        go_wp2_with (first
          | (go_at_call 12; refine (num_any _ _).mono ?_; rintro e w1 ⟨rfl, rfl⟩)
          | fail)
        go_ret
        exact ⟨rfl, (by first | ((repeat (first | with_reducible exact hk | with_reducible refine Kept.alloc ?_ _ | with_reducible refine Kept.drew ?_ | with_reducible refine Kept.drewN ?_ _ | with_reducible refine Kept.set ?_ (by first | (simp; done) | (simp; omega) | omega) _)); done) | exact hk | exact (hk.alloc _) | exact ((hk.alloc _).alloc _) | exact (((hk.alloc _).alloc _).alloc _) | exact ((((hk.alloc _).alloc _).alloc _).alloc _) | exact (((((hk.alloc _).alloc _).alloc _).alloc _).alloc _) | exact ((((((hk.alloc _).alloc _).alloc _).alloc _).alloc _).alloc _) | (repeat (first | exact hk | refine Kept.alloc ?_ _ | refine Kept.drew ?_ | refine Kept.drewN ?_ _ | refine Kept.set ?_ (by first | (simp; done) | (simp; omega) | omega) _)))⟩
theorem alignSides_walk (a b c : Int) (w : World) :
    Calls Try.prog 6 #[.int .i64 a, .int .i64 b, .int .i64 c] w fun e w' => e = .returned (.bool true) ∧ Kept w w' := by
  obtain ⟨r, hr, r1, r2⟩ := masked a 16 65535 (by decide) (by decide)
  obtain ⟨x, hx, x1, x2⟩ := masked b 16 65535 (by decide) (by decide)
  obtain ⟨k, hn, k1, k2⟩ := masked c 4 15 (by decide) (by decide)
  obtain ⟨n, rfl⟩ := Int.eq_ofNat_of_zero_le k1
  rcases Int.lt_trichotomy r x with h4 | h4 | h4
  · exact alignSides_lt a b c r x n hr r1 r2 hx x1 x2 hn (by omega) h4 w
  · exact alignSides_eq a b c r x n hr r1 r2 hx x1 x2 hn (by omega) h4 w
  · exact alignSides_gt a b c r x n hr r1 r2 hx x1 x2 hn (by omega) h4 w
end Go.Proofs.Ytkapmnbkmljpkae
