/- Layer 7: the last line is not spread. -/
import Derived.Test.YtkapmnbkmljpkaeLaws7
namespace Go.Proofs.Ytkapmnbkmljpkae
open Go.RowKit
set_option linter.unusedSimpArgs false
set_option linter.unusedVariables false
set_option maxHeartbeats 1000000 in
theorem alignLast_walk (a b c : Int) (w : World) :
    Calls Try.prog 7 #[.int .i64 a, .int .i64 b, .int .i64 c] w fun e w' => e = .returned (.bool true) ∧ Kept w w' := by
  obtain ⟨h, hh, h1, h2⟩ := masked a 2 3 (by decide) (by decide)
  obtain ⟨r, hr, r1, r2⟩ := masked b 16 65535 (by decide) (by decide)
  obtain ⟨k, hk', k1, k2⟩ := masked c 5 31 (by decide) (by decide)
  obtain ⟨n, rfl⟩ := Int.eq_ofNat_of_zero_le k1
  have m1 := almB_in (how := 3) (room := r) (adv := 5) (by omega) (by omega) (by omega)
  have m2 := almB_in (how := h) (room := r) (adv := r) (by omega) (by omega) (by omega)
  have e1 := sprE_ok (gaps := n) m1 (by omega)
  have e2 := sprE_ok (gaps := n) m2 (by omega)
  have e3 : offS h r r = (0, 0) := by
    rw [offS_ok m2, show leftS r r = 0 from if_neg (by omega)]; simp
  have z1 : ∀ w w' v, NewInts w w' v (sprXs 3 r 5 n true) → Zeros w' v n := fun w w' v hv => Zeros.of hv (by rw [sprXs_ok m1 (by omega), spreadXs_len]) (fun j hj => by rw [sprXs_ok m1 (by omega)]; exact zeros_of _ _ _ _ _ (.inr (.inl rfl)) j hj)
  have z2 : ∀ w w' v, NewInts w w' v (sprXs h r r n false) → Zeros w' v n := fun w w' v hv => Zeros.of hv (by rw [sprXs_ok m2 (by omega), spreadXs_len]) (fun j hj => by rw [sprXs_ok m2 (by omega)]; exact zeros_of _ _ _ _ _ (.inr (.inr (Int.le_refl _))) j hj)
  have Z1 := Lib.hid z1
  have Z2 := Lib.hid z2
  clear z1 z2 m1 m2
  have hk : Kept w w := Kept.refl w
  go_enter Try.func7, Try.ntmps7
  go_wp2_with fail
  refine (awake7_any _).mono ?_
  rintro e w1 ⟨rfl, hn⟩
  replace hk := hk.trans hn
  clear hn
  go_wp2_with fail
  refine (spread_any _ _ _ _ _ _).mono ?_
  rintro e w1 ⟨v, rfl, hv, hn⟩
  replace hk := hk.trans hn
  clear hn
  have hz := Z1.out _ _ _ hv
  clear hv
  go_wp2_with fail
  refine (spread_any _ _ _ _ _ _).mono ?_
  rintro e w1 ⟨u, rfl, hu, hn⟩
  replace hk := hk.trans hn
  replace hz := hz.kept hn
  have hy := Z2.out _ _ _ hu
  clear hu hn
  go_wp2_with fail
  refine (alignOffset_any _ _ _ _).mono ?_
  rintro e w1 ⟨rfl, hn⟩
  replace hk := hk.trans hn
  replace hz := hz.kept hn
  replace hy := hy.kept hn
  clear hn
  obtain ⟨A, ca, rfl, ha⟩ := hz.row
  obtain ⟨B, cb, rfl, hb⟩ := hy.row
  clear hz hy
  go_wp2
  go_loopw [15] (fun i wx => ∃ j : Nat, j ≤ n ∧ i = .int .i64 j ∧ wx = w1) (fun i _ => n - (intOf i).toNat)
  case atStart => exact ⟨0, Nat.zero_le _, rfl, rfl⟩
  case round =>
    obtain ⟨j, hj, rfl, rfl⟩ := hrel
    by_cases hlt : j < n
    · obtain ⟨g1, rfl, _, c1⟩ := ha j hlt
      obtain ⟨g2, rfl, _, c2⟩ := hb j hlt
      have hi0 : (0 : Int) ≤ (j : Int) := Int.natCast_nonneg _
      have hi1 : (j : Int) < (n : Int) := by omega
      clear ha hb
      go_wp2
      go_roundw
      case rel => exact ⟨j + 1, by omega, by go_num, trivial⟩
      case measure => simp [intOf]; omega
    · obtain rfl : j = n := by omega
      clear ha hb
      go_wp2_with (first
        | (go_at_call 12; refine (num_any _ _).mono ?_; rintro e w1 ⟨rfl, rfl⟩)
        | fail)
      go_ret
      exact ⟨rfl, (by first | ((repeat (first | with_reducible exact hk | with_reducible refine Kept.alloc ?_ _ | with_reducible refine Kept.drew ?_ | with_reducible refine Kept.drewN ?_ _ | with_reducible refine Kept.set ?_ (by first | (simp; done) | (simp; omega) | omega) _)); done) | exact hk | exact (hk.alloc _) | exact ((hk.alloc _).alloc _) | exact (((hk.alloc _).alloc _).alloc _) | exact ((((hk.alloc _).alloc _).alloc _).alloc _) | exact (((((hk.alloc _).alloc _).alloc _).alloc _).alloc _) | exact ((((((hk.alloc _).alloc _).alloc _).alloc _).alloc _).alloc _) | (repeat (first | exact hk | refine Kept.alloc ?_ _ | refine Kept.drew ?_ | refine Kept.drewN ?_ _ | refine Kept.set ?_ (by first | (simp; done) | (simp; omega) | omega) _)))⟩
end Go.Proofs.Ytkapmnbkmljpkae
