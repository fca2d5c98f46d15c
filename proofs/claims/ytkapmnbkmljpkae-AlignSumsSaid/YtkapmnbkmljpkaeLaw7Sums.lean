/- Layer 7: what is spread is all that is left. -/
import Derived.Test.YtkapmnbkmljpkaeLaws7
import Derived.IntWalk
import Derived.Deep.QuietTactic
import Derived.BigQuiet
namespace Go.Proofs.Ytkapmnbkmljpkae
open Go.RowKit
set_option linter.unusedSimpArgs false
set_option linter.unusedVariables false
def spSum (q t : Int) (k : Nat) : Int := k * q + (if (k : Int) < t then (k : Int) else t)
def spOne (q t : Int) (k : Nat) : Int := q + (if (k : Int) < t then 1 else 0)
theorem spSum_zero {q t : Int} (ht : 0 ≤ t) : spSum q t 0 = 0 := by unfold spSum; simp; omega
theorem spSum_succ {q t : Int} (k : Nat) : spSum q t (k + 1) = spSum q t k + spOne q t k := by
  unfold spSum spOne
  rw [Int.natCast_add, Int.add_mul]
  simp only [Int.natCast_one, Int.one_mul]
  split <;> split <;> omega
theorem spSum_bd {q t : Int} {k : Nat} (hq : 0 ≤ q) (hq2 : q ≤ 65535) (hk : k ≤ 32) (ht : 0 ≤ t) (ht2 : t ≤ 32) : 0 ≤ spSum q t k ∧ spSum q t k ≤ 2097184 := by
  unfold spSum
  have h1 : (k : Int) * q ≤ 32 * 65535 := Int.mul_le_mul (by omega) hq2 hq (by omega)
  have h2 : 0 ≤ (k : Int) * q := Int.mul_nonneg (by omega) hq
  split <;> omega
theorem spSum_all {l : Int} {n : Nat} (hn : 1 ≤ n) (hl : 0 ≤ l) : spSum (l / n) (l % n) n = l := by
  unfold spSum
  have h1 := Int.emod_lt_of_pos l (show (0 : Int) < n by omega)
  have h2 := Int.mul_ediv_add_emod l n
  rw [if_neg (by omega)]
  exact h2
/-- a row of what is spread -/
structure Spr (w : World) (v : Value) (n : Nat) (q t : Int) : Prop where
  row : ∃ g cap, v = .slice (some ⟨g, 0, none⟩) n cap ∧ g < w.heap.size ∧ ∀ j, j < n → w.cell? ⟨g, j, none⟩ = some (.int .i64 (spOne q t j))
theorem Spr.of {w w' : World} {v : Value} {r a : Int} {n : Nat} (h : NewInts w w' v (sprXs 3 r a n false)) (m : almB 3 r a = true) (h1 : 1 ≤ n) (h2 : n ≤ 80) : Spr w' v n (leftS r a / n) (leftS r a % n) := by
  rw [sprXs_ok m h2] at h
  have hl := spreadXs_len 3 r a n false
  rcases h with ⟨_, h0⟩ | ⟨g, cap, hv, _, hg, hc⟩
  · rw [h0] at hl; simp at hl; omega
  · rw [hl] at hv
    refine ⟨g, cap, hv, hg, fun j hj => ?_⟩
    have := hc j (by omega)
    rwa [Nat.zero_add, spread_row rfl j hj] at this
theorem offS_bd {h r a : Int} (m : almB h r a = true) (hl : 0 ≤ leftS r a) : ∃ x, offS h r a = (x, 0) ∧ 0 ≤ x ∧ x ≤ leftS r a := by
  rw [offS_ok m]
  refine ⟨_, rfl, ?_⟩
  split
  · omega
  · split <;> omega
set_option maxHeartbeats 2000000 in
theorem alignSums_lt (a b c d r x h : Int) (n : Nat) (hr : bits .and .i64 a 65535 = r) (r1 : 0 ≤ r) (r2 : r ≤ 65535) (hx : bits .and .i64 b 65535 = x) (x1 : 0 ≤ x) (x2 : x ≤ 65535)
    (hn : bits .and .i64 c 31 = (n : Int)) (n2 : n ≤ 31) (hh : bits .and .i64 d 3 = h) (h1 : 0 ≤ h) (h2 : h ≤ 3) (h4 : r < x) (w : World) :
    Calls Try.prog 4 #[.int .i64 a, .int .i64 b, .int .i64 c, .int .i64 d] w fun e w' => e = .returned (.bool true) ∧ Kept w w' := by
  have hl : leftS r x = 0 := if_neg (by omega)
  have m3 := almB_in (how := 3) (room := r) (adv := x) (by omega) (by omega) (by omega)
  have mh := almB_in (how := h) (room := r) (adv := x) (by omega) (by omega) (by omega)
  obtain ⟨y, ey, y1, y2⟩ := offS_bd mh (by omega)
  have e4 := sprE_ok (gaps := ((n + 1 : Nat) : Int)) m3 (by omega)
  have hz : ∀ w w' v, NewInts w w' v (sprXs 3 r x ((n + 1 : Nat) : Int) false) → Spr w' v (n + 1) (leftS r x / ((n + 1 : Nat) : Int)) (leftS r x % ((n + 1 : Nat) : Int)) := fun w w' v hv => Spr.of hv m3 (by omega) (by omega)
  rw [hl] at y2 hz
  have hall := spSum_all (l := (0 : Int)) (n := n + 1) (by omega) (by omega)
  have q1 : 0 ≤ ((0 : Int)) / ((n + 1 : Nat) : Int) := Int.ediv_nonneg (by omega) (by omega)
  have q2 : ((0 : Int)) / ((n + 1 : Nat) : Int) ≤ (0 : Int) := Int.ediv_le_self _ (by omega)
  have t1 := Int.emod_nonneg ((0 : Int)) (show ((n + 1 : Nat) : Int) ≠ 0 by omega)
  have t2 := Int.emod_lt_of_pos ((0 : Int)) (show (0 : Int) < ((n + 1 : Nat) : Int) by omega)
  generalize ((0 : Int)) / ((n + 1 : Nat) : Int) = q at *
  generalize ((0 : Int)) % ((n + 1 : Nat) : Int) = t at *
  have hsum : (1 : Int) + (n : Int) = ((n + 1 : Nat) : Int) := by omega
  generalize hN : n + 1 = N at *
  have N1 : 1 ≤ N := by omega
  have N2 : N ≤ 32 := by omega
  have Hz := Lib.hid hz
  have Hall := Lib.hid hall
  clear hz hall hl m3 mh hN
  obtain rfl : y = 0 := by omega
  have hk : Kept w w := Kept.refl w
  go_enter Try.func4, Try.ntmps4
  go_wp2_with fail
  refine (awake7_any _).mono ?_
  rintro e w1 ⟨rfl, hn⟩
  replace hk := hk.trans hn
  clear hn
  go_wp2_with fail
  refine (spread_any _ _ _ _ _ _).mono ?_
  rintro e w1 ⟨v, rfl, hv, hn⟩
  replace hk := hk.trans hn
  clear hn
  obtain ⟨g, cap, rfl, hg, hc⟩ := (Hz.out _ _ _ hv).row
  clear hv Hz
  go_wp2_with (first
    | (go_at_call 12; refine (num_any _ _).mono ?_; rintro e w1 ⟨rfl, rfl⟩)
    | fail)
  have s0 := spSum_zero (q := q) t1
  go_loopw [14, 15] (fun s i wx => ∃ k : Nat, k ≤ N ∧ i = .int .i64 k ∧ s = .int .i64 (spSum q t k) ∧ Kept w1 wx) (fun _ i _ => N - (intOf i).toNat)
  case atStart => exact ⟨0, Nat.zero_le _, rfl, by rw [s0], Kept.refl _⟩
  case round =>
    obtain ⟨k, hk4, rfl, rfl, hx⟩ := hrel
    replace hk := hk.trans hx
    have hgx := Nat.lt_of_lt_of_le hg hx.size
    have b1 := spSum_bd (q := q) (t := t) (k := k) q1 (by omega) (by omega) t1 (by omega)
    by_cases hlt : k < N
    · have b2 := spSum_bd (q := q) (t := t) (k := k + 1) q1 (by omega) (by omega) t1 (by omega)
      rw [spSum_succ] at b2
      have ck := (hx.cell (p := ⟨g, k, none⟩) hg).trans (hc k hlt)
      have hi0 : (0 : Int) ≤ (k : Int) := Int.natCast_nonneg _
      have hi1 : (k : Int) < (N : Int) := by omega
      have Hs := Lib.hid (spSum_succ (q := q) (t := t) k)
      by_cases h0 : k = 0
      · subst h0
        clear hc
        generalize spOne q t 0 = f at *
        generalize spSum q t 0 = S at *
        go_wp2
        go_quiet (fail)
        go_wp2
        go_roundw
        case rel => exact ⟨1, by omega, rfl, by rw [Hs.out, s0, Int.zero_add], (by repeat (first | with_reducible exact hx | with_reducible refine Kept.alloc ?_ _ | with_reducible refine Kept.drew ?_ | with_reducible refine Kept.drewN ?_ _))⟩
        case measure => simp [intOf]; omega
      · have c1 := (hx.cell (p := ⟨g, k - 1, none⟩) hg).trans (hc (k - 1) (by omega))
        have c0 := (hx.cell (p := ⟨g, 0, none⟩) hg).trans (hc 0 (by omega))
        clear hc
        have f1 : spOne q t k ≤ spOne q t (k - 1) := by unfold spOne; split <;> split <;> omega
        have f2 : spOne q t 0 - 1 ≤ spOne q t k := by unfold spOne; split <;> split <;> omega
        have f3 : 0 ≤ spOne q t k ∧ spOne q t k ≤ 65536 := by unfold spOne; split <;> omega
        have f4 : 0 ≤ spOne q t 0 ∧ spOne q t 0 ≤ 65536 := by unfold spOne; split <;> omega
        have f5 : 0 ≤ spOne q t (k - 1) ∧ spOne q t (k - 1) ≤ 65536 := by unfold spOne; split <;> omega
        generalize spOne q t (k - 1) = f' at *
        generalize spOne q t 0 = f0 at *
        generalize spOne q t k = f at *
        generalize spSum q t k = S at *
        obtain ⟨f3, f3'⟩ := f3
        obtain ⟨f4, f4'⟩ := f4
        obtain ⟨f5, f5'⟩ := f5
        obtain ⟨b1, b1'⟩ := b1
        obtain ⟨b2, b2'⟩ := b2
        have d1 : decide (f' < f) = false := by simp; omega
        have d2 : decide (f < f0 - 1) = false := by simp; omega
        have d0 : decide ((0 : Int) < (k : Int)) = true := by simp; omega
        have dN : 0 < k := by omega
        have dM : decide (0 < k) = true := by simp; omega
        have w1' : IntKind.i64.wrap ((k : Int) - 1) = (k : Int) - 1 := IntWalk.i64_in _ (by omega)
        have w2' : ((k : Int) - 1).toNat = k - 1 := by omega
        have w3' : 0 ≤ (k : Int) - 1 := by omega
        have w4' : (1 : Int) ≤ (k : Int) := by omega
        have w6' : (k : Int) - 1 < (N : Int) := by omega
        have w5' : IntKind.i64.wrap (f0 - 1) = f0 - 1 := IntWalk.i64_in _ (by omega)
        go_wp2
        go_quiet (fail)
        go_wp2
        go_roundw
        case rel => exact ⟨k + 1, by omega, by go_num, by rw [Hs.out], (by repeat (first | with_reducible exact hx | with_reducible refine Kept.alloc ?_ _ | with_reducible refine Kept.drew ?_ | with_reducible refine Kept.drewN ?_ _))⟩
        case measure => simp [intOf]; omega
    · obtain rfl : k = N := by omega
      have Ha : spSum q t k = _ := Hall.out
      rw [Ha] at *
      clear hc
      go_wp2_with (first
        | (go_at_call 8; refine (alignOffset_any _ _ _ _).mono ?_; rintro e w1 ⟨rfl, hn⟩; replace hk := Kept.trans (by first | ((repeat (first | with_reducible exact hk | with_reducible refine Kept.alloc ?_ _ | with_reducible refine Kept.drew ?_ | with_reducible refine Kept.drewN ?_ _ | with_reducible refine Kept.set ?_ (by first | (simp; done) | (simp; omega) | omega) _)); done) | exact hk | exact (hk.alloc _) | exact ((hk.alloc _).alloc _) | exact (((hk.alloc _).alloc _).alloc _) | exact ((((hk.alloc _).alloc _).alloc _).alloc _) | exact (((((hk.alloc _).alloc _).alloc _).alloc _).alloc _) | exact ((((((hk.alloc _).alloc _).alloc _).alloc _).alloc _).alloc _)) hn)
        | (go_at_call 12; refine (num_any _ _).mono ?_; rintro e w1 ⟨rfl, rfl⟩)
        | fail)
      go_ret
      exact ⟨rfl, (by first | ((repeat (first | with_reducible exact hk | with_reducible refine Kept.alloc ?_ _ | with_reducible refine Kept.drew ?_ | with_reducible refine Kept.drewN ?_ _ | with_reducible refine Kept.set ?_ (by first | (simp; done) | (simp; omega) | omega) _)); done) | exact hk | exact (hk.alloc _) | exact ((hk.alloc _).alloc _) | exact (((hk.alloc _).alloc _).alloc _) | exact ((((hk.alloc _).alloc _).alloc _).alloc _) | exact (((((hk.alloc _).alloc _).alloc _).alloc _).alloc _) | exact ((((((hk.alloc _).alloc _).alloc _).alloc _).alloc _).alloc _) | (repeat (first | exact hk | refine Kept.alloc ?_ _ | refine Kept.drew ?_ | refine Kept.drewN ?_ _ | refine Kept.set ?_ (by first | (simp; done) | (simp; omega) | omega) _)))⟩
set_option maxHeartbeats 2000000 in
theorem alignSums_eq (a b c d r x h : Int) (n : Nat) (hr : bits .and .i64 a 65535 = r) (r1 : 0 ≤ r) (r2 : r ≤ 65535) (hx : bits .and .i64 b 65535 = x) (x1 : 0 ≤ x) (x2 : x ≤ 65535)
    (hn : bits .and .i64 c 31 = (n : Int)) (n2 : n ≤ 31) (hh : bits .and .i64 d 3 = h) (h1 : 0 ≤ h) (h2 : h ≤ 3) (h4 : r = x) (w : World) :
    Calls Try.prog 4 #[.int .i64 a, .int .i64 b, .int .i64 c, .int .i64 d] w fun e w' => e = .returned (.bool true) ∧ Kept w w' := by
  subst h4
  have hl : leftS r r = 0 := if_neg (by omega)
  have m3 := almB_in (how := 3) (room := r) (adv := r) (by omega) (by omega) (by omega)
  have mh := almB_in (how := h) (room := r) (adv := r) (by omega) (by omega) (by omega)
  obtain ⟨y, ey, y1, y2⟩ := offS_bd mh (by omega)
  have e4 := sprE_ok (gaps := ((n + 1 : Nat) : Int)) m3 (by omega)
  have hz : ∀ w w' v, NewInts w w' v (sprXs 3 r r ((n + 1 : Nat) : Int) false) → Spr w' v (n + 1) (leftS r r / ((n + 1 : Nat) : Int)) (leftS r r % ((n + 1 : Nat) : Int)) := fun w w' v hv => Spr.of hv m3 (by omega) (by omega)
  rw [hl] at y2 hz
  have hall := spSum_all (l := (0 : Int)) (n := n + 1) (by omega) (by omega)
  have q1 : 0 ≤ ((0 : Int)) / ((n + 1 : Nat) : Int) := Int.ediv_nonneg (by omega) (by omega)
  have q2 : ((0 : Int)) / ((n + 1 : Nat) : Int) ≤ (0 : Int) := Int.ediv_le_self _ (by omega)
  have t1 := Int.emod_nonneg ((0 : Int)) (show ((n + 1 : Nat) : Int) ≠ 0 by omega)
  have t2 := Int.emod_lt_of_pos ((0 : Int)) (show (0 : Int) < ((n + 1 : Nat) : Int) by omega)
  generalize ((0 : Int)) / ((n + 1 : Nat) : Int) = q at *
  generalize ((0 : Int)) % ((n + 1 : Nat) : Int) = t at *
  have hsum : (1 : Int) + (n : Int) = ((n + 1 : Nat) : Int) := by omega
  generalize hN : n + 1 = N at *
  have N1 : 1 ≤ N := by omega
  have N2 : N ≤ 32 := by omega
  have Hz := Lib.hid hz
  have Hall := Lib.hid hall
  clear hz hall hl m3 mh hN
  obtain rfl : y = 0 := by omega
  have hk : Kept w w := Kept.refl w
  go_enter Try.func4, Try.ntmps4
  go_wp2_with fail
  refine (awake7_any _).mono ?_
  rintro e w1 ⟨rfl, hn⟩
  replace hk := hk.trans hn
  clear hn
  go_wp2_with fail
  refine (spread_any _ _ _ _ _ _).mono ?_
  rintro e w1 ⟨v, rfl, hv, hn⟩
  replace hk := hk.trans hn
  clear hn
  obtain ⟨g, cap, rfl, hg, hc⟩ := (Hz.out _ _ _ hv).row
  clear hv Hz
  go_wp2_with (first
    | (go_at_call 12; refine (num_any _ _).mono ?_; rintro e w1 ⟨rfl, rfl⟩)
    | fail)
  have s0 := spSum_zero (q := q) t1
  go_loopw [14, 15] (fun s i wx => ∃ k : Nat, k ≤ N ∧ i = .int .i64 k ∧ s = .int .i64 (spSum q t k) ∧ Kept w1 wx) (fun _ i _ => N - (intOf i).toNat)
  case atStart => exact ⟨0, Nat.zero_le _, rfl, by rw [s0], Kept.refl _⟩
  case round =>
    obtain ⟨k, hk4, rfl, rfl, hx⟩ := hrel
    replace hk := hk.trans hx
    have hgx := Nat.lt_of_lt_of_le hg hx.size
    have b1 := spSum_bd (q := q) (t := t) (k := k) q1 (by omega) (by omega) t1 (by omega)
    by_cases hlt : k < N
    · have b2 := spSum_bd (q := q) (t := t) (k := k + 1) q1 (by omega) (by omega) t1 (by omega)
      rw [spSum_succ] at b2
      have ck := (hx.cell (p := ⟨g, k, none⟩) hg).trans (hc k hlt)
      have hi0 : (0 : Int) ≤ (k : Int) := Int.natCast_nonneg _
      have hi1 : (k : Int) < (N : Int) := by omega
      have Hs := Lib.hid (spSum_succ (q := q) (t := t) k)
      by_cases h0 : k = 0
      · subst h0
        clear hc
        generalize spOne q t 0 = f at *
        generalize spSum q t 0 = S at *
        go_wp2
        go_quiet (fail)
        go_wp2
        go_roundw
        case rel => exact ⟨1, by omega, rfl, by rw [Hs.out, s0, Int.zero_add], (by repeat (first | with_reducible exact hx | with_reducible refine Kept.alloc ?_ _ | with_reducible refine Kept.drew ?_ | with_reducible refine Kept.drewN ?_ _))⟩
        case measure => simp [intOf]; omega
      · have c1 := (hx.cell (p := ⟨g, k - 1, none⟩) hg).trans (hc (k - 1) (by omega))
        have c0 := (hx.cell (p := ⟨g, 0, none⟩) hg).trans (hc 0 (by omega))
        clear hc
        have f1 : spOne q t k ≤ spOne q t (k - 1) := by unfold spOne; split <;> split <;> omega
        have f2 : spOne q t 0 - 1 ≤ spOne q t k := by unfold spOne; split <;> split <;> omega
        have f3 : 0 ≤ spOne q t k ∧ spOne q t k ≤ 65536 := by unfold spOne; split <;> omega
        have f4 : 0 ≤ spOne q t 0 ∧ spOne q t 0 ≤ 65536 := by unfold spOne; split <;> omega
        have f5 : 0 ≤ spOne q t (k - 1) ∧ spOne q t (k - 1) ≤ 65536 := by unfold spOne; split <;> omega
        generalize spOne q t (k - 1) = f' at *
        generalize spOne q t 0 = f0 at *
        generalize spOne q t k = f at *
        generalize spSum q t k = S at *
        obtain ⟨f3, f3'⟩ := f3
        obtain ⟨f4, f4'⟩ := f4
        obtain ⟨f5, f5'⟩ := f5
        obtain ⟨b1, b1'⟩ := b1
        obtain ⟨b2, b2'⟩ := b2
        have d1 : decide (f' < f) = false := by simp; omega
        have d2 : decide (f < f0 - 1) = false := by simp; omega
        have d0 : decide ((0 : Int) < (k : Int)) = true := by simp; omega
        have dN : 0 < k := by omega
        have dM : decide (0 < k) = true := by simp; omega
        have w1' : IntKind.i64.wrap ((k : Int) - 1) = (k : Int) - 1 := IntWalk.i64_in _ (by omega)
        have w2' : ((k : Int) - 1).toNat = k - 1 := by omega
        have w3' : 0 ≤ (k : Int) - 1 := by omega
        have w4' : (1 : Int) ≤ (k : Int) := by omega
        have w6' : (k : Int) - 1 < (N : Int) := by omega
        have w5' : IntKind.i64.wrap (f0 - 1) = f0 - 1 := IntWalk.i64_in _ (by omega)
        go_wp2
        go_quiet (fail)
        go_wp2
        go_roundw
        case rel => exact ⟨k + 1, by omega, by go_num, by rw [Hs.out], (by repeat (first | with_reducible exact hx | with_reducible refine Kept.alloc ?_ _ | with_reducible refine Kept.drew ?_ | with_reducible refine Kept.drewN ?_ _))⟩
        case measure => simp [intOf]; omega
    · obtain rfl : k = N := by omega
      have Ha : spSum q t k = _ := Hall.out
      rw [Ha] at *
      clear hc
      go_wp2_with (first
        | (go_at_call 8; refine (alignOffset_any _ _ _ _).mono ?_; rintro e w1 ⟨rfl, hn⟩; replace hk := Kept.trans (by first | ((repeat (first | with_reducible exact hk | with_reducible refine Kept.alloc ?_ _ | with_reducible refine Kept.drew ?_ | with_reducible refine Kept.drewN ?_ _ | with_reducible refine Kept.set ?_ (by first | (simp; done) | (simp; omega) | omega) _)); done) | exact hk | exact (hk.alloc _) | exact ((hk.alloc _).alloc _) | exact (((hk.alloc _).alloc _).alloc _) | exact ((((hk.alloc _).alloc _).alloc _).alloc _) | exact (((((hk.alloc _).alloc _).alloc _).alloc _).alloc _) | exact ((((((hk.alloc _).alloc _).alloc _).alloc _).alloc _).alloc _)) hn)
        | (go_at_call 12; refine (num_any _ _).mono ?_; rintro e w1 ⟨rfl, rfl⟩)
        | fail)
      go_ret
      exact ⟨rfl, (by first | ((repeat (first | with_reducible exact hk | with_reducible refine Kept.alloc ?_ _ | with_reducible refine Kept.drew ?_ | with_reducible refine Kept.drewN ?_ _ | with_reducible refine Kept.set ?_ (by first | (simp; done) | (simp; omega) | omega) _)); done) | exact hk | exact (hk.alloc _) | exact ((hk.alloc _).alloc _) | exact (((hk.alloc _).alloc _).alloc _) | exact ((((hk.alloc _).alloc _).alloc _).alloc _) | exact (((((hk.alloc _).alloc _).alloc _).alloc _).alloc _) | exact ((((((hk.alloc _).alloc _).alloc _).alloc _).alloc _).alloc _) | (repeat (first | exact hk | refine Kept.alloc ?_ _ | refine Kept.drew ?_ | refine Kept.drewN ?_ _ | refine Kept.set ?_ (by first | (simp; done) | (simp; omega) | omega) _)))⟩
set_option maxHeartbeats 2000000 in
theorem alignSums_gt (a b c d r x h : Int) (n : Nat) (hr : bits .and .i64 a 65535 = r) (r1 : 0 ≤ r) (r2 : r ≤ 65535) (hx : bits .and .i64 b 65535 = x) (x1 : 0 ≤ x) (x2 : x ≤ 65535)
    (hn : bits .and .i64 c 31 = (n : Int)) (n2 : n ≤ 31) (hh : bits .and .i64 d 3 = h) (h1 : 0 ≤ h) (h2 : h ≤ 3) (h4 : x < r) (w : World) :
    Calls Try.prog 4 #[.int .i64 a, .int .i64 b, .int .i64 c, .int .i64 d] w fun e w' => e = .returned (.bool true) ∧ Kept w w' := by
  have hl : leftS r x = r - x := if_pos h4
  have m3 := almB_in (how := 3) (room := r) (adv := x) (by omega) (by omega) (by omega)
  have mh := almB_in (how := h) (room := r) (adv := x) (by omega) (by omega) (by omega)
  obtain ⟨y, ey, y1, y2⟩ := offS_bd mh (by omega)
  have e4 := sprE_ok (gaps := ((n + 1 : Nat) : Int)) m3 (by omega)
  have hz : ∀ w w' v, NewInts w w' v (sprXs 3 r x ((n + 1 : Nat) : Int) false) → Spr w' v (n + 1) (leftS r x / ((n + 1 : Nat) : Int)) (leftS r x % ((n + 1 : Nat) : Int)) := fun w w' v hv => Spr.of hv m3 (by omega) (by omega)
  rw [hl] at y2 hz
  have hall := spSum_all (l := r - x) (n := n + 1) (by omega) (by omega)
  have q1 : 0 ≤ (r - x) / ((n + 1 : Nat) : Int) := Int.ediv_nonneg (by omega) (by omega)
  have q2 : (r - x) / ((n + 1 : Nat) : Int) ≤ r - x := Int.ediv_le_self _ (by omega)
  have t1 := Int.emod_nonneg (r - x) (show ((n + 1 : Nat) : Int) ≠ 0 by omega)
  have t2 := Int.emod_lt_of_pos (r - x) (show (0 : Int) < ((n + 1 : Nat) : Int) by omega)
  generalize (r - x) / ((n + 1 : Nat) : Int) = q at *
  generalize (r - x) % ((n + 1 : Nat) : Int) = t at *
  have hsum : (1 : Int) + (n : Int) = ((n + 1 : Nat) : Int) := by omega
  generalize hN : n + 1 = N at *
  have N1 : 1 ≤ N := by omega
  have N2 : N ≤ 32 := by omega
  have Hz := Lib.hid hz
  have Hall := Lib.hid hall
  clear hz hall hl m3 mh hN
  have y3 : y + x ≤ r := by omega
  have hk : Kept w w := Kept.refl w
  go_enter Try.func4, Try.ntmps4
  go_wp2_with fail
  refine (awake7_any _).mono ?_
  rintro e w1 ⟨rfl, hn⟩
  replace hk := hk.trans hn
  clear hn
  go_wp2_with fail
  refine (spread_any _ _ _ _ _ _).mono ?_
  rintro e w1 ⟨v, rfl, hv, hn⟩
  replace hk := hk.trans hn
  clear hn
  obtain ⟨g, cap, rfl, hg, hc⟩ := (Hz.out _ _ _ hv).row
  clear hv Hz
  go_wp2_with (first
    | (go_at_call 12; refine (num_any _ _).mono ?_; rintro e w1 ⟨rfl, rfl⟩)
    | fail)
  have s0 := spSum_zero (q := q) t1
  go_loopw [14, 15] (fun s i wx => ∃ k : Nat, k ≤ N ∧ i = .int .i64 k ∧ s = .int .i64 (spSum q t k) ∧ Kept w1 wx) (fun _ i _ => N - (intOf i).toNat)
  case atStart => exact ⟨0, Nat.zero_le _, rfl, by rw [s0], Kept.refl _⟩
  case round =>
    obtain ⟨k, hk4, rfl, rfl, hx⟩ := hrel
    replace hk := hk.trans hx
    have hgx := Nat.lt_of_lt_of_le hg hx.size
    have b1 := spSum_bd (q := q) (t := t) (k := k) q1 (by omega) (by omega) t1 (by omega)
    by_cases hlt : k < N
    · have b2 := spSum_bd (q := q) (t := t) (k := k + 1) q1 (by omega) (by omega) t1 (by omega)
      rw [spSum_succ] at b2
      have ck := (hx.cell (p := ⟨g, k, none⟩) hg).trans (hc k hlt)
      have hi0 : (0 : Int) ≤ (k : Int) := Int.natCast_nonneg _
      have hi1 : (k : Int) < (N : Int) := by omega
      have Hs := Lib.hid (spSum_succ (q := q) (t := t) k)
      by_cases h0 : k = 0
      · subst h0
        clear hc
        generalize spOne q t 0 = f at *
        generalize spSum q t 0 = S at *
        go_wp2
        go_quiet (fail)
        go_wp2
        go_roundw
        case rel => exact ⟨1, by omega, rfl, by rw [Hs.out, s0, Int.zero_add], (by repeat (first | with_reducible exact hx | with_reducible refine Kept.alloc ?_ _ | with_reducible refine Kept.drew ?_ | with_reducible refine Kept.drewN ?_ _))⟩
        case measure => simp [intOf]; omega
      · have c1 := (hx.cell (p := ⟨g, k - 1, none⟩) hg).trans (hc (k - 1) (by omega))
        have c0 := (hx.cell (p := ⟨g, 0, none⟩) hg).trans (hc 0 (by omega))
        clear hc
        have f1 : spOne q t k ≤ spOne q t (k - 1) := by unfold spOne; split <;> split <;> omega
        have f2 : spOne q t 0 - 1 ≤ spOne q t k := by unfold spOne; split <;> split <;> omega
        have f3 : 0 ≤ spOne q t k ∧ spOne q t k ≤ 65536 := by unfold spOne; split <;> omega
        have f4 : 0 ≤ spOne q t 0 ∧ spOne q t 0 ≤ 65536 := by unfold spOne; split <;> omega
        have f5 : 0 ≤ spOne q t (k - 1) ∧ spOne q t (k - 1) ≤ 65536 := by unfold spOne; split <;> omega
        generalize spOne q t (k - 1) = f' at *
        generalize spOne q t 0 = f0 at *
        generalize spOne q t k = f at *
        generalize spSum q t k = S at *
        obtain ⟨f3, f3'⟩ := f3
        obtain ⟨f4, f4'⟩ := f4
        obtain ⟨f5, f5'⟩ := f5
        obtain ⟨b1, b1'⟩ := b1
        obtain ⟨b2, b2'⟩ := b2
        have d1 : decide (f' < f) = false := by simp; omega
        have d2 : decide (f < f0 - 1) = false := by simp; omega
        have d0 : decide ((0 : Int) < (k : Int)) = true := by simp; omega
        have dN : 0 < k := by omega
        have dM : decide (0 < k) = true := by simp; omega
        have w1' : IntKind.i64.wrap ((k : Int) - 1) = (k : Int) - 1 := IntWalk.i64_in _ (by omega)
        have w2' : ((k : Int) - 1).toNat = k - 1 := by omega
        have w3' : 0 ≤ (k : Int) - 1 := by omega
        have w4' : (1 : Int) ≤ (k : Int) := by omega
        have w6' : (k : Int) - 1 < (N : Int) := by omega
        have w5' : IntKind.i64.wrap (f0 - 1) = f0 - 1 := IntWalk.i64_in _ (by omega)
        go_wp2
        go_quiet (fail)
        go_wp2
        go_roundw
        case rel => exact ⟨k + 1, by omega, by go_num, by rw [Hs.out], (by repeat (first | with_reducible exact hx | with_reducible refine Kept.alloc ?_ _ | with_reducible refine Kept.drew ?_ | with_reducible refine Kept.drewN ?_ _))⟩
        case measure => simp [intOf]; omega
    · obtain rfl : k = N := by omega
      have Ha : spSum q t k = _ := Hall.out
      rw [Ha] at *
      clear hc
      go_wp2_with (first
        | (go_at_call 8; refine (alignOffset_any _ _ _ _).mono ?_; rintro e w1 ⟨rfl, hn⟩; replace hk := Kept.trans (by first | ((repeat (first | with_reducible exact hk | with_reducible refine Kept.alloc ?_ _ | with_reducible refine Kept.drew ?_ | with_reducible refine Kept.drewN ?_ _ | with_reducible refine Kept.set ?_ (by first | (simp; done) | (simp; omega) | omega) _)); done) | exact hk | exact (hk.alloc _) | exact ((hk.alloc _).alloc _) | exact (((hk.alloc _).alloc _).alloc _) | exact ((((hk.alloc _).alloc _).alloc _).alloc _) | exact (((((hk.alloc _).alloc _).alloc _).alloc _).alloc _) | exact ((((((hk.alloc _).alloc _).alloc _).alloc _).alloc _).alloc _)) hn)
        | (go_at_call 12; refine (num_any _ _).mono ?_; rintro e w1 ⟨rfl, rfl⟩)
        | fail)
      go_ret
      exact ⟨rfl, (by first | ((repeat (first | with_reducible exact hk | with_reducible refine Kept.alloc ?_ _ | with_reducible refine Kept.drew ?_ | with_reducible refine Kept.drewN ?_ _ | with_reducible refine Kept.set ?_ (by first | (simp; done) | (simp; omega) | omega) _)); done) | exact hk | exact (hk.alloc _) | exact ((hk.alloc _).alloc _) | exact (((hk.alloc _).alloc _).alloc _) | exact ((((hk.alloc _).alloc _).alloc _).alloc _) | exact (((((hk.alloc _).alloc _).alloc _).alloc _).alloc _) | exact ((((((hk.alloc _).alloc _).alloc _).alloc _).alloc _).alloc _) | (repeat (first | exact hk | refine Kept.alloc ?_ _ | refine Kept.drew ?_ | refine Kept.drewN ?_ _ | refine Kept.set ?_ (by first | (simp; done) | (simp; omega) | omega) _)))⟩
theorem alignSums_walk (a b c d : Int) (w : World) :
    Calls Try.prog 4 #[.int .i64 a, .int .i64 b, .int .i64 c, .int .i64 d] w fun e w' => e = .returned (.bool true) ∧ Kept w w' := by
  obtain ⟨r, hr, r1, r2⟩ := masked a 16 65535 (by decide) (by decide)
  obtain ⟨x, hx, x1, x2⟩ := masked b 16 65535 (by decide) (by decide)
  obtain ⟨k, hn, k1, k2⟩ := masked c 5 31 (by decide) (by decide)
  obtain ⟨h, hh, h1, h2⟩ := masked d 2 3 (by decide) (by decide)
  obtain ⟨n, rfl⟩ := Int.eq_ofNat_of_zero_le k1
  rcases Int.lt_trichotomy r x with h4 | h4 | h4
  · exact alignSums_lt a b c d r x h n hr r1 r2 hx x1 x2 hn (by omega) hh h1 h2 h4 w
  · exact alignSums_eq a b c d r x h n hr r1 r2 hx x1 x2 hn (by omega) hh h1 h2 h4 w
  · exact alignSums_gt a b c d r x h n hr r1 r2 hx x1 x2 hn (by omega) hh h1 h2 h4 w
end Go.Proofs.Ytkapmnbkmljpkae
