/- Layer 1: the walks of the statements. -/
import Derived.Test.YtkgjabeoiiphmaaUnitRef
import Derived.Test.YtkgjabeoiiphmaaAwake1
import Derived.Test.YtkgjabeoiiphmaaMask
namespace Go.Proofs.Ytkgjabeoiiphmaa
open Go.RowKit
theorem masked (a : Int) (k : Nat) (m : Int) (hm : m = 2 ^ k - 1) (hk : k ≤ 32) : ∃ x, bits .and .i64 a m = x ∧ 0 ≤ x ∧ x ≤ m := by
  have hp : (2 : Int) ^ k = ((2 ^ k : Nat) : Int) := by simp
  have hpos : 0 < 2 ^ k := Nat.pow_pos (by omega)
  exact ⟨_, and_mask a k m hm hk, mask_bd a m (by omega)⟩
theorem smallS_ok {x : Int} (h : -1073741824 ≤ x ∧ x ≤ 1073741824) : smallS x = (x, 0) := if_pos (mayB_true.2 h)
theorem mulDivS_ok {a b c : Int} (ha : -1073741824 ≤ a ∧ a ≤ 1073741824) (hb : -1073741824 ≤ b ∧ b ≤ 1073741824) (hc : 1 ≤ c ∧ c ≤ 1073741824) (h : -1073741824 ≤ a * b / c ∧ a * b / c ≤ 1073741824) : mulDivS a b c = (a * b / c, 0) := by
  unfold mulDivS
  rw [if_pos ⟨mayB_true.2 ha, mayB_true.2 hb, mayB_true.2 ⟨by omega, by omega⟩, hc.1⟩, smallS_ok h]
theorem div_bd {t c M : Int} (hc : 1 ≤ c) (h1 : -M ≤ t) (h2 : t ≤ M) (hM : 0 ≤ M) : -M ≤ t / c ∧ t / c ≤ M := by
  constructor
  · exact Int.le_ediv_of_mul_le (by omega) (by have : M * c ≥ M * 1 := Int.mul_le_mul_of_nonneg_left hc hM; rw [Int.neg_mul]; omega)
  · rcases Int.lt_or_le t 0 with h | h
    · have := Int.ediv_neg_of_neg_of_pos h (show 0 < c by omega); omega
    · exact Int.le_trans (Int.ediv_le_self _ h) h2
theorem mul_le_bd {a b A B : Int} (h1 : -A ≤ a) (h2 : a ≤ A) (h3 : -B ≤ b) (h4 : b ≤ B) : -(A * B) ≤ a * b ∧ a * b ≤ A * B := by
  have h : (a * b).natAbs ≤ A.natAbs * B.natAbs := by rw [Int.natAbs_mul]; exact Nat.mul_le_mul (by omega) (by omega)
  have e : ((A.natAbs * B.natAbs : Nat) : Int) = A * B := by rw [Int.natCast_mul, Int.natAbs_of_nonneg (by omega), Int.natAbs_of_nonneg (by omega)]
  omega
theorem units_walk (a b c : Int) (w : World) :
    Calls Try.prog 3 #[.int .i64 a, .int .i64 b, .int .i64 c] w fun e w' => e = .returned (.bool true) ∧ Kept w w' := by
  have hk : Kept w w := Kept.refl w
  go_enter Try.func3, Try.ntmps3
  go_wp2_with (first
    | (go_at_call 8; refine (unitAdd_any _ _ _).mono ?_; rintro e w1 ⟨rfl, hn⟩; replace hk := Kept.trans (by first | exact hk | exact hk.alloc _ | exact (hk.alloc _).alloc _) hn)
    | (go_at_call 10; refine (unitMulDiv_any _ _ _ _).mono ?_; rintro e w1 ⟨rfl, hn⟩; replace hk := Kept.trans (by first | exact hk | exact hk.alloc _ | exact (hk.alloc _).alloc _) hn)
    | (go_at_call 12; refine (unitPercent_any _ _ _).mono ?_; rintro e w1 ⟨rfl, hn⟩; replace hk := Kept.trans (by first | exact hk | exact hk.alloc _ | exact (hk.alloc _).alloc _) hn)
    | (go_at_call 14; refine (unitMay_any _ _).mono ?_; rintro e w1 ⟨rfl, hn⟩; replace hk := Kept.trans (by first | exact hk | exact hk.alloc _ | exact (hk.alloc _).alloc _) hn)
    | (go_at_call 9; refine (refAdd_any _ _ _).mono ?_; rintro e w1 ⟨rfl, rfl⟩)
    | (go_at_call 11; refine (refMulDiv_any _ _ _ _).mono ?_; rintro e w1 ⟨rfl, rfl⟩)
    | (go_at_call 13; refine (refPercent_any _ _ _).mono ?_; rintro e w1 ⟨rfl, rfl⟩)
    | (go_at_call 15; refine (refMay_any _ _).mono ?_; rintro e w1 ⟨rfl, rfl⟩)
    | (go_at_call 17; refine (awake1_any _).mono ?_; rintro e w1 ⟨rfl, hn⟩; replace hk := Kept.trans (by first | exact hk | exact hk.alloc _ | exact (hk.alloc _).alloc _) hn)
    | (go_at_call 16; refine (num_any _ _).mono ?_; rintro e w1 ⟨rfl, rfl⟩))
  go_ret
  exact ⟨rfl, (by first | exact hk | exact hk.alloc _ | exact (hk.alloc _).alloc _)⟩
theorem unitFloor_walk (a b c : Int) (w : World) :
    Calls Try.prog 4 #[.int .i64 a, .int .i64 b, .int .i64 c] w fun e w' => e = .returned (.bool true) ∧ Kept w w' := by
  obtain ⟨x, hx, x1, x2⟩ := masked a 16 65535 (by decide) (by decide)
  obtain ⟨y, hy, y1, y2⟩ := masked b 12 4095 (by decide) (by decide)
  obtain ⟨z, hz, z1, z2⟩ := masked c 12 4095 (by decide) (by decide)
  obtain ⟨t1, t2⟩ := mul_le_bd (a := x - 32768) (b := y - 2048) (A := 32768) (B := 2048) (by omega) (by omega) (by omega) (by omega)
  obtain ⟨q1, q2⟩ := div_bd (t := (x - 32768) * (y - 2048)) (c := 1 + z) (by omega) t1 t2 (by decide)
  have hq := mulDivS_ok (a := x - 32768) (b := y - 2048) (c := 1 + z) (by omega) (by omega) (by omega) (by omega)
  have d1 := Int.ediv_mul_le ((x - 32768) * (y - 2048)) (b := 1 + z) (by omega)
  have d2 := Int.lt_ediv_add_one_mul_self ((x - 32768) * (y - 2048)) (b := 1 + z) (by omega)
  rw [Int.add_mul, Int.one_mul] at d2
  generalize hT : (x - 32768) * (y - 2048) = t at *
  generalize hQ : t / (1 + z) = q at *
  generalize hP : q * (1 + z) = p at *
  have hk : Kept w w := Kept.refl w
  go_enter Try.func4, Try.ntmps4
  go_wp2_with (first
    | (go_at_call 10; refine (unitMulDiv_any _ _ _ _).mono ?_; rintro e w1 ⟨rfl, hn⟩; replace hk := Kept.trans (by first | exact hk | exact hk.alloc _ | exact (hk.alloc _).alloc _) hn)
    | (go_at_call 8; refine (unitAdd_any _ _ _).mono ?_; rintro e w1 ⟨rfl, hn⟩; replace hk := Kept.trans (by first | exact hk | exact hk.alloc _ | exact (hk.alloc _).alloc _) hn)
    | (go_at_call 12; refine (unitPercent_any _ _ _).mono ?_; rintro e w1 ⟨rfl, hn⟩; replace hk := Kept.trans (by first | exact hk | exact hk.alloc _ | exact (hk.alloc _).alloc _) hn)
    | (go_at_call 14; refine (unitMay_any _ _).mono ?_; rintro e w1 ⟨rfl, hn⟩; replace hk := Kept.trans (by first | exact hk | exact hk.alloc _ | exact (hk.alloc _).alloc _) hn)
    | (go_at_call 17; refine (awake1_any _).mono ?_; rintro e w1 ⟨rfl, hn⟩; replace hk := Kept.trans (by first | exact hk | exact hk.alloc _ | exact (hk.alloc _).alloc _) hn)
    | (go_at_call 16; refine (num_any _ _).mono ?_; rintro e w1 ⟨rfl, rfl⟩))
  go_ret
  exact ⟨rfl, (by first | exact hk | exact hk.alloc _ | exact (hk.alloc _).alloc _)⟩
theorem percentS_ok {p x : Int} (hp : -100 ≤ p ∧ p ≤ 100) (hx : -65536 ≤ x ∧ x ≤ 65536) : percentS p x = (x * p / 100, 0) := by
  obtain ⟨t1, t2⟩ := mul_le_bd (a := x) (b := p) (A := 65536) (B := 100) (by omega) (by omega) (by omega) (by omega)
  unfold percentS
  rw [if_pos ⟨mayB_true.2 (by omega), hp.1, hp.2⟩]
  exact mulDivS_ok (by omega) (by omega) (by omega) (by omega)
theorem unitAdds_walk (a b p : Int) (w : World) :
    Calls Try.prog 6 #[.int .i64 a, .int .i64 b, .int .i64 p] w fun e w' => e = .returned (.bool true) ∧ Kept w w' := by
  obtain ⟨x, hx, x1, x2⟩ := masked a 16 65535 (by decide) (by decide)
  obtain ⟨y, hy, y1, y2⟩ := masked b 16 65535 (by decide) (by decide)
  obtain ⟨q, hq, q1, q2⟩ := masked p 6 63 (by decide) (by decide)
  have e1 : addS (x - 32768) (y - 32768) = ((x - 32768) + (y - 32768), 0) := by
    unfold addS; rw [if_pos ⟨mayB_true.2 (by omega), mayB_true.2 (by omega)⟩]; exact smallS_ok (by omega)
  have e2 : addS (y - 32768) (x - 32768) = ((x - 32768) + (y - 32768), 0) := by
    unfold addS; rw [if_pos ⟨mayB_true.2 (by omega), mayB_true.2 (by omega)⟩, Int.add_comm]; exact smallS_ok (by omega)
  have e3 : addS ((x - 32768) + (y - 32768)) (-(y - 32768)) = (x - 32768, 0) := by
    unfold addS; rw [if_pos ⟨mayB_true.2 (by omega), mayB_true.2 (by omega)⟩, show (x - 32768) + (y - 32768) + -(y - 32768) = x - 32768 by omega]; exact smallS_ok (by omega)
  have e4 : percentS 100 (x - 32768) = (x - 32768, 0) := by
    rw [percentS_ok (by omega) (by omega), Int.mul_ediv_cancel _ (by decide)]
  have e5 := percentS_ok (p := q) (x := x - 32768) (by omega) (by omega)
  have e6 := percentS_ok (p := 100 - q) (x := x - 32768) (by omega) (by omega)
  obtain ⟨t1, t2⟩ := mul_le_bd (a := x - 32768) (b := q) (A := 65536) (B := 100) (by omega) (by omega) (by omega) (by omega)
  rw [Int.mul_sub] at e6
  generalize (x - 32768) * q = t at *
  obtain ⟨c, hc⟩ : ∃ c, t / 100 = c := ⟨_, rfl⟩
  obtain ⟨d, hd⟩ : ∃ d, ((x - 32768) * 100 - t) / 100 = d := ⟨_, rfl⟩
  have hcd : c + d = x - 32768 ∨ c + d = x - 32769 := by omega
  have c1 : -100000 ≤ c ∧ c ≤ 100000 := by omega
  have d1 : -200000 ≤ d ∧ d ≤ 200000 := by omega
  rw [hc] at e5
  rw [hd] at e6
  clear hc hd
  rcases hcd with hcd | hcd
  · obtain rfl : c = x - 32768 - d := by omega
    clear hcd
    have hk : Kept w w := Kept.refl w
    go_enter Try.func6, Try.ntmps6
    go_wp2_with (first
    | (go_at_call 10; refine (unitMulDiv_any _ _ _ _).mono ?_; rintro e w1 ⟨rfl, hn⟩; replace hk := Kept.trans (by first | exact hk | exact hk.alloc _ | exact (hk.alloc _).alloc _) hn)
    | (go_at_call 8; refine (unitAdd_any _ _ _).mono ?_; rintro e w1 ⟨rfl, hn⟩; replace hk := Kept.trans (by first | exact hk | exact hk.alloc _ | exact (hk.alloc _).alloc _) hn)
    | (go_at_call 12; refine (unitPercent_any _ _ _).mono ?_; rintro e w1 ⟨rfl, hn⟩; replace hk := Kept.trans (by first | exact hk | exact hk.alloc _ | exact (hk.alloc _).alloc _) hn)
    | (go_at_call 14; refine (unitMay_any _ _).mono ?_; rintro e w1 ⟨rfl, hn⟩; replace hk := Kept.trans (by first | exact hk | exact hk.alloc _ | exact (hk.alloc _).alloc _) hn)
    | (go_at_call 17; refine (awake1_any _).mono ?_; rintro e w1 ⟨rfl, hn⟩; replace hk := Kept.trans (by first | exact hk | exact hk.alloc _ | exact (hk.alloc _).alloc _) hn)
    | (go_at_call 16; refine (num_any _ _).mono ?_; rintro e w1 ⟨rfl, rfl⟩))
    go_ret
    exact ⟨rfl, (by first | exact hk | exact hk.alloc _ | exact (hk.alloc _).alloc _)⟩
  · obtain rfl : c = x - 32769 - d := by omega
    clear hcd
    have hk : Kept w w := Kept.refl w
    go_enter Try.func6, Try.ntmps6
    go_wp2_with (first
    | (go_at_call 10; refine (unitMulDiv_any _ _ _ _).mono ?_; rintro e w1 ⟨rfl, hn⟩; replace hk := Kept.trans (by first | exact hk | exact hk.alloc _ | exact (hk.alloc _).alloc _) hn)
    | (go_at_call 8; refine (unitAdd_any _ _ _).mono ?_; rintro e w1 ⟨rfl, hn⟩; replace hk := Kept.trans (by first | exact hk | exact hk.alloc _ | exact (hk.alloc _).alloc _) hn)
    | (go_at_call 12; refine (unitPercent_any _ _ _).mono ?_; rintro e w1 ⟨rfl, hn⟩; replace hk := Kept.trans (by first | exact hk | exact hk.alloc _ | exact (hk.alloc _).alloc _) hn)
    | (go_at_call 14; refine (unitMay_any _ _).mono ?_; rintro e w1 ⟨rfl, hn⟩; replace hk := Kept.trans (by first | exact hk | exact hk.alloc _ | exact (hk.alloc _).alloc _) hn)
    | (go_at_call 17; refine (awake1_any _).mono ?_; rintro e w1 ⟨rfl, hn⟩; replace hk := Kept.trans (by first | exact hk | exact hk.alloc _ | exact (hk.alloc _).alloc _) hn)
    | (go_at_call 16; refine (num_any _ _).mono ?_; rintro e w1 ⟨rfl, rfl⟩))
    go_ret
    exact ⟨ret_bool (by simp; omega), (by first | exact hk | exact hk.alloc _ | exact (hk.alloc _).alloc _)⟩
theorem ediv_anti {t c d : Int} (ht : 0 ≤ t) (hc : 1 ≤ c) (h : c ≤ d) : t / d ≤ t / c := by
  have h1 := Int.ediv_mul_le t (b := d) (by omega)
  have h2 : 0 ≤ t / d := Int.ediv_nonneg ht (by omega)
  have h3 : t / d * c ≤ t / d * d := Int.mul_le_mul_of_nonneg_left h h2
  exact Int.le_ediv_of_mul_le (by omega) (by omega)
set_option maxHeartbeats 600000 in
theorem unitScales_walk (a b c : Int) (w : World) :
    Calls Try.prog 7 #[.int .i64 a, .int .i64 b, .int .i64 c] w fun e w' => e = .returned (.bool true) ∧ Kept w w' := by
  obtain ⟨x, hx, x1, x2⟩ := masked a 16 65535 (by decide) (by decide)
  obtain ⟨y, hy, y1, y2⟩ := masked b 10 1023 (by decide) (by decide)
  obtain ⟨z, hz, z1, z2⟩ := masked c 10 1023 (by decide) (by decide)
  obtain ⟨t1, t2⟩ := mul_le_bd (a := x - 32768) (b := 1 + y) (A := 32768) (B := 1024) (by omega) (by omega) (by omega) (by omega)
  have e1 : mulDivS (x - 32768) (1 + y) (1 + y) = (x - 32768, 0) := by
    have h := Int.mul_ediv_cancel (x - 32768) (show 1 + y ≠ 0 by omega)
    rw [mulDivS_ok (by omega) (by omega) (by omega) (by omega), h]
  have q1 := div_bd (t := (x - 32768) * (1 + y)) (c := 1 + z) (by omega) t1 t2 (by decide)
  have e2 := mulDivS_ok (a := x - 32768) (b := 1 + y) (c := 1 + z) (by omega) (by omega) (by omega) (by omega)
  have e3 := mulDivS_ok (a := 1 + y) (b := x - 32768) (c := 1 + z) (by omega) (by omega) (by omega) (by rw [Int.mul_comm]; omega)
  rw [Int.mul_comm (1 + y)] at e3
  have f1 := div_bd (t := x * 7) (c := 1 + y) (M := 500000) (by omega) (by omega) (by omega) (by decide)
  have f2 := div_bd (t := x * 7) (c := 1 + z) (M := 500000) (by omega) (by omega) (by omega) (by decide)
  have e4 := mulDivS_ok (a := x) (b := 7) (c := 1 + y) (by omega) (by omega) (by omega) (by omega)
  have e5 := mulDivS_ok (a := x) (b := 7) (c := 1 + z) (by omega) (by omega) (by omega) (by omega)
  rcases Int.lt_trichotomy y z with h | h | h
  · have f3 := ediv_anti (t := x * 7) (c := 1 + y) (d := 1 + z) (by omega) (by omega) (by omega)
    generalize x * 7 / (1 + z) = r at *
    generalize x * 7 / (1 + y) = q at *
    generalize (x - 32768) * (1 + y) / (1 + z) = s at *
    have hk : Kept w w := Kept.refl w
    go_enter Try.func7, Try.ntmps7
    go_wp2_with (first
    | (go_at_call 10; refine (unitMulDiv_any _ _ _ _).mono ?_; rintro e w1 ⟨rfl, hn⟩; replace hk := Kept.trans (by first | exact hk | exact hk.alloc _ | exact (hk.alloc _).alloc _) hn)
    | (go_at_call 8; refine (unitAdd_any _ _ _).mono ?_; rintro e w1 ⟨rfl, hn⟩; replace hk := Kept.trans (by first | exact hk | exact hk.alloc _ | exact (hk.alloc _).alloc _) hn)
    | (go_at_call 12; refine (unitPercent_any _ _ _).mono ?_; rintro e w1 ⟨rfl, hn⟩; replace hk := Kept.trans (by first | exact hk | exact hk.alloc _ | exact (hk.alloc _).alloc _) hn)
    | (go_at_call 14; refine (unitMay_any _ _).mono ?_; rintro e w1 ⟨rfl, hn⟩; replace hk := Kept.trans (by first | exact hk | exact hk.alloc _ | exact (hk.alloc _).alloc _) hn)
    | (go_at_call 17; refine (awake1_any _).mono ?_; rintro e w1 ⟨rfl, hn⟩; replace hk := Kept.trans (by first | exact hk | exact hk.alloc _ | exact (hk.alloc _).alloc _) hn)
    | (go_at_call 16; refine (num_any _ _).mono ?_; rintro e w1 ⟨rfl, rfl⟩))
    go_ret
    exact ⟨rfl, hk⟩
  · subst h
    rw [Int.mul_ediv_cancel _ (show 1 + y ≠ 0 by omega)] at e3
    clear e2 e5
    generalize x * 7 / (1 + y) = q at *
    have hk : Kept w w := Kept.refl w
    go_enter Try.func7, Try.ntmps7
    go_wp2_with (first
    | (go_at_call 10; refine (unitMulDiv_any _ _ _ _).mono ?_; rintro e w1 ⟨rfl, hn⟩; replace hk := Kept.trans (by first | exact hk | exact hk.alloc _ | exact (hk.alloc _).alloc _) hn)
    | (go_at_call 8; refine (unitAdd_any _ _ _).mono ?_; rintro e w1 ⟨rfl, hn⟩; replace hk := Kept.trans (by first | exact hk | exact hk.alloc _ | exact (hk.alloc _).alloc _) hn)
    | (go_at_call 12; refine (unitPercent_any _ _ _).mono ?_; rintro e w1 ⟨rfl, hn⟩; replace hk := Kept.trans (by first | exact hk | exact hk.alloc _ | exact (hk.alloc _).alloc _) hn)
    | (go_at_call 14; refine (unitMay_any _ _).mono ?_; rintro e w1 ⟨rfl, hn⟩; replace hk := Kept.trans (by first | exact hk | exact hk.alloc _ | exact (hk.alloc _).alloc _) hn)
    | (go_at_call 17; refine (awake1_any _).mono ?_; rintro e w1 ⟨rfl, hn⟩; replace hk := Kept.trans (by first | exact hk | exact hk.alloc _ | exact (hk.alloc _).alloc _) hn)
    | (go_at_call 16; refine (num_any _ _).mono ?_; rintro e w1 ⟨rfl, rfl⟩))
    go_ret
    exact ⟨rfl, hk⟩
  · have f3 := ediv_anti (t := x * 7) (c := 1 + z) (d := 1 + y) (by omega) (by omega) (by omega)
    generalize x * 7 / (1 + z) = r at *
    generalize x * 7 / (1 + y) = q at *
    generalize (x - 32768) * (1 + y) / (1 + z) = s at *
    have hk : Kept w w := Kept.refl w
    go_enter Try.func7, Try.ntmps7
    go_wp2_with (first
    | (go_at_call 10; refine (unitMulDiv_any _ _ _ _).mono ?_; rintro e w1 ⟨rfl, hn⟩; replace hk := Kept.trans (by first | exact hk | exact hk.alloc _ | exact (hk.alloc _).alloc _) hn)
    | (go_at_call 8; refine (unitAdd_any _ _ _).mono ?_; rintro e w1 ⟨rfl, hn⟩; replace hk := Kept.trans (by first | exact hk | exact hk.alloc _ | exact (hk.alloc _).alloc _) hn)
    | (go_at_call 12; refine (unitPercent_any _ _ _).mono ?_; rintro e w1 ⟨rfl, hn⟩; replace hk := Kept.trans (by first | exact hk | exact hk.alloc _ | exact (hk.alloc _).alloc _) hn)
    | (go_at_call 14; refine (unitMay_any _ _).mono ?_; rintro e w1 ⟨rfl, hn⟩; replace hk := Kept.trans (by first | exact hk | exact hk.alloc _ | exact (hk.alloc _).alloc _) hn)
    | (go_at_call 17; refine (awake1_any _).mono ?_; rintro e w1 ⟨rfl, hn⟩; replace hk := Kept.trans (by first | exact hk | exact hk.alloc _ | exact (hk.alloc _).alloc _) hn)
    | (go_at_call 16; refine (num_any _ _).mono ?_; rintro e w1 ⟨rfl, rfl⟩))
    go_ret
    exact ⟨rfl, hk⟩
theorem addS_no {a b : Int} (h : mayB a = false ∨ mayB b = false) : addS a b = (0, 100) := if_neg (by rcases h with h | h <;> simp [h])
theorem mulDivS_no {a b c : Int} (h : mayB a = false ∨ mayB b = false ∨ c < 1) : mulDivS a b c = (0, 100) := if_neg (by rcases h with h | h | h <;> simp [h] <;> omega)
theorem percentS_no {p o : Int} (h : mayB o = false ∨ p < -100 ∨ 100 < p) : percentS p o = (0, 100) := if_neg (by rcases h with h | h | h <;> simp [h] <;> omega)
set_option maxHeartbeats 600000 in
theorem unitForms_walk (a b : Int) (w : World) :
    Calls Try.prog 5 #[.int .i64 a, .int .i64 b] w fun e w' => e = .returned (.bool true) ∧ Kept w w' := by
  obtain ⟨x, hx, x1, x2⟩ := masked b 10 1023 (by decide) (by decide)
  obtain ⟨i, hi, i1, i2⟩ := masked a 1 1 (by decide) (by decide)
  have f1 : mulDivS 1 1 (1 - (1 + x)) = (0, 100) := mulDivS_no (by omega)
  have f2 : percentS (100 + (1 + x)) 0 = (0, 100) := percentS_no (by omega)
  have f3 : percentS (-100 - (1 + x)) 0 = (0, 100) := percentS_no (by omega)
  have f4 : addS (-1073741824) (-(1 + x)) = (0, 101) := by
    unfold addS; rw [if_pos ⟨by decide, mayB_true.2 (by omega)⟩]; exact if_neg (by rw [mayB_true]; omega)
  rcases (by omega : i = 0 ∨ i = 1) with rfl | rfl
  · have g1 : mayB (1073741824 + (1 + x)) = false := mayB_false.2 (by omega)
    have g2 := addS_no (b := 0) (.inl g1)
    have g3 := addS_no (a := 0) (.inr g1)
    have g4 := mulDivS_no (b := 1) (c := 1) (.inl g1)
    have g5 := mulDivS_no (a := 1) (c := 1) (.inr (.inl g1))
    have g6 := percentS_no (p := 1) (.inl g1)
    have hk : Kept w w := Kept.refl w
    go_enter Try.func5, Try.ntmps5
    go_wp2_with (first
    | (go_at_call 10; refine (unitMulDiv_any _ _ _ _).mono ?_; rintro e w1 ⟨rfl, hn⟩; replace hk := Kept.trans (by first | exact hk | exact hk.alloc _ | exact (hk.alloc _).alloc _) hn)
    | (go_at_call 8; refine (unitAdd_any _ _ _).mono ?_; rintro e w1 ⟨rfl, hn⟩; replace hk := Kept.trans (by first | exact hk | exact hk.alloc _ | exact (hk.alloc _).alloc _) hn)
    | (go_at_call 12; refine (unitPercent_any _ _ _).mono ?_; rintro e w1 ⟨rfl, hn⟩; replace hk := Kept.trans (by first | exact hk | exact hk.alloc _ | exact (hk.alloc _).alloc _) hn)
    | (go_at_call 14; refine (unitMay_any _ _).mono ?_; rintro e w1 ⟨rfl, hn⟩; replace hk := Kept.trans (by first | exact hk | exact hk.alloc _ | exact (hk.alloc _).alloc _) hn)
    | (go_at_call 17; refine (awake1_any _).mono ?_; rintro e w1 ⟨rfl, hn⟩; replace hk := Kept.trans (by first | exact hk | exact hk.alloc _ | exact (hk.alloc _).alloc _) hn)
    | (go_at_call 16; refine (num_any _ _).mono ?_; rintro e w1 ⟨rfl, rfl⟩))
    go_ret
    exact ⟨rfl, by first | exact hk | exact hk.alloc _ | exact (hk.alloc _).alloc _⟩
  · have g1 : mayB (-1073741824 - (1 + x)) = false := mayB_false.2 (by omega)
    have g2 := addS_no (b := 0) (.inl g1)
    have g3 := addS_no (a := 0) (.inr g1)
    have g4 := mulDivS_no (b := 1) (c := 1) (.inl g1)
    have g5 := mulDivS_no (a := 1) (c := 1) (.inr (.inl g1))
    have g6 := percentS_no (p := 1) (.inl g1)
    have hk : Kept w w := Kept.refl w
    go_enter Try.func5, Try.ntmps5
    go_wp2_with (first
    | (go_at_call 10; refine (unitMulDiv_any _ _ _ _).mono ?_; rintro e w1 ⟨rfl, hn⟩; replace hk := Kept.trans (by first | exact hk | exact hk.alloc _ | exact (hk.alloc _).alloc _) hn)
    | (go_at_call 8; refine (unitAdd_any _ _ _).mono ?_; rintro e w1 ⟨rfl, hn⟩; replace hk := Kept.trans (by first | exact hk | exact hk.alloc _ | exact (hk.alloc _).alloc _) hn)
    | (go_at_call 12; refine (unitPercent_any _ _ _).mono ?_; rintro e w1 ⟨rfl, hn⟩; replace hk := Kept.trans (by first | exact hk | exact hk.alloc _ | exact (hk.alloc _).alloc _) hn)
    | (go_at_call 14; refine (unitMay_any _ _).mono ?_; rintro e w1 ⟨rfl, hn⟩; replace hk := Kept.trans (by first | exact hk | exact hk.alloc _ | exact (hk.alloc _).alloc _) hn)
    | (go_at_call 17; refine (awake1_any _).mono ?_; rintro e w1 ⟨rfl, hn⟩; replace hk := Kept.trans (by first | exact hk | exact hk.alloc _ | exact (hk.alloc _).alloc _) hn)
    | (go_at_call 16; refine (num_any _ _).mono ?_; rintro e w1 ⟨rfl, rfl⟩))
    go_ret
    exact ⟨rfl, by first | exact hk | exact hk.alloc _ | exact (hk.alloc _).alloc _⟩
end Go.Proofs.Ytkgjabeoiiphmaa
