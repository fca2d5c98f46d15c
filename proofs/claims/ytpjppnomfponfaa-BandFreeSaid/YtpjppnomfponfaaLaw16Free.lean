/- Layer 16: no float that stands there meets what is free; behind all of them all is free. -/
import Derived.Test.YtpjppnomfponfaaLaw16High
namespace Go.Proofs.Ytpjppnomfponfaa
open Go.RowKit Go.Deep
set_option linter.unusedSimpArgs false
set_option linter.unusedVariables false
theorem bandS_beside (E : Nat → Exc) (room y h : Int) : ∀ k i, i < k → meetsB (E i) y h = true → ((E i).side = 1 → (E i).ai + (E i).si ≤ (bandS E room y h k).1) ∧ ((E i).side ≠ 1 → (bandS E room y h k).2 ≤ (E i).ai) := by
  intro k
  induction k with
  | zero => intro i hi; omega
  | succ k ih =>
    intro i hi hm
    have hmono := bandS_more E room y h k
    rcases Nat.lt_or_ge i k with h1 | h1
    · obtain ⟨a, b⟩ := ih i h1 hm
      exact ⟨fun hs => by have := a hs; omega, fun hs => by have := b hs; omega⟩
    · obtain rfl : i = k := by omega
      have e : bandS E room y h (i + 1) = if (E i).side = 1 then (max (bandS E room y h i).1 ((E i).ai + (E i).si), (bandS E room y h i).2) else ((bandS E room y h i).1, min (bandS E room y h i).2 (E i).ai) := by
        rw [show bandS E room y h (i + 1) = if meetsB (E i) y h = true then (if (E i).side = 1 then (max (bandS E room y h i).1 ((E i).ai + (E i).si), (bandS E room y h i).2) else ((bandS E room y h i).1, min (bandS E room y h i).2 (E i).ai)) else bandS E room y h i from rfl, if_pos hm]
      rw [e]
      exact ⟨fun hs => by rw [if_pos hs]; dsimp only; omega, fun hs => by rw [if_neg hs]; dsimp only; omega⟩
theorem bandS_clear {E : Nat → Exc} {room y h : Int} {n : Nat} (hm : ∀ i, i < n → meetsB (E i) y h = false) : ∀ k, k ≤ n → bandS E room y h k = (0, room) := by
  intro k
  induction k with
  | zero => intro _; rfl
  | succ k ih =>
    intro hk
    unfold bandS
    rw [hm k (by omega), if_neg (by decide)]
    exact ih (by omega)
theorem belowS_all {E : Nat → Exc} {n : Nat} (ha : allE E n = true) : ∀ k, k ≤ n → ∀ i, i < k → endS (E i) ≤ belowS E 3 k := by
  intro k
  induction k with
  | zero => intro _ i hi; omega
  | succ k ih =>
    intro hk i hi
    have hp := excB_parts (allE_yes ha k (by omega))
    have hc : clearsB 3 (E k).side = true := by
      rcases (by omega : (E k).side = 1 ∨ (E k).side = 2) with h | h <;> rw [h] <;> rfl
    have e : belowS E 3 (k + 1) = max (belowS E 3 k) (endS (E k)) := by
      rw [show belowS E 3 (k + 1) = if clearsB 3 (E k).side = true then max (belowS E 3 k) (endS (E k)) else belowS E 3 k from rfl, if_pos hc]
    rw [e]
    rcases Nat.lt_or_ge i k with h1 | h1
    · have := ih (by omega) i h1; omega
    · obtain rfl : i = k := by omega
      omega
set_option maxRecDepth 20000 in
theorem bandFree_no (v : Value) (n : Nat) (Z : Nat → Nat → Int) (room y h : Int) (w : World) (hv : RV 5 w v n (intC Z)) (hn : n ≤ 3518437208780) (hb : askB room n (excOf Z) y h = false) :
    Calls Try.prog 3 #[v, .int .i64 room, .int .i64 y, .int .i64 h] w fun e w' => e = .returned (.bool true) ∧ Kept w w' := by
  have HB := Lib.hid hb
  clear hb
  have hk : Kept w w := Kept.refl w
  go_enter Try.func3, Try.ntmps3
  go_wp2_with fail
  refine (awake16_any _).mono ?_
  rintro e w1 ⟨rfl, hn⟩
  replace hk := hk.trans hn
  clear hn
  go_wp2_with fail
  refine (bandBand_no _ n Z _ _ _ _ (hv.kept hk) (by omega) HB.out).mono ?_
  rintro e w1 ⟨rfl, hn⟩
  replace hk := hk.trans hn
  clear hn
  go_wp2_with fail
  refine (num_any _ _).mono ?_
  rintro e w1 ⟨rfl, rfl⟩
  go_wp2
  go_ret
  exact ⟨rfl, hk⟩
set_option maxRecDepth 20000 in
set_option maxHeartbeats 8000000 in
theorem bandFree_yes (sl : Option Addr) (n cap : Nat) (Z : Nat → Nat → Int) (room y h p q low : Int) (w : World) (hv : RV 5 w (.slice sl n cap) n (intC Z)) (h32 : n ≤ 32) (hyb : 0 ≤ y ∧ y ≤ 4194304) (hhb : 0 ≤ h ∧ h ≤ 4194304) (pb : 0 ≤ p ∧ p ≤ 1077936128) (hpq : p ≤ q) (qb : q ≤ 1077936128) (hlb : 0 ≤ low ∧ low ≤ 8388608)
    (H1 : ∀ wx, RV 5 wx (.slice sl n cap) n (intC Z) → Calls Try.prog 12 #[.slice sl n cap, .int .i64 room, .int .i64 y, .int .i64 h] wx fun e w' => e = .returned (.tuple #[.int .i64 p, .int .i64 q, .int .i64 0]) ∧ Kept wx w')
    (HBe : Hid (∀ wx, RV 5 wx (.slice sl n cap) n (intC Z) → Calls Try.prog 14 #[.slice sl n cap, .int .i64 3] wx fun e w' => e = .returned (.tuple #[.int .i64 low, .int .i64 0]) ∧ Kept wx w'))
    (HLast : Hid (low ≤ 4194304 → (∀ j, j < n → (excOf Z j).sb ≠ 0 ∧ (excOf Z j).ab < low) → ∀ wx, RV 5 wx (.slice sl n cap) n (intC Z) → Calls Try.prog 12 #[.slice sl n cap, .int .i64 room, .int .i64 low, .int .i64 h] wx fun e w' => e = .returned (.tuple #[.int .i64 0, .int .i64 room, .int .i64 0]) ∧ Kept wx w'))
    (HP : Hid (∀ k, k < n → (1 ≤ (excOf Z k).side ∧ (excOf Z k).side ≤ 2) ∧ (0 ≤ (excOf Z k).si ∧ (excOf Z k).si ≤ 4194304) ∧ (0 ≤ (excOf Z k).sb ∧ (excOf Z k).sb ≤ 4194304) ∧ (0 ≤ (excOf Z k).ab ∧ (excOf Z k).ab ≤ 4194304) ∧ -1073741824 ≤ (excOf Z k).ai ∧ (excOf Z k).ai ≤ 1073741824))
    (HM : Hid (p < q → ∀ k, k < n → (excOf Z k).ab < y + max 1 h → y < (excOf Z k).ab + (excOf Z k).sb → ((excOf Z k).side = 1 → (excOf Z k).ai + (excOf Z k).si ≤ p) ∧ ((excOf Z k).side ≠ 1 → q ≤ (excOf Z k).ai))) :
    Calls Try.prog 3 #[.slice sl n cap, .int .i64 room, .int .i64 y, .int .i64 h] w fun e w' => e = .returned (.bool true) ∧ Kept w w' := by
  replace H1 := Lib.hid H1
  rcases (by omega : p < q ∨ (q ≤ p ∧ n ≤ 0) ∨ (q ≤ p ∧ 0 < n)) with hc | ⟨hc, hn0⟩ | ⟨hc, hn0⟩
  · have HM2 := Lib.hid (HM.out hc)
    clear HM
    have hk : Kept w w := Kept.refl w
    go_enter Try.func3, Try.ntmps3
    go_wp2_with fail
    refine (awake16_any _).mono ?_
    rintro e w1 ⟨rfl, hn⟩
    replace hk := hk.trans hn
    clear hn
    go_wp2_with fail
    refine (H1.out _ (hv.kept hk)).mono ?_
    rintro e w1 ⟨rfl, hn⟩
    replace hk := hk.trans hn
    clear hn
    go_wp2_with fail
    refine (num_any _ _).mono ?_
    rintro e w1 ⟨rfl, rfl⟩
    go_wp2
    go_loopw [12, 13] (fun i _ wx => ∃ k : Nat, k ≤ n ∧ i = .int .i64 k ∧ Kept w wx) (fun i _ _ => n - (intOf i).toNat)
    case atStart => exact ⟨0, Nat.zero_le _, rfl, hk⟩
    case round =>
      clear hk
      obtain ⟨k, hkn, rfl, hk⟩ := hrel
      by_cases hlt : k < n
      · obtain ⟨b, off, rfl, _, hrow⟩ := (hv.kept hk).row (by omega)
        have c0 : wr.cell? ⟨b, off + k * 5, none⟩ = some (.int .i64 (excOf Z k).ai) := hrow k 0 hlt (by decide)
        have c1 : wr.cell? ⟨b, off + k * 5 + 1, none⟩ = some (.int .i64 (excOf Z k).ab) := hrow k 1 hlt (by decide)
        have c2 : wr.cell? ⟨b, off + k * 5 + 2, none⟩ = some (.int .i64 (excOf Z k).si) := hrow k 2 hlt (by decide)
        have c3 : wr.cell? ⟨b, off + k * 5 + 3, none⟩ = some (.int .i64 (excOf Z k).sb) := hrow k 3 hlt (by decide)
        have c4 : wr.cell? ⟨b, off + k * 5 + 4, none⟩ = some (.int .i64 (excOf Z k).side) := hrow k 4 hlt (by decide)
        have hbl := World.block_lt_of_cell? wr _ c0
        have hki : (k : Int) < (n : Int) := by omega
        have b2 := HP.out k hlt
        have hm := HM2.out k hlt
        clear hrow HP HM2
        generalize excOf Z k = x at *
        obtain ⟨a1, a2, a3, a4, a5⟩ := x
        dsimp only at c0 c1 c2 c3 c4 b2 hm
        rcases (by omega : h = 0 ∨ h = 1 ∨ 1 < h) with rfl | rfl | h1
        · by_cases g1 : a2 < y + 1
          · by_cases g2 : y < a2 + a4
            · have hm2 := hm (by omega) g2
              clear hm
              rcases (by omega : a5 = 1 ∨ a5 = 2) with rfl | rfl
              · have hm3 := hm2.1 rfl
                clear hm2
                go_wp2
                go_roundw
                case rel => exact ⟨k + 1, by omega, by go_num, (by first | ((repeat (first | with_reducible exact hk | with_reducible refine Kept.alloc ?_ _ | with_reducible refine Kept.drew ?_ | with_reducible refine Kept.drewN ?_ _ | with_reducible refine Kept.set ?_ (by first | (simp; done) | (simp; omega) | omega) _)); done) | exact hk | exact (hk.alloc _) | exact ((hk.alloc _).alloc _) | exact (((hk.alloc _).alloc _).alloc _) | exact ((((hk.alloc _).alloc _).alloc _).alloc _) | exact (((((hk.alloc _).alloc _).alloc _).alloc _).alloc _) | exact ((((((hk.alloc _).alloc _).alloc _).alloc _).alloc _).alloc _) | (repeat (first | exact hk | refine Kept.alloc ?_ _ | refine Kept.drew ?_ | refine Kept.drewN ?_ _ | refine Kept.set ?_ (by first | (simp; done) | (simp; omega) | omega) _)))⟩
                case measure => simp [intOf]; omega
              · have hm3 := hm2.2 (by decide)
                clear hm2
                go_wp2
                go_roundw
                case rel => exact ⟨k + 1, by omega, by go_num, (by first | ((repeat (first | with_reducible exact hk | with_reducible refine Kept.alloc ?_ _ | with_reducible refine Kept.drew ?_ | with_reducible refine Kept.drewN ?_ _ | with_reducible refine Kept.set ?_ (by first | (simp; done) | (simp; omega) | omega) _)); done) | exact hk | exact (hk.alloc _) | exact ((hk.alloc _).alloc _) | exact (((hk.alloc _).alloc _).alloc _) | exact ((((hk.alloc _).alloc _).alloc _).alloc _) | exact (((((hk.alloc _).alloc _).alloc _).alloc _).alloc _) | exact ((((((hk.alloc _).alloc _).alloc _).alloc _).alloc _).alloc _) | (repeat (first | exact hk | refine Kept.alloc ?_ _ | refine Kept.drew ?_ | refine Kept.drewN ?_ _ | refine Kept.set ?_ (by first | (simp; done) | (simp; omega) | omega) _)))⟩
                case measure => simp [intOf]; omega
            · clear hm
              go_wp2
              go_roundw
              case rel => exact ⟨k + 1, by omega, by go_num, (by first | ((repeat (first | with_reducible exact hk | with_reducible refine Kept.alloc ?_ _ | with_reducible refine Kept.drew ?_ | with_reducible refine Kept.drewN ?_ _ | with_reducible refine Kept.set ?_ (by first | (simp; done) | (simp; omega) | omega) _)); done) | exact hk | exact (hk.alloc _) | exact ((hk.alloc _).alloc _) | exact (((hk.alloc _).alloc _).alloc _) | exact ((((hk.alloc _).alloc _).alloc _).alloc _) | exact (((((hk.alloc _).alloc _).alloc _).alloc _).alloc _) | exact ((((((hk.alloc _).alloc _).alloc _).alloc _).alloc _).alloc _) | (repeat (first | exact hk | refine Kept.alloc ?_ _ | refine Kept.drew ?_ | refine Kept.drewN ?_ _ | refine Kept.set ?_ (by first | (simp; done) | (simp; omega) | omega) _)))⟩
              case measure => simp [intOf]; omega
          · clear hm
            go_wp2
            go_roundw
            case rel => exact ⟨k + 1, by omega, by go_num, (by first | ((repeat (first | with_reducible exact hk | with_reducible refine Kept.alloc ?_ _ | with_reducible refine Kept.drew ?_ | with_reducible refine Kept.drewN ?_ _ | with_reducible refine Kept.set ?_ (by first | (simp; done) | (simp; omega) | omega) _)); done) | exact hk | exact (hk.alloc _) | exact ((hk.alloc _).alloc _) | exact (((hk.alloc _).alloc _).alloc _) | exact ((((hk.alloc _).alloc _).alloc _).alloc _) | exact (((((hk.alloc _).alloc _).alloc _).alloc _).alloc _) | exact ((((((hk.alloc _).alloc _).alloc _).alloc _).alloc _).alloc _) | (repeat (first | exact hk | refine Kept.alloc ?_ _ | refine Kept.drew ?_ | refine Kept.drewN ?_ _ | refine Kept.set ?_ (by first | (simp; done) | (simp; omega) | omega) _)))⟩
            case measure => simp [intOf]; omega
        · by_cases g1 : a2 < y + 1
          · by_cases g2 : y < a2 + a4
            · have hm2 := hm (by omega) g2
              clear hm
              rcases (by omega : a5 = 1 ∨ a5 = 2) with rfl | rfl
              · have hm3 := hm2.1 rfl
                clear hm2
                go_wp2
                go_roundw
                case rel => exact ⟨k + 1, by omega, by go_num, (by first | ((repeat (first | with_reducible exact hk | with_reducible refine Kept.alloc ?_ _ | with_reducible refine Kept.drew ?_ | with_reducible refine Kept.drewN ?_ _ | with_reducible refine Kept.set ?_ (by first | (simp; done) | (simp; omega) | omega) _)); done) | exact hk | exact (hk.alloc _) | exact ((hk.alloc _).alloc _) | exact (((hk.alloc _).alloc _).alloc _) | exact ((((hk.alloc _).alloc _).alloc _).alloc _) | exact (((((hk.alloc _).alloc _).alloc _).alloc _).alloc _) | exact ((((((hk.alloc _).alloc _).alloc _).alloc _).alloc _).alloc _) | (repeat (first | exact hk | refine Kept.alloc ?_ _ | refine Kept.drew ?_ | refine Kept.drewN ?_ _ | refine Kept.set ?_ (by first | (simp; done) | (simp; omega) | omega) _)))⟩
                case measure => simp [intOf]; omega
              · have hm3 := hm2.2 (by decide)
                clear hm2
                go_wp2
                go_roundw
                case rel => exact ⟨k + 1, by omega, by go_num, (by first | ((repeat (first | with_reducible exact hk | with_reducible refine Kept.alloc ?_ _ | with_reducible refine Kept.drew ?_ | with_reducible refine Kept.drewN ?_ _ | with_reducible refine Kept.set ?_ (by first | (simp; done) | (simp; omega) | omega) _)); done) | exact hk | exact (hk.alloc _) | exact ((hk.alloc _).alloc _) | exact (((hk.alloc _).alloc _).alloc _) | exact ((((hk.alloc _).alloc _).alloc _).alloc _) | exact (((((hk.alloc _).alloc _).alloc _).alloc _).alloc _) | exact ((((((hk.alloc _).alloc _).alloc _).alloc _).alloc _).alloc _) | (repeat (first | exact hk | refine Kept.alloc ?_ _ | refine Kept.drew ?_ | refine Kept.drewN ?_ _ | refine Kept.set ?_ (by first | (simp; done) | (simp; omega) | omega) _)))⟩
                case measure => simp [intOf]; omega
            · clear hm
              go_wp2
              go_roundw
              case rel => exact ⟨k + 1, by omega, by go_num, (by first | ((repeat (first | with_reducible exact hk | with_reducible refine Kept.alloc ?_ _ | with_reducible refine Kept.drew ?_ | with_reducible refine Kept.drewN ?_ _ | with_reducible refine Kept.set ?_ (by first | (simp; done) | (simp; omega) | omega) _)); done) | exact hk | exact (hk.alloc _) | exact ((hk.alloc _).alloc _) | exact (((hk.alloc _).alloc _).alloc _) | exact ((((hk.alloc _).alloc _).alloc _).alloc _) | exact (((((hk.alloc _).alloc _).alloc _).alloc _).alloc _) | exact ((((((hk.alloc _).alloc _).alloc _).alloc _).alloc _).alloc _) | (repeat (first | exact hk | refine Kept.alloc ?_ _ | refine Kept.drew ?_ | refine Kept.drewN ?_ _ | refine Kept.set ?_ (by first | (simp; done) | (simp; omega) | omega) _)))⟩
              case measure => simp [intOf]; omega
          · clear hm
            go_wp2
            go_roundw
            case rel => exact ⟨k + 1, by omega, by go_num, (by first | ((repeat (first | with_reducible exact hk | with_reducible refine Kept.alloc ?_ _ | with_reducible refine Kept.drew ?_ | with_reducible refine Kept.drewN ?_ _ | with_reducible refine Kept.set ?_ (by first | (simp; done) | (simp; omega) | omega) _)); done) | exact hk | exact (hk.alloc _) | exact ((hk.alloc _).alloc _) | exact (((hk.alloc _).alloc _).alloc _) | exact ((((hk.alloc _).alloc _).alloc _).alloc _) | exact (((((hk.alloc _).alloc _).alloc _).alloc _).alloc _) | exact ((((((hk.alloc _).alloc _).alloc _).alloc _).alloc _).alloc _) | (repeat (first | exact hk | refine Kept.alloc ?_ _ | refine Kept.drew ?_ | refine Kept.drewN ?_ _ | refine Kept.set ?_ (by first | (simp; done) | (simp; omega) | omega) _)))⟩
            case measure => simp [intOf]; omega
        · by_cases g1 : a2 < y + h
          · by_cases g2 : y < a2 + a4
            · have hm2 := hm (by omega) g2
              clear hm
              rcases (by omega : a5 = 1 ∨ a5 = 2) with rfl | rfl
              · have hm3 := hm2.1 rfl
                clear hm2
                go_wp2
                go_roundw
                case rel => exact ⟨k + 1, by omega, by go_num, (by first | ((repeat (first | with_reducible exact hk | with_reducible refine Kept.alloc ?_ _ | with_reducible refine Kept.drew ?_ | with_reducible refine Kept.drewN ?_ _ | with_reducible refine Kept.set ?_ (by first | (simp; done) | (simp; omega) | omega) _)); done) | exact hk | exact (hk.alloc _) | exact ((hk.alloc _).alloc _) | exact (((hk.alloc _).alloc _).alloc _) | exact ((((hk.alloc _).alloc _).alloc _).alloc _) | exact (((((hk.alloc _).alloc _).alloc _).alloc _).alloc _) | exact ((((((hk.alloc _).alloc _).alloc _).alloc _).alloc _).alloc _) | (repeat (first | exact hk | refine Kept.alloc ?_ _ | refine Kept.drew ?_ | refine Kept.drewN ?_ _ | refine Kept.set ?_ (by first | (simp; done) | (simp; omega) | omega) _)))⟩
                case measure => simp [intOf]; omega
              · have hm3 := hm2.2 (by decide)
                clear hm2
                go_wp2
                go_roundw
                case rel => exact ⟨k + 1, by omega, by go_num, (by first | ((repeat (first | with_reducible exact hk | with_reducible refine Kept.alloc ?_ _ | with_reducible refine Kept.drew ?_ | with_reducible refine Kept.drewN ?_ _ | with_reducible refine Kept.set ?_ (by first | (simp; done) | (simp; omega) | omega) _)); done) | exact hk | exact (hk.alloc _) | exact ((hk.alloc _).alloc _) | exact (((hk.alloc _).alloc _).alloc _) | exact ((((hk.alloc _).alloc _).alloc _).alloc _) | exact (((((hk.alloc _).alloc _).alloc _).alloc _).alloc _) | exact ((((((hk.alloc _).alloc _).alloc _).alloc _).alloc _).alloc _) | (repeat (first | exact hk | refine Kept.alloc ?_ _ | refine Kept.drew ?_ | refine Kept.drewN ?_ _ | refine Kept.set ?_ (by first | (simp; done) | (simp; omega) | omega) _)))⟩
                case measure => simp [intOf]; omega
            · clear hm
              go_wp2
              go_roundw
              case rel => exact ⟨k + 1, by omega, by go_num, (by first | ((repeat (first | with_reducible exact hk | with_reducible refine Kept.alloc ?_ _ | with_reducible refine Kept.drew ?_ | with_reducible refine Kept.drewN ?_ _ | with_reducible refine Kept.set ?_ (by first | (simp; done) | (simp; omega) | omega) _)); done) | exact hk | exact (hk.alloc _) | exact ((hk.alloc _).alloc _) | exact (((hk.alloc _).alloc _).alloc _) | exact ((((hk.alloc _).alloc _).alloc _).alloc _) | exact (((((hk.alloc _).alloc _).alloc _).alloc _).alloc _) | exact ((((((hk.alloc _).alloc _).alloc _).alloc _).alloc _).alloc _) | (repeat (first | exact hk | refine Kept.alloc ?_ _ | refine Kept.drew ?_ | refine Kept.drewN ?_ _ | refine Kept.set ?_ (by first | (simp; done) | (simp; omega) | omega) _)))⟩
              case measure => simp [intOf]; omega
          · clear hm
            go_wp2
            go_roundw
            case rel => exact ⟨k + 1, by omega, by go_num, (by first | ((repeat (first | with_reducible exact hk | with_reducible refine Kept.alloc ?_ _ | with_reducible refine Kept.drew ?_ | with_reducible refine Kept.drewN ?_ _ | with_reducible refine Kept.set ?_ (by first | (simp; done) | (simp; omega) | omega) _)); done) | exact hk | exact (hk.alloc _) | exact ((hk.alloc _).alloc _) | exact (((hk.alloc _).alloc _).alloc _) | exact ((((hk.alloc _).alloc _).alloc _).alloc _) | exact (((((hk.alloc _).alloc _).alloc _).alloc _).alloc _) | exact ((((((hk.alloc _).alloc _).alloc _).alloc _).alloc _).alloc _) | (repeat (first | exact hk | refine Kept.alloc ?_ _ | refine Kept.drew ?_ | refine Kept.drewN ?_ _ | refine Kept.set ?_ (by first | (simp; done) | (simp; omega) | omega) _)))⟩
            case measure => simp [intOf]; omega
      · obtain rfl : n = k := by omega
        clear hlt hkn HM2 HP
        obtain ⟨w1, hw1⟩ : ∃ w1 : World, w1 = wr := ⟨_, rfl⟩
        subst hw1
        go_wp2_with fail
        refine (HBe.out _ (hv.kept hk)).mono ?_
        rintro e w1 ⟨rfl, hn⟩
        replace hk := hk.trans hn
        clear hn
        go_wp2_with fail
        refine (num_any _ _).mono ?_
        rintro e w1 ⟨rfl, rfl⟩
        rcases Int.lt_or_le 4194304 low with hlow | hlow
        · go_wp2
          go_ret
          exact ⟨rfl, hk⟩
        go_wp2
        obtain ⟨wl, hwl⟩ : ∃ wl : World, wl = w1 := ⟨_, rfl⟩
        subst hwl
        have hkl := Lib.hid hk
        clear hk
        go_loop [16] (fun i => ∃ k : Nat, k ≤ n ∧ i = .int .i64 k ∧ Hid (∀ j, j < k → (excOf Z j).sb ≠ 0 ∧ (excOf Z j).ab < low)) (fun i => n - (intOf i).toNat)
        case atStart => exact ⟨0, Nat.zero_le _, rfl, Lib.hid fun j hj => by omega⟩
        case round =>
          obtain ⟨k, hkn, rfl, hall⟩ := hrel
          by_cases hlt : k < n
          · obtain ⟨b, off, rfl, _, hrow⟩ := (hv.kept hkl.out).row (by omega)
            have c1 : wl.cell? ⟨b, off + k * 5 + 1, none⟩ = some (.int .i64 (excOf Z k).ab) := hrow k 1 hlt (by decide)
            have c3 : wl.cell? ⟨b, off + k * 5 + 3, none⟩ = some (.int .i64 (excOf Z k).sb) := hrow k 3 hlt (by decide)
            have hki : (k : Int) < (n : Int) := by omega
            have HN := Lib.hid (fun (h1 : (excOf Z k).sb ≠ 0) (h2 : (excOf Z k).ab < low) => (show ∀ j, j < k + 1 → (excOf Z j).sb ≠ 0 ∧ (excOf Z j).ab < low from fun j hj => by
              rcases Nat.lt_or_ge j k with h3 | h3
              · exact hall.out j h3
              · obtain rfl : j = k := by omega
                exact ⟨h1, h2⟩))
            clear hrow
            generalize (excOf Z k).ab = a at *
            generalize (excOf Z k).sb = s at *
            rcases (by omega : s = 0 ∨ s ≠ 0) with rfl | hs
            · go_wp2
              go_ret
              exact ⟨rfl, hkl.out⟩
            · have hs' : (s == 0) = false := by simpa using hs
              rcases Int.lt_or_le a low with ha | ha
              · have hnx := Lib.hid (HN.out hs ha)
                clear HN hs
                go_wp2
                go_round
                case rel => exact ⟨k + 1, by omega, by go_num, hnx⟩
                case measure => simp [intOf]; omega
              · clear HN hs
                go_wp2
                go_ret
                exact ⟨rfl, hkl.out⟩
          · obtain rfl : k = n := by omega
            have hlast := HLast.out (by omega) hall.out
            have HLL := Lib.hid hlast
            have hk := hkl.out
            clear hlast hkl
            go_wp2_with fail
            refine (HLL.out _ (hv.kept hk)).mono ?_
            rintro e w1 ⟨rfl, hn⟩
            replace hk := hk.trans hn
            clear hn
            go_wp2_with fail
            refine (num_any _ _).mono ?_
            rintro e w1 ⟨rfl, rfl⟩
            go_wp2
            go_ret
            exact ⟨rfl, hk⟩
  · clear HM HP
    have hk : Kept w w := Kept.refl w
    go_enter Try.func3, Try.ntmps3
    go_wp2_with fail
    refine (awake16_any _).mono ?_
    rintro e w1 ⟨rfl, hn⟩
    replace hk := hk.trans hn
    clear hn
    go_wp2_with fail
    refine (H1.out _ (hv.kept hk)).mono ?_
    rintro e w1 ⟨rfl, hn⟩
    replace hk := hk.trans hn
    clear hn
    go_wp2_with fail
    refine (num_any _ _).mono ?_
    rintro e w1 ⟨rfl, rfl⟩
    go_wp2
    refine wp_loop_rounds 1 ?_
    rw [rounds_succ]
    go_wp2_with fail
    refine (HBe.out _ (hv.kept hk)).mono ?_
    rintro e w1 ⟨rfl, hn⟩
    replace hk := hk.trans hn
    clear hn
    go_wp2_with fail
    refine (num_any _ _).mono ?_
    rintro e w1 ⟨rfl, rfl⟩
    rcases Int.lt_or_le 4194304 low with hlow | hlow
    · go_wp2
      go_ret
      exact ⟨rfl, hk⟩
    go_wp2
    obtain ⟨wl, hwl⟩ : ∃ wl : World, wl = w1 := ⟨_, rfl⟩
    subst hwl
    have hkl := Lib.hid hk
    clear hk
    go_loop [16] (fun i => ∃ k : Nat, k ≤ n ∧ i = .int .i64 k ∧ Hid (∀ j, j < k → (excOf Z j).sb ≠ 0 ∧ (excOf Z j).ab < low)) (fun i => n - (intOf i).toNat)
    case atStart => exact ⟨0, Nat.zero_le _, rfl, Lib.hid fun j hj => by omega⟩
    case round =>
      obtain ⟨k, hkn, rfl, hall⟩ := hrel
      by_cases hlt : k < n
      · exfalso; omega
      · obtain rfl : k = n := by omega
        have hlast := HLast.out (by omega) hall.out
        have HLL := Lib.hid hlast
        have hk := hkl.out
        clear hlast hkl
        go_wp2_with fail
        refine (HLL.out _ (hv.kept hk)).mono ?_
        rintro e w1 ⟨rfl, hn⟩
        replace hk := hk.trans hn
        clear hn
        go_wp2_with fail
        refine (num_any _ _).mono ?_
        rintro e w1 ⟨rfl, rfl⟩
        go_wp2
        go_ret
        exact ⟨rfl, hk⟩
  · clear HM HP
    have hk : Kept w w := Kept.refl w
    go_enter Try.func3, Try.ntmps3
    go_wp2_with fail
    refine (awake16_any _).mono ?_
    rintro e w1 ⟨rfl, hn⟩
    replace hk := hk.trans hn
    clear hn
    go_wp2_with fail
    refine (H1.out _ (hv.kept hk)).mono ?_
    rintro e w1 ⟨rfl, hn⟩
    replace hk := hk.trans hn
    clear hn
    go_wp2_with fail
    refine (num_any _ _).mono ?_
    rintro e w1 ⟨rfl, rfl⟩
    go_wp2
    refine wp_loop_rounds 1 ?_
    rw [rounds_succ]
    go_wp2_with fail
    refine (HBe.out _ (hv.kept hk)).mono ?_
    rintro e w1 ⟨rfl, hn⟩
    replace hk := hk.trans hn
    clear hn
    go_wp2_with fail
    refine (num_any _ _).mono ?_
    rintro e w1 ⟨rfl, rfl⟩
    rcases Int.lt_or_le 4194304 low with hlow | hlow
    · go_wp2
      go_ret
      exact ⟨rfl, hk⟩
    go_wp2
    obtain ⟨wl, hwl⟩ : ∃ wl : World, wl = w1 := ⟨_, rfl⟩
    subst hwl
    have hkl := Lib.hid hk
    clear hk
    go_loop [16] (fun i => ∃ k : Nat, k ≤ n ∧ i = .int .i64 k ∧ Hid (∀ j, j < k → (excOf Z j).sb ≠ 0 ∧ (excOf Z j).ab < low)) (fun i => n - (intOf i).toNat)
    case atStart => exact ⟨0, Nat.zero_le _, rfl, Lib.hid fun j hj => by omega⟩
    case round =>
      obtain ⟨k, hkn, rfl, hall⟩ := hrel
      by_cases hlt : k < n
      · obtain ⟨b, off, rfl, _, hrow⟩ := (hv.kept hkl.out).row (by omega)
        have c1 : wl.cell? ⟨b, off + k * 5 + 1, none⟩ = some (.int .i64 (excOf Z k).ab) := hrow k 1 hlt (by decide)
        have c3 : wl.cell? ⟨b, off + k * 5 + 3, none⟩ = some (.int .i64 (excOf Z k).sb) := hrow k 3 hlt (by decide)
        have hki : (k : Int) < (n : Int) := by omega
        have HN := Lib.hid (fun (h1 : (excOf Z k).sb ≠ 0) (h2 : (excOf Z k).ab < low) => (show ∀ j, j < k + 1 → (excOf Z j).sb ≠ 0 ∧ (excOf Z j).ab < low from fun j hj => by
          rcases Nat.lt_or_ge j k with h3 | h3
          · exact hall.out j h3
          · obtain rfl : j = k := by omega
            exact ⟨h1, h2⟩))
        clear hrow
        generalize (excOf Z k).ab = a at *
        generalize (excOf Z k).sb = s at *
        rcases (by omega : s = 0 ∨ s ≠ 0) with rfl | hs
        · go_wp2
          go_ret
          exact ⟨rfl, hkl.out⟩
        · have hs' : (s == 0) = false := by simpa using hs
          rcases Int.lt_or_le a low with ha | ha
          · have hnx := Lib.hid (HN.out hs ha)
            clear HN hs
            go_wp2
            go_round
            case rel => exact ⟨k + 1, by omega, by go_num, hnx⟩
            case measure => simp [intOf]; omega
          · clear HN hs
            go_wp2
            go_ret
            exact ⟨rfl, hkl.out⟩
      · obtain rfl : k = n := by omega
        have hlast := HLast.out (by omega) hall.out
        have HLL := Lib.hid hlast
        have hk := hkl.out
        clear hlast hkl
        go_wp2_with fail
        refine (HLL.out _ (hv.kept hk)).mono ?_
        rintro e w1 ⟨rfl, hn⟩
        replace hk := hk.trans hn
        clear hn
        go_wp2_with fail
        refine (num_any _ _).mono ?_
        rintro e w1 ⟨rfl, rfl⟩
        go_wp2
        go_ret
        exact ⟨rfl, hk⟩
theorem bandFree_walk (v : Value) (n : Nat) (Z : Nat → Nat → Int) (room y h : Int) (w : World) (hv : RV 5 w v n (intC Z)) (hn : n ≤ 3518437208780) (_hz : ∀ i j, inInt (Z i j)) :
    Calls Try.prog 3 #[v, .int .i64 room, .int .i64 y, .int .i64 h] w fun e w' => e = .returned (.bool true) ∧ Kept w w' := by
  obtain ⟨sl, cap, rfl⟩ := hv.shape
  cases hb : askB room n (excOf Z) y h with
  | false => exact bandFree_no _ n Z room y h w hv hn hb
  | true =>
    obtain ⟨p, q, H1, hp, hq, pb, qb⟩ := bandBand_two (.slice sl n cap) n Z room y h hb
    obtain ⟨yb, hhb, hx⟩ := ask_bounds hb
    obtain ⟨hr, h32, hall⟩ := mayX_true.1 hx
    have hl := belowS_bd 3 hall n (Nat.le_refl _)
    refine bandFree_yes sl n cap Z room y h p q (belowS (excOf Z) 3 n) w hv h32 yb hhb pb (by omega) (by omega) hl H1 (Lib.hid fun wx hx => bandBelow_yes _ n Z 3 wx hx h32 hall rfl) (Lib.hid fun hlow hno wx hx2 => ?_) (Lib.hid fun k hk => excB_parts (allE_yes hall k hk)) (Lib.hid fun hlt k hk g1 g2 => ?_)
    · refine bandBand_is _ n Z room _ h 0 room room wx hx2 ?_ (bandS_clear (fun i hi => ?_) n (Nat.le_refl _)) (by omega)
      · unfold askB
        rw [hx, inB_true.2 ⟨hl.1, hlow⟩, inB_true.2 hhb]; rfl
      · have := belowS_all hall n (Nat.le_refl _) i hi
        unfold meetsB
        rw [decide_eq_false (show ¬ belowS (excOf Z) 3 n < endS (excOf Z i) by omega), Bool.and_false]
    · have hm : meetsB (excOf Z k) y h = true := by
        unfold meetsB endS
        rw [decide_eq_true g1, decide_eq_true g2]; rfl
      obtain ⟨a, b⟩ := bandS_beside (excOf Z) room y h n k hk hm
      exact ⟨fun hs => by have := a hs; omega, fun hs => by have := b hs; omega⟩
end Go.Proofs.Ytpjppnomfponfaa
