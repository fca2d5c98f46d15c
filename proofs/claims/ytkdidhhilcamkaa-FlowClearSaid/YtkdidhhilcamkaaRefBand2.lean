/- Layers 16, 17: bands, by the document. -/
import Derived.Test.YtkdidhhilcamkaaRefBand
import Derived.Deep.CutRange
namespace Go.Proofs.Ytkdidhhilcamkaa
open Go.RowKit Go.Deep
set_option linter.unusedSimpArgs false
set_option linter.unusedVariables false
theorem refBandS_none (o : Option Addr) (cap : Nat) (E : Nat → Exc) (room y h : Int) (w : World) (hr : 0 ≤ room ∧ room ≤ 4194304) :
    Calls Try.prog 37 #[.slice o 0 cap, .int .i64 room, .int .i64 y, .int .i64 h] w fun e w' => e = .returned (.tuple #[.int .i64 (bandS E room y h 0).1, .int .i64 (max (bandS E room y h 0).1 (bandS E room y h 0).2)]) ∧ Kept w w' := by
  have Hs := Lib.hid (show bandS E room y h 0 = (0, room) from rfl)
  rcases (by omega : 0 < room ∨ room = 0) with h1 | rfl <;> rcases (by omega : h < 1 ∨ h = 1 ∨ 1 < h) with h2 | rfl | h2
  all_goals
    go_enter Try.func37, Try.ntmps37
    go_wp2
    refine wp_loop_rounds 1 ?_
    rw [rounds_succ]
    go_wp2
    go_ret2
    exact ⟨by rw [Hs.out]; exact ret_two rfl (by dsimp only; omega), Kept.refl _⟩
set_option maxRecDepth 20000 in
set_option maxHeartbeats 4000000 in
theorem refBandS_some (b off n cap : Nat) (Z : Nat → Nat → Int) (room y h : Int) (w : World) (hw : RowAt w b off 5 n (intC Z)) (hn : n ≤ 32) (ha : allE (excOf Z) n = true) (hr : 0 ≤ room ∧ room ≤ 4194304) (hy : 0 ≤ y ∧ y ≤ 1073741824) (hh : h ≤ 1073741824) :
    Calls Try.prog 37 #[.slice (some ⟨b, off, none⟩) n cap, .int .i64 room, .int .i64 y, .int .i64 h] w fun e w' => e = .returned (.tuple #[.int .i64 (bandS (excOf Z) room y h n).1, .int .i64 (max (bandS (excOf Z) room y h n).1 (bandS (excOf Z) room y h n).2)]) ∧ Kept w w' := by
  have HB := Lib.hid (fun k hk => bandS_bd (y := y) (h := h) ha hr k hk)
  have HA := Lib.hid (fun k hk => excB_parts (allE_yes ha k hk))
  clear ha
  obtain ⟨m, hme⟩ : ∃ m, max 1 h = m := ⟨_, rfl⟩
  have hmb : 1 ≤ m ∧ m ≤ 1073741824 := by omega
  have HM := Lib.hid (fun x : Exc => (show meetsB x y h = (decide (x.ab < y + m) && decide (y < endS x)) by unfold meetsB; rw [hme]))
  replace hme := Lib.hid hme
  have hk : Kept w w := Kept.refl w
  go_enter Try.func37, Try.ntmps37
  go_upto_region 2 with fail
  go_cut [3] from 15 to 16 (fun q wx => q = .int .i64 m ∧ w = wx)
  case first =>
    rcases (by omega : h < 1 ∨ (h ≤ 1 ∧ 1 ≤ h) ∨ 1 < h) with h1 | h1 | h1
    all_goals
      go_wp2_with fail
      go_meet
      exact ⟨by have := hme.out; congr 1; omega, rfl⟩
  case rest =>
    obtain ⟨rfl, hwc⟩ := hcut
    subst hwc
    go_wp2
    go_loopw [10, 11, 12, 13] (fun p q i _ wx => ∃ k : Nat, k ≤ n ∧ i = .int .i64 k ∧ p = .int .i64 (bandS (excOf Z) room y h k).1 ∧ q = .int .i64 (bandS (excOf Z) room y h k).2 ∧ Kept w wx) (fun _ _ i _ _ => n - (intOf i).toNat)
    case atStart => exact ⟨0, Nat.zero_le _, rfl, rfl, rfl, hk⟩
    case round =>
      clear hk
      obtain ⟨k, hkn, rfl, rfl, rfl, hk⟩ := hrel
      by_cases hlt : k < n
      · have hi1 : (k : Int) < (n : Int) := by omega
        have c0 : wr.cell? ⟨b, off + k * 5, none⟩ = some (.int .i64 (excOf Z k).ai) := (hw.kept hk) k 0 hlt (by decide)
        have c1 : wr.cell? ⟨b, off + k * 5 + 1, none⟩ = some (.int .i64 (excOf Z k).ab) := (hw.kept hk) k 1 hlt (by decide)
        have c2 : wr.cell? ⟨b, off + k * 5 + 2, none⟩ = some (.int .i64 (excOf Z k).si) := (hw.kept hk) k 2 hlt (by decide)
        have c3 : wr.cell? ⟨b, off + k * 5 + 3, none⟩ = some (.int .i64 (excOf Z k).sb) := (hw.kept hk) k 3 hlt (by decide)
        have c4 : wr.cell? ⟨b, off + k * 5 + 4, none⟩ = some (.int .i64 (excOf Z k).side) := (hw.kept hk) k 4 hlt (by decide)
        have hbl := World.block_lt_of_cell? wr _ c0
        have b1 := HB.out k hkn
        have b2 := HA.out k hlt
        have hm := HM.out (excOf Z k)
        have hend : endS (excOf Z k) = (excOf Z k).ab + (excOf Z k).sb := rfl
        have hstep : bandS (excOf Z) room y h (k + 1) = if meetsB (excOf Z k) y h = true then (if (excOf Z k).side = 1 then (max (bandS (excOf Z) room y h k).1 ((excOf Z k).ai + (excOf Z k).si), (bandS (excOf Z) room y h k).2) else ((bandS (excOf Z) room y h k).1, min (bandS (excOf Z) room y h k).2 (excOf Z k).ai)) else bandS (excOf Z) room y h k := rfl
        clear HM HA HB
        obtain ⟨⟨p, q⟩, hpq⟩ : ∃ c, bandS (excOf Z) room y h k = c := ⟨_, rfl⟩
        rw [hpq] at hstep b1 ⊢
        generalize excOf Z k = x at *
        obtain ⟨z, hz⟩ : ∃ z, endS x = z := ⟨_, rfl⟩
        have hz0 : -4611686018427387904 ≤ x.ab + x.sb ∧ x.ab + x.sb ≤ 4611686018427387904 := by omega
        have HE := Lib.hid (fun wx => (show Calls Try.prog 57 #[x.V] wx (fun e w' => e = .returned (.int .i64 z) ∧ Kept wx w') from by have := refBottom_any x wx hz0; rw [hz] at this; exact this))
        rw [hz] at hm hend
        have hzb : 0 ≤ z ∧ z ≤ 8388608 := by omega
        obtain ⟨a1, a2, a3, a4, a5⟩ := x
        dsimp only at c0 c1 c2 c3 c4 b1 b2 hstep hm ⊢
        clear hpq hend hz hz0
        by_cases g1 : a2 < y + m
        · by_cases g2 : y < z
          · rw [hm, decide_eq_true g1, decide_eq_true g2, if_pos (by rfl)] at hstep
            clear hm
            rcases (by omega : a5 = 1 ∨ a5 = 2) with rfl | rfl
            · rw [if_pos rfl] at hstep
              have HS := Lib.hid hstep
              clear hstep
              rcases (by omega : p < a1 + a3 ∨ (p ≤ a1 + a3 ∧ a1 + a3 ≤ p) ∨ a1 + a3 < p) with h1 | h1 | h1
              all_goals
                have hk0 := Kept.refl wr
                go_wp2_with fail
                refine with_boxes1 ?_
                intro X hX r
                have hsz := hk.size
                replace hk := hk.trans hX
                replace hk0 := hk0.kept hX
                clear hX
                replace r_l := r.lt
                replace r_0 := r.at 0 _ rfl
                replace r_1 := r.at 1 _ rfl
                replace r_2 := r.at 2 _ rfl
                replace r_3 := r.at 3 _ rfl
                refine (HE.out _).mono ?_
                rintro e w1 ⟨rfl, hn⟩
                replace hk := hk.trans hn
                replace hk0 := hk0.kept hn
                replace r := r.kept hn
                clear hn
                replace r_l := r.lt
                replace r_0 := r.at 0 _ rfl
                replace r_1 := r.at 1 _ rfl
                replace r_2 := r.at 2 _ rfl
                replace r_3 := r.at 3 _ rfl
                have d0 : w1.cell? ⟨b, off + k * 5, none⟩ = some (.int .i64 a1) := (hk0.cell hbl).trans c0
                have d1 : w1.cell? ⟨b, off + k * 5 + 1, none⟩ = some (.int .i64 a2) := (hk0.cell hbl).trans c1
                have d2 : w1.cell? ⟨b, off + k * 5 + 2, none⟩ = some (.int .i64 a3) := (hk0.cell hbl).trans c2
                have d3 : w1.cell? ⟨b, off + k * 5 + 3, none⟩ = some (.int .i64 a4) := (hk0.cell hbl).trans c3
                have d4 : w1.cell? ⟨b, off + k * 5 + 4, none⟩ = some (.int .i64 1) := (hk0.cell hbl).trans c4
                go_wp2
                go_roundw
                case rel => exact ⟨k + 1, by omega, by go_num, by rw [HS.out]; dsimp only; first | rfl | (congr 1; omega), by rw [HS.out], hk⟩
                case measure => simp [intOf]; omega
            · rw [if_neg (by decide)] at hstep
              have HS := Lib.hid hstep
              clear hstep
              rcases (by omega : q < a1 ∨ (q ≤ a1 ∧ a1 ≤ q) ∨ a1 < q) with h1 | h1 | h1
              all_goals
                have hk0 := Kept.refl wr
                go_wp2_with fail
                refine with_boxes1 ?_
                intro X hX r
                have hsz := hk.size
                replace hk := hk.trans hX
                replace hk0 := hk0.kept hX
                clear hX
                replace r_l := r.lt
                replace r_0 := r.at 0 _ rfl
                replace r_1 := r.at 1 _ rfl
                replace r_2 := r.at 2 _ rfl
                replace r_3 := r.at 3 _ rfl
                refine (HE.out _).mono ?_
                rintro e w1 ⟨rfl, hn⟩
                replace hk := hk.trans hn
                replace hk0 := hk0.kept hn
                replace r := r.kept hn
                clear hn
                replace r_l := r.lt
                replace r_0 := r.at 0 _ rfl
                replace r_1 := r.at 1 _ rfl
                replace r_2 := r.at 2 _ rfl
                replace r_3 := r.at 3 _ rfl
                have d0 : w1.cell? ⟨b, off + k * 5, none⟩ = some (.int .i64 a1) := (hk0.cell hbl).trans c0
                have d1 : w1.cell? ⟨b, off + k * 5 + 1, none⟩ = some (.int .i64 a2) := (hk0.cell hbl).trans c1
                have d2 : w1.cell? ⟨b, off + k * 5 + 2, none⟩ = some (.int .i64 a3) := (hk0.cell hbl).trans c2
                have d3 : w1.cell? ⟨b, off + k * 5 + 3, none⟩ = some (.int .i64 a4) := (hk0.cell hbl).trans c3
                have d4 : w1.cell? ⟨b, off + k * 5 + 4, none⟩ = some (.int .i64 2) := (hk0.cell hbl).trans c4
                go_wp2
                go_roundw
                case rel => exact ⟨k + 1, by omega, by go_num, by rw [HS.out], by rw [HS.out]; dsimp only; first | rfl | (congr 1; omega), hk⟩
                case measure => simp [intOf]; omega
          · rw [hm, decide_eq_true g1, decide_eq_false g2, if_neg (by decide)] at hstep
            have HS := Lib.hid hstep
            clear hstep hm
            go_wp2_with fail
            refine with_boxes1 ?_
            intro X hX r
            have hsz := hk.size
            replace hk := hk.trans hX
            clear hX
            replace r_l := r.lt
            replace r_0 := r.at 0 _ rfl
            replace r_1 := r.at 1 _ rfl
            replace r_2 := r.at 2 _ rfl
            replace r_3 := r.at 3 _ rfl
            refine (HE.out _).mono ?_
            rintro e w1 ⟨rfl, hn⟩
            replace hk := hk.trans hn
            replace r := r.kept hn
            clear hn
            replace r_l := r.lt
            replace r_0 := r.at 0 _ rfl
            replace r_1 := r.at 1 _ rfl
            replace r_2 := r.at 2 _ rfl
            replace r_3 := r.at 3 _ rfl
            go_wp2
            go_roundw
            case rel => exact ⟨k + 1, by omega, by go_num, by rw [HS.out], by rw [HS.out], hk⟩
            case measure => simp [intOf]; omega
        · rw [hm, decide_eq_false g1, Bool.false_and, if_neg (by decide)] at hstep
          have HS := Lib.hid hstep
          clear hstep hm
          go_wp2
          go_roundw
          case rel => exact ⟨k + 1, by omega, by go_num, by rw [HS.out], by rw [HS.out], (by first | ((repeat (first | with_reducible exact hk | with_reducible refine Kept.alloc ?_ _ | with_reducible refine Kept.drew ?_ | with_reducible refine Kept.drewN ?_ _ | with_reducible refine Kept.set ?_ (by first | (simp; done) | (simp; omega) | omega) _)); done) | exact hk | exact (hk.alloc _) | exact ((hk.alloc _).alloc _) | exact (((hk.alloc _).alloc _).alloc _) | exact ((((hk.alloc _).alloc _).alloc _).alloc _) | exact (((((hk.alloc _).alloc _).alloc _).alloc _).alloc _) | exact ((((((hk.alloc _).alloc _).alloc _).alloc _).alloc _).alloc _) | (repeat (first | exact hk | refine Kept.alloc ?_ _ | refine Kept.drew ?_ | refine Kept.drewN ?_ _ | refine Kept.set ?_ (by first | (simp; done) | (simp; omega) | omega) _)))⟩
          case measure => simp [intOf]; omega
      · obtain rfl : k = n := by omega
        obtain ⟨⟨p, q⟩, hpq⟩ : ∃ c, bandS (excOf Z) room y h k = c := ⟨_, rfl⟩
        rw [hpq]
        dsimp only
        replace hpq := Lib.hid hpq
        rcases (by omega : p < q ∨ (p ≤ q ∧ q ≤ p) ∨ q < p) with h1 | h1 | h1
        all_goals
          go_wp2
          go_ret2
          exact ⟨by rw [hpq.out]; exact ret_two rfl (by dsimp only; omega), hk⟩
theorem refBandS_any (v : Value) (n : Nat) (Z : Nat → Nat → Int) (room y h : Int) (w : World) (hv : RV 5 w v n (intC Z)) (hm : mayX room n (excOf Z) = true) (hy : 0 ≤ y ∧ y ≤ 1073741824) (hh : h ≤ 1073741824) :
    Calls Try.prog 37 #[v, .int .i64 room, .int .i64 y, .int .i64 h] w fun e w' => e = .returned (.tuple #[.int .i64 (bandS (excOf Z) room y h n).1, .int .i64 (max (bandS (excOf Z) room y h n).1 (bandS (excOf Z) room y h n).2)]) ∧ Kept w w' := by
  obtain ⟨hr, h32, ha⟩ := mayX_true.1 hm
  rcases hv with ⟨rfl, o, cap, rfl⟩ | ⟨b, off, cap, rfl, _, _, hi⟩
  · exact refBandS_none o cap _ room y h w hr
  · exact refBandS_some b off n cap Z room y h w hi h32 ha hr hy hh
theorem refAlone_none (o : Option Addr) (cap : Nat) (E : Nat → Exc) (y h : Int) (w : World) :
    Calls Try.prog 38 #[.slice o 0 cap, .int .i64 y, .int .i64 h] w fun e w' => e = .returned (.bool (!anyE E y h 0)) ∧ Kept w w' := by
  have Hs := Lib.hid (show (!anyE E y h 0) = true from rfl)
  go_enter Try.func38, Try.ntmps38
  go_wp2
  refine wp_loop_rounds 1 ?_
  rw [rounds_succ]
  go_wp2
  go_ret
  exact ⟨ret_bool (by rw [Hs.out]), Kept.refl _⟩
set_option maxRecDepth 20000 in
set_option maxHeartbeats 4000000 in
theorem refAlone_some (b off n cap : Nat) (Z : Nat → Nat → Int) (y h : Int) (w : World) (hw : RowAt w b off 5 n (intC Z)) (hn : n ≤ 32) (ha : allE (excOf Z) n = true) (hy : 0 ≤ y ∧ y ≤ 1073741824) (hh : h ≤ 1073741824) :
    Calls Try.prog 38 #[.slice (some ⟨b, off, none⟩) n cap, .int .i64 y, .int .i64 h] w fun e w' => e = .returned (.bool (!anyE (excOf Z) y h n)) ∧ Kept w w' := by
  have HA := Lib.hid (fun k hk => excB_parts (allE_yes ha k hk))
  clear ha
  obtain ⟨m, hme⟩ : ∃ m, max 1 h = m := ⟨_, rfl⟩
  have hmb : 1 ≤ m ∧ m ≤ 1073741824 := by omega
  have HM := Lib.hid (fun x : Exc => (show meetsB x y h = (decide (x.ab < y + m) && decide (y < endS x)) by unfold meetsB; rw [hme]))
  rcases (by omega : (h < 1 ∧ m = 1) ∨ (h = 1 ∧ m = 1) ∨ (1 < h ∧ m = h)) with ⟨h0, rfl⟩ | ⟨rfl, rfl⟩ | ⟨h0, rfl⟩
  · skip
    clear hme
    have hk : Kept w w := Kept.refl w
    go_enter Try.func38, Try.ntmps38
    go_wp2
    go_loopw [7] (fun i wx => ∃ k : Nat, k ≤ n ∧ i = .int .i64 k ∧ Hid (anyE (excOf Z) y h k = false) ∧ Kept w wx) (fun i _ => n - (intOf i).toNat)
    case atStart => exact ⟨0, Nat.zero_le _, rfl, Lib.hid rfl, hk⟩
    case round =>
      clear hk
      obtain ⟨k, hkn, rfl, hal, hk⟩ := hrel
      by_cases hlt : k < n
      · have hi1 : (k : Int) < (n : Int) := by omega
        have c0 : wr.cell? ⟨b, off + k * 5, none⟩ = some (.int .i64 (excOf Z k).ai) := (hw.kept hk) k 0 hlt (by decide)
        have c1 : wr.cell? ⟨b, off + k * 5 + 1, none⟩ = some (.int .i64 (excOf Z k).ab) := (hw.kept hk) k 1 hlt (by decide)
        have c2 : wr.cell? ⟨b, off + k * 5 + 2, none⟩ = some (.int .i64 (excOf Z k).si) := (hw.kept hk) k 2 hlt (by decide)
        have c3 : wr.cell? ⟨b, off + k * 5 + 3, none⟩ = some (.int .i64 (excOf Z k).sb) := (hw.kept hk) k 3 hlt (by decide)
        have c4 : wr.cell? ⟨b, off + k * 5 + 4, none⟩ = some (.int .i64 (excOf Z k).side) := (hw.kept hk) k 4 hlt (by decide)
        have b2 := HA.out k hlt
        have hm := HM.out (excOf Z k)
        have hend : endS (excOf Z k) = (excOf Z k).ab + (excOf Z k).sb := rfl
        have HYES := Lib.hid (fun hb => anyE_yes (E := excOf Z) (y := y) (h := h) hlt hb)
        have HNO := Lib.hid (fun (hb : meetsB (excOf Z k) y h = false) => (show anyE (excOf Z) y h (k + 1) = false by unfold anyE; rw [hal.out, hb]; rfl))
        clear HM HA
        generalize excOf Z k = x at *
        obtain ⟨z, hz⟩ : ∃ z, endS x = z := ⟨_, rfl⟩
        have hz0 : -4611686018427387904 ≤ x.ab + x.sb ∧ x.ab + x.sb ≤ 4611686018427387904 := by omega
        have HE := Lib.hid (fun wx => (show Calls Try.prog 57 #[x.V] wx (fun e w' => e = .returned (.int .i64 z) ∧ Kept wx w') from by have := refBottom_any x wx hz0; rw [hz] at this; exact this))
        rw [hz] at hm hend
        have hzb : 0 ≤ z ∧ z ≤ 8388608 := by omega
        clear hend hz hz0
        by_cases g1 : x.ab < y + 1
        · by_cases g2 : y < z
          · have hyes := Lib.hid (HYES.out (by rw [hm, decide_eq_true g1, decide_eq_true g2]; rfl))
            clear hm HYES HNO
            go_wp2_with fail
            refine (HE.out _).mono ?_
            rintro e w1 ⟨rfl, hn⟩
            replace hk := hk.trans hn
            clear hn
            go_wp2
            go_ret
            exact ⟨ret_bool (by rw [hyes.out]; rfl), hk⟩
          · have hno := Lib.hid (HNO.out (by rw [hm, decide_eq_false g2, Bool.and_false]))
            clear hm HYES HNO
            go_wp2_with fail
            refine (HE.out _).mono ?_
            rintro e w1 ⟨rfl, hn⟩
            replace hk := hk.trans hn
            clear hn
            go_wp2
            go_roundw
            case rel => exact ⟨k + 1, by omega, by go_num, hno, hk⟩
            case measure => simp [intOf]; omega
        · have hno := Lib.hid (HNO.out (by rw [hm, decide_eq_false g1, Bool.false_and]))
          clear hm HYES HNO
          go_wp2
          go_roundw
          case rel => exact ⟨k + 1, by omega, by go_num, hno, hk⟩
          case measure => simp [intOf]; omega
      · obtain rfl : k = n := by omega
        go_wp2
        go_ret
        exact ⟨ret_bool (by rw [hal.out]; rfl), hk⟩
  · skip
    clear hme
    have hk : Kept w w := Kept.refl w
    go_enter Try.func38, Try.ntmps38
    go_wp2
    go_loopw [7] (fun i wx => ∃ k : Nat, k ≤ n ∧ i = .int .i64 k ∧ Hid (anyE (excOf Z) y 1 k = false) ∧ Kept w wx) (fun i _ => n - (intOf i).toNat)
    case atStart => exact ⟨0, Nat.zero_le _, rfl, Lib.hid rfl, hk⟩
    case round =>
      clear hk
      obtain ⟨k, hkn, rfl, hal, hk⟩ := hrel
      by_cases hlt : k < n
      · have hi1 : (k : Int) < (n : Int) := by omega
        have c0 : wr.cell? ⟨b, off + k * 5, none⟩ = some (.int .i64 (excOf Z k).ai) := (hw.kept hk) k 0 hlt (by decide)
        have c1 : wr.cell? ⟨b, off + k * 5 + 1, none⟩ = some (.int .i64 (excOf Z k).ab) := (hw.kept hk) k 1 hlt (by decide)
        have c2 : wr.cell? ⟨b, off + k * 5 + 2, none⟩ = some (.int .i64 (excOf Z k).si) := (hw.kept hk) k 2 hlt (by decide)
        have c3 : wr.cell? ⟨b, off + k * 5 + 3, none⟩ = some (.int .i64 (excOf Z k).sb) := (hw.kept hk) k 3 hlt (by decide)
        have c4 : wr.cell? ⟨b, off + k * 5 + 4, none⟩ = some (.int .i64 (excOf Z k).side) := (hw.kept hk) k 4 hlt (by decide)
        have b2 := HA.out k hlt
        have hm := HM.out (excOf Z k)
        have hend : endS (excOf Z k) = (excOf Z k).ab + (excOf Z k).sb := rfl
        have HYES := Lib.hid (fun hb => anyE_yes (E := excOf Z) (y := y) (h := 1) hlt hb)
        have HNO := Lib.hid (fun (hb : meetsB (excOf Z k) y 1 = false) => (show anyE (excOf Z) y 1 (k + 1) = false by unfold anyE; rw [hal.out, hb]; rfl))
        clear HM HA
        generalize excOf Z k = x at *
        obtain ⟨z, hz⟩ : ∃ z, endS x = z := ⟨_, rfl⟩
        have hz0 : -4611686018427387904 ≤ x.ab + x.sb ∧ x.ab + x.sb ≤ 4611686018427387904 := by omega
        have HE := Lib.hid (fun wx => (show Calls Try.prog 57 #[x.V] wx (fun e w' => e = .returned (.int .i64 z) ∧ Kept wx w') from by have := refBottom_any x wx hz0; rw [hz] at this; exact this))
        rw [hz] at hm hend
        have hzb : 0 ≤ z ∧ z ≤ 8388608 := by omega
        clear hend hz hz0
        by_cases g1 : x.ab < y + 1
        · by_cases g2 : y < z
          · have hyes := Lib.hid (HYES.out (by rw [hm, decide_eq_true g1, decide_eq_true g2]; rfl))
            clear hm HYES HNO
            go_wp2_with fail
            refine (HE.out _).mono ?_
            rintro e w1 ⟨rfl, hn⟩
            replace hk := hk.trans hn
            clear hn
            go_wp2
            go_ret
            exact ⟨ret_bool (by rw [hyes.out]; rfl), hk⟩
          · have hno := Lib.hid (HNO.out (by rw [hm, decide_eq_false g2, Bool.and_false]))
            clear hm HYES HNO
            go_wp2_with fail
            refine (HE.out _).mono ?_
            rintro e w1 ⟨rfl, hn⟩
            replace hk := hk.trans hn
            clear hn
            go_wp2
            go_roundw
            case rel => exact ⟨k + 1, by omega, by go_num, hno, hk⟩
            case measure => simp [intOf]; omega
        · have hno := Lib.hid (HNO.out (by rw [hm, decide_eq_false g1, Bool.false_and]))
          clear hm HYES HNO
          go_wp2
          go_roundw
          case rel => exact ⟨k + 1, by omega, by go_num, hno, hk⟩
          case measure => simp [intOf]; omega
      · obtain rfl : k = n := by omega
        go_wp2
        go_ret
        exact ⟨ret_bool (by rw [hal.out]; rfl), hk⟩
  · skip
    clear hme
    have hk : Kept w w := Kept.refl w
    go_enter Try.func38, Try.ntmps38
    go_wp2
    go_loopw [7] (fun i wx => ∃ k : Nat, k ≤ n ∧ i = .int .i64 k ∧ Hid (anyE (excOf Z) y m k = false) ∧ Kept w wx) (fun i _ => n - (intOf i).toNat)
    case atStart => exact ⟨0, Nat.zero_le _, rfl, Lib.hid rfl, hk⟩
    case round =>
      clear hk
      obtain ⟨k, hkn, rfl, hal, hk⟩ := hrel
      by_cases hlt : k < n
      · have hi1 : (k : Int) < (n : Int) := by omega
        have c0 : wr.cell? ⟨b, off + k * 5, none⟩ = some (.int .i64 (excOf Z k).ai) := (hw.kept hk) k 0 hlt (by decide)
        have c1 : wr.cell? ⟨b, off + k * 5 + 1, none⟩ = some (.int .i64 (excOf Z k).ab) := (hw.kept hk) k 1 hlt (by decide)
        have c2 : wr.cell? ⟨b, off + k * 5 + 2, none⟩ = some (.int .i64 (excOf Z k).si) := (hw.kept hk) k 2 hlt (by decide)
        have c3 : wr.cell? ⟨b, off + k * 5 + 3, none⟩ = some (.int .i64 (excOf Z k).sb) := (hw.kept hk) k 3 hlt (by decide)
        have c4 : wr.cell? ⟨b, off + k * 5 + 4, none⟩ = some (.int .i64 (excOf Z k).side) := (hw.kept hk) k 4 hlt (by decide)
        have b2 := HA.out k hlt
        have hm := HM.out (excOf Z k)
        have hend : endS (excOf Z k) = (excOf Z k).ab + (excOf Z k).sb := rfl
        have HYES := Lib.hid (fun hb => anyE_yes (E := excOf Z) (y := y) (h := m) hlt hb)
        have HNO := Lib.hid (fun (hb : meetsB (excOf Z k) y m = false) => (show anyE (excOf Z) y m (k + 1) = false by unfold anyE; rw [hal.out, hb]; rfl))
        clear HM HA
        generalize excOf Z k = x at *
        obtain ⟨z, hz⟩ : ∃ z, endS x = z := ⟨_, rfl⟩
        have hz0 : -4611686018427387904 ≤ x.ab + x.sb ∧ x.ab + x.sb ≤ 4611686018427387904 := by omega
        have HE := Lib.hid (fun wx => (show Calls Try.prog 57 #[x.V] wx (fun e w' => e = .returned (.int .i64 z) ∧ Kept wx w') from by have := refBottom_any x wx hz0; rw [hz] at this; exact this))
        rw [hz] at hm hend
        have hzb : 0 ≤ z ∧ z ≤ 8388608 := by omega
        clear hend hz hz0
        by_cases g1 : x.ab < y + m
        · by_cases g2 : y < z
          · have hyes := Lib.hid (HYES.out (by rw [hm, decide_eq_true g1, decide_eq_true g2]; rfl))
            clear hm HYES HNO
            go_wp2_with fail
            refine (HE.out _).mono ?_
            rintro e w1 ⟨rfl, hn⟩
            replace hk := hk.trans hn
            clear hn
            go_wp2
            go_ret
            exact ⟨ret_bool (by rw [hyes.out]; rfl), hk⟩
          · have hno := Lib.hid (HNO.out (by rw [hm, decide_eq_false g2, Bool.and_false]))
            clear hm HYES HNO
            go_wp2_with fail
            refine (HE.out _).mono ?_
            rintro e w1 ⟨rfl, hn⟩
            replace hk := hk.trans hn
            clear hn
            go_wp2
            go_roundw
            case rel => exact ⟨k + 1, by omega, by go_num, hno, hk⟩
            case measure => simp [intOf]; omega
        · have hno := Lib.hid (HNO.out (by rw [hm, decide_eq_false g1, Bool.false_and]))
          clear hm HYES HNO
          go_wp2
          go_roundw
          case rel => exact ⟨k + 1, by omega, by go_num, hno, hk⟩
          case measure => simp [intOf]; omega
      · obtain rfl : k = n := by omega
        go_wp2
        go_ret
        exact ⟨ret_bool (by rw [hal.out]; rfl), hk⟩
theorem refAlone_any (v : Value) (n : Nat) (Z : Nat → Nat → Int) (y h : Int) (w : World) (hv : RV 5 w v n (intC Z)) (hn : n ≤ 32) (ha : allE (excOf Z) n = true) (hy : 0 ≤ y ∧ y ≤ 1073741824) (hh : h ≤ 1073741824) :
    Calls Try.prog 38 #[v, .int .i64 y, .int .i64 h] w fun e w' => e = .returned (.bool (!anyE (excOf Z) y h n)) ∧ Kept w w' := by
  rcases hv with ⟨rfl, o, cap, rfl⟩ | ⟨b, off, cap, rfl, _, _, hi⟩
  · exact refAlone_none o cap _ y h w
  · exact refAlone_some b off n cap Z y h w hi hn ha hy hh
end Go.Proofs.Ytkdidhhilcamkaa
