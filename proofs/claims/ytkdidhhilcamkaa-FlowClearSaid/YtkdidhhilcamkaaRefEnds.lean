/- Layers 16, 17: where floats end, by the document. -/
import Derived.Test.YtkdidhhilcamkaaRefBand2
namespace Go.Proofs.Ytkdidhhilcamkaa
open Go.RowKit Go.Deep
set_option linter.unusedSimpArgs false
set_option linter.unusedVariables false
theorem refBelow_no (v : Value) (c : Int) (w : World) (hc : clearB c = false) :
    Calls Try.prog 36 #[v, .int .i64 c] w fun e w' => e = .returned (.tuple #[.int .i64 0, .int .i64 1600]) ∧ Kept w w' := by
  have hc' : inB 0 3 c = false := hc
  have hk : Kept w w := Kept.refl w
  go_enter Try.func36, Try.ntmps36
  go_wp2_with fail
  refine (upTo11_any _ _ _).mono ?_
  rintro e w1 ⟨rfl, rfl⟩
  go_wp2
  go_ret2
  exact ⟨rfl, hk⟩
theorem refBelow_none (o : Option Addr) (cap : Nat) (E : Nat → Exc) (c : Int) (w : World) (hc : clearB c = true) :
    Calls Try.prog 36 #[.slice o 0 cap, .int .i64 c] w fun e w' => e = .returned (.tuple #[.int .i64 (belowS E c 0), .int .i64 0]) ∧ Kept w w' := by
  have hc' : inB 0 3 c = true := hc
  have Hs := Lib.hid (show belowS E c 0 = 0 from rfl)
  have hk : Kept w w := Kept.refl w
  go_enter Try.func36, Try.ntmps36
  go_wp2_with fail
  refine (upTo11_any _ _ _).mono ?_
  rintro e w1 ⟨rfl, rfl⟩
  go_wp2
  refine wp_loop_rounds 1 ?_
  rw [rounds_succ]
  go_wp2
  go_ret2
  exact ⟨by rw [Hs.out]; rfl, hk⟩
set_option maxRecDepth 20000 in
set_option maxHeartbeats 8000000 in
theorem refBelow_some (b off n cap : Nat) (Z : Nat → Nat → Int) (c : Int) (w : World) (hw : RowAt w b off 5 n (intC Z)) (hn : n ≤ 32) (ha : allE (excOf Z) n = true) (hc : clearB c = true) :
    Calls Try.prog 36 #[.slice (some ⟨b, off, none⟩) n cap, .int .i64 c] w fun e w' => e = .returned (.tuple #[.int .i64 (belowS (excOf Z) c n), .int .i64 0]) ∧ Kept w w' := by
  have HB := Lib.hid (fun k hk => belowS_bd c ha k hk)
  have HA := Lib.hid (fun k hk => excB_parts (allE_yes ha k hk))
  have hc' : inB 0 3 c = true := hc
  have hcc : c = 0 ∨ c = 1 ∨ c = 2 ∨ c = 3 := by have := inB_true.1 hc'; omega
  clear ha hc
  rcases hcc with rfl | rfl | rfl | rfl
  · skip
    have hk : Kept w w := Kept.refl w
    go_enter Try.func36, Try.ntmps36
    go_wp2_with fail
    refine (upTo11_any _ _ _).mono ?_
    rintro e w1 ⟨rfl, rfl⟩
    go_wp2
    clear hc'
    go_loopw [6, 7, 8, 9] (fun p i _ _ wx => ∃ k : Nat, k ≤ n ∧ i = .int .i64 k ∧ p = .int .i64 (belowS (excOf Z) 0 k) ∧ Kept w wx) (fun _ i _ _ _ => n - (intOf i).toNat)
    case atStart => exact ⟨0, Nat.zero_le _, rfl, rfl, hk⟩
    case round =>
      clear hk
      obtain ⟨k, hkn, rfl, rfl, hk⟩ := hrel
      by_cases hlt : k < n
      · have hi1 : (k : Int) < (n : Int) := by omega
        have c0 : wr.cell? ⟨b, off + k * 5, none⟩ = some (.int .i64 (excOf Z k).ai) := (hw.kept hk) k 0 hlt (by decide)
        have c1 : wr.cell? ⟨b, off + k * 5 + 1, none⟩ = some (.int .i64 (excOf Z k).ab) := (hw.kept hk) k 1 hlt (by decide)
        have c2 : wr.cell? ⟨b, off + k * 5 + 2, none⟩ = some (.int .i64 (excOf Z k).si) := (hw.kept hk) k 2 hlt (by decide)
        have c3 : wr.cell? ⟨b, off + k * 5 + 3, none⟩ = some (.int .i64 (excOf Z k).sb) := (hw.kept hk) k 3 hlt (by decide)
        have c4 : wr.cell? ⟨b, off + k * 5 + 4, none⟩ = some (.int .i64 (excOf Z k).side) := (hw.kept hk) k 4 hlt (by decide)
        have b1 := HB.out k hkn
        have b2 := HA.out k hlt
        have hstep : belowS (excOf Z) 0 (k + 1) = if clearsB 0 (excOf Z k).side = true then max (belowS (excOf Z) 0 k) (endS (excOf Z k)) else belowS (excOf Z) 0 k := rfl
        have hend : endS (excOf Z k) = (excOf Z k).ab + (excOf Z k).sb := rfl
        clear HB HA
        generalize belowS (excOf Z) 0 k = p at *
        generalize excOf Z k = x at *
        obtain ⟨z, hz⟩ : ∃ z, endS x = z := ⟨_, rfl⟩
        rw [hz] at hstep hend
        have hzb : 0 ≤ z ∧ z ≤ 8388608 := by omega
        have hz0 : -4611686018427387904 ≤ x.ab + x.sb ∧ x.ab + x.sb ≤ 4611686018427387904 := by omega
        have HE := Lib.hid (fun wx => (show Calls Try.prog 57 #[x.V] wx (fun e w' => e = .returned (.int .i64 z) ∧ Kept wx w') from by have := refBottom_any x wx hz0; rw [hz] at this; exact this))
        obtain ⟨a1, a2, a3, a4, a5⟩ := x
        dsimp only at c0 c1 c2 c3 c4 b2 hstep
        clear hend hz hz0
        rcases (by omega : a5 = 1 ∨ a5 = 2) with rfl | rfl
        · rw [show clearsB 0 1 = false from rfl, if_neg (by decide)] at hstep
          have HS := Lib.hid hstep
          clear hstep
          go_wp2
          go_roundw
          case rel => exact ⟨k + 1, by omega, by go_num, by rw [HS.out], hk⟩
          case measure => simp [intOf]; omega
        · rw [show clearsB 0 2 = false from rfl, if_neg (by decide)] at hstep
          have HS := Lib.hid hstep
          clear hstep
          go_wp2
          go_roundw
          case rel => exact ⟨k + 1, by omega, by go_num, by rw [HS.out], hk⟩
          case measure => simp [intOf]; omega
      · obtain rfl : k = n := by omega
        go_wp2
        go_ret2
        exact ⟨rfl, hk⟩
  · skip
    have hk : Kept w w := Kept.refl w
    go_enter Try.func36, Try.ntmps36
    go_wp2_with fail
    refine (upTo11_any _ _ _).mono ?_
    rintro e w1 ⟨rfl, rfl⟩
    go_wp2
    clear hc'
    go_loopw [6, 7, 8, 9] (fun p i _ _ wx => ∃ k : Nat, k ≤ n ∧ i = .int .i64 k ∧ p = .int .i64 (belowS (excOf Z) 1 k) ∧ Kept w wx) (fun _ i _ _ _ => n - (intOf i).toNat)
    case atStart => exact ⟨0, Nat.zero_le _, rfl, rfl, hk⟩
    case round =>
      clear hk
      obtain ⟨k, hkn, rfl, rfl, hk⟩ := hrel
      by_cases hlt : k < n
      · have hi1 : (k : Int) < (n : Int) := by omega
        have c0 : wr.cell? ⟨b, off + k * 5, none⟩ = some (.int .i64 (excOf Z k).ai) := (hw.kept hk) k 0 hlt (by decide)
        have c1 : wr.cell? ⟨b, off + k * 5 + 1, none⟩ = some (.int .i64 (excOf Z k).ab) := (hw.kept hk) k 1 hlt (by decide)
        have c2 : wr.cell? ⟨b, off + k * 5 + 2, none⟩ = some (.int .i64 (excOf Z k).si) := (hw.kept hk) k 2 hlt (by decide)
        have c3 : wr.cell? ⟨b, off + k * 5 + 3, none⟩ = some (.int .i64 (excOf Z k).sb) := (hw.kept hk) k 3 hlt (by decide)
        have c4 : wr.cell? ⟨b, off + k * 5 + 4, none⟩ = some (.int .i64 (excOf Z k).side) := (hw.kept hk) k 4 hlt (by decide)
        have b1 := HB.out k hkn
        have b2 := HA.out k hlt
        have hstep : belowS (excOf Z) 1 (k + 1) = if clearsB 1 (excOf Z k).side = true then max (belowS (excOf Z) 1 k) (endS (excOf Z k)) else belowS (excOf Z) 1 k := rfl
        have hend : endS (excOf Z k) = (excOf Z k).ab + (excOf Z k).sb := rfl
        clear HB HA
        generalize belowS (excOf Z) 1 k = p at *
        generalize excOf Z k = x at *
        obtain ⟨z, hz⟩ : ∃ z, endS x = z := ⟨_, rfl⟩
        rw [hz] at hstep hend
        have hzb : 0 ≤ z ∧ z ≤ 8388608 := by omega
        have hz0 : -4611686018427387904 ≤ x.ab + x.sb ∧ x.ab + x.sb ≤ 4611686018427387904 := by omega
        have HE := Lib.hid (fun wx => (show Calls Try.prog 57 #[x.V] wx (fun e w' => e = .returned (.int .i64 z) ∧ Kept wx w') from by have := refBottom_any x wx hz0; rw [hz] at this; exact this))
        obtain ⟨a1, a2, a3, a4, a5⟩ := x
        dsimp only at c0 c1 c2 c3 c4 b2 hstep
        clear hend hz hz0
        rcases (by omega : a5 = 1 ∨ a5 = 2) with rfl | rfl
        · rw [show clearsB 1 1 = true from rfl, if_pos rfl] at hstep
          have HS := Lib.hid hstep
          clear hstep
          rcases (by omega : p < z ∨ (p ≤ z ∧ z ≤ p) ∨ z < p) with h1 | h1 | h1
          all_goals
            go_wp2_with fail
            refine (HE.out _).mono ?_
            rintro e w1 ⟨rfl, hn⟩
            replace hk := hk.trans hn
            clear hn
            go_wp2
            go_roundw
            case rel => exact ⟨k + 1, by omega, by go_num, by rw [HS.out]; congr 1; omega, hk⟩
            case measure => simp [intOf]; omega
        · rw [show clearsB 1 2 = false from rfl, if_neg (by decide)] at hstep
          have HS := Lib.hid hstep
          clear hstep
          go_wp2
          go_roundw
          case rel => exact ⟨k + 1, by omega, by go_num, by rw [HS.out], hk⟩
          case measure => simp [intOf]; omega
      · obtain rfl : k = n := by omega
        go_wp2
        go_ret2
        exact ⟨rfl, hk⟩
  · skip
    have hk : Kept w w := Kept.refl w
    go_enter Try.func36, Try.ntmps36
    go_wp2_with fail
    refine (upTo11_any _ _ _).mono ?_
    rintro e w1 ⟨rfl, rfl⟩
    go_wp2
    clear hc'
    go_loopw [6, 7, 8, 9] (fun p i _ _ wx => ∃ k : Nat, k ≤ n ∧ i = .int .i64 k ∧ p = .int .i64 (belowS (excOf Z) 2 k) ∧ Kept w wx) (fun _ i _ _ _ => n - (intOf i).toNat)
    case atStart => exact ⟨0, Nat.zero_le _, rfl, rfl, hk⟩
    case round =>
      clear hk
      obtain ⟨k, hkn, rfl, rfl, hk⟩ := hrel
      by_cases hlt : k < n
      · have hi1 : (k : Int) < (n : Int) := by omega
        have c0 : wr.cell? ⟨b, off + k * 5, none⟩ = some (.int .i64 (excOf Z k).ai) := (hw.kept hk) k 0 hlt (by decide)
        have c1 : wr.cell? ⟨b, off + k * 5 + 1, none⟩ = some (.int .i64 (excOf Z k).ab) := (hw.kept hk) k 1 hlt (by decide)
        have c2 : wr.cell? ⟨b, off + k * 5 + 2, none⟩ = some (.int .i64 (excOf Z k).si) := (hw.kept hk) k 2 hlt (by decide)
        have c3 : wr.cell? ⟨b, off + k * 5 + 3, none⟩ = some (.int .i64 (excOf Z k).sb) := (hw.kept hk) k 3 hlt (by decide)
        have c4 : wr.cell? ⟨b, off + k * 5 + 4, none⟩ = some (.int .i64 (excOf Z k).side) := (hw.kept hk) k 4 hlt (by decide)
        have b1 := HB.out k hkn
        have b2 := HA.out k hlt
        have hstep : belowS (excOf Z) 2 (k + 1) = if clearsB 2 (excOf Z k).side = true then max (belowS (excOf Z) 2 k) (endS (excOf Z k)) else belowS (excOf Z) 2 k := rfl
        have hend : endS (excOf Z k) = (excOf Z k).ab + (excOf Z k).sb := rfl
        clear HB HA
        generalize belowS (excOf Z) 2 k = p at *
        generalize excOf Z k = x at *
        obtain ⟨z, hz⟩ : ∃ z, endS x = z := ⟨_, rfl⟩
        rw [hz] at hstep hend
        have hzb : 0 ≤ z ∧ z ≤ 8388608 := by omega
        have hz0 : -4611686018427387904 ≤ x.ab + x.sb ∧ x.ab + x.sb ≤ 4611686018427387904 := by omega
        have HE := Lib.hid (fun wx => (show Calls Try.prog 57 #[x.V] wx (fun e w' => e = .returned (.int .i64 z) ∧ Kept wx w') from by have := refBottom_any x wx hz0; rw [hz] at this; exact this))
        obtain ⟨a1, a2, a3, a4, a5⟩ := x
        dsimp only at c0 c1 c2 c3 c4 b2 hstep
        clear hend hz hz0
        rcases (by omega : a5 = 1 ∨ a5 = 2) with rfl | rfl
        · rw [show clearsB 2 1 = false from rfl, if_neg (by decide)] at hstep
          have HS := Lib.hid hstep
          clear hstep
          go_wp2
          go_roundw
          case rel => exact ⟨k + 1, by omega, by go_num, by rw [HS.out], hk⟩
          case measure => simp [intOf]; omega
        · rw [show clearsB 2 2 = true from rfl, if_pos rfl] at hstep
          have HS := Lib.hid hstep
          clear hstep
          rcases (by omega : p < z ∨ (p ≤ z ∧ z ≤ p) ∨ z < p) with h1 | h1 | h1
          all_goals
            go_wp2_with fail
            refine (HE.out _).mono ?_
            rintro e w1 ⟨rfl, hn⟩
            replace hk := hk.trans hn
            clear hn
            go_wp2
            go_roundw
            case rel => exact ⟨k + 1, by omega, by go_num, by rw [HS.out]; congr 1; omega, hk⟩
            case measure => simp [intOf]; omega
      · obtain rfl : k = n := by omega
        go_wp2
        go_ret2
        exact ⟨rfl, hk⟩
  · skip
    have hk : Kept w w := Kept.refl w
    go_enter Try.func36, Try.ntmps36
    go_wp2_with fail
    refine (upTo11_any _ _ _).mono ?_
    rintro e w1 ⟨rfl, rfl⟩
    go_wp2
    clear hc'
    go_loopw [6, 7, 8, 9] (fun p i _ _ wx => ∃ k : Nat, k ≤ n ∧ i = .int .i64 k ∧ p = .int .i64 (belowS (excOf Z) 3 k) ∧ Kept w wx) (fun _ i _ _ _ => n - (intOf i).toNat)
    case atStart => exact ⟨0, Nat.zero_le _, rfl, rfl, hk⟩
    case round =>
      clear hk
      obtain ⟨k, hkn, rfl, rfl, hk⟩ := hrel
      by_cases hlt : k < n
      · have hi1 : (k : Int) < (n : Int) := by omega
        have c0 : wr.cell? ⟨b, off + k * 5, none⟩ = some (.int .i64 (excOf Z k).ai) := (hw.kept hk) k 0 hlt (by decide)
        have c1 : wr.cell? ⟨b, off + k * 5 + 1, none⟩ = some (.int .i64 (excOf Z k).ab) := (hw.kept hk) k 1 hlt (by decide)
        have c2 : wr.cell? ⟨b, off + k * 5 + 2, none⟩ = some (.int .i64 (excOf Z k).si) := (hw.kept hk) k 2 hlt (by decide)
        have c3 : wr.cell? ⟨b, off + k * 5 + 3, none⟩ = some (.int .i64 (excOf Z k).sb) := (hw.kept hk) k 3 hlt (by decide)
        have c4 : wr.cell? ⟨b, off + k * 5 + 4, none⟩ = some (.int .i64 (excOf Z k).side) := (hw.kept hk) k 4 hlt (by decide)
        have b1 := HB.out k hkn
        have b2 := HA.out k hlt
        have hstep : belowS (excOf Z) 3 (k + 1) = if clearsB 3 (excOf Z k).side = true then max (belowS (excOf Z) 3 k) (endS (excOf Z k)) else belowS (excOf Z) 3 k := rfl
        have hend : endS (excOf Z k) = (excOf Z k).ab + (excOf Z k).sb := rfl
        clear HB HA
        generalize belowS (excOf Z) 3 k = p at *
        generalize excOf Z k = x at *
        obtain ⟨z, hz⟩ : ∃ z, endS x = z := ⟨_, rfl⟩
        rw [hz] at hstep hend
        have hzb : 0 ≤ z ∧ z ≤ 8388608 := by omega
        have hz0 : -4611686018427387904 ≤ x.ab + x.sb ∧ x.ab + x.sb ≤ 4611686018427387904 := by omega
        have HE := Lib.hid (fun wx => (show Calls Try.prog 57 #[x.V] wx (fun e w' => e = .returned (.int .i64 z) ∧ Kept wx w') from by have := refBottom_any x wx hz0; rw [hz] at this; exact this))
        obtain ⟨a1, a2, a3, a4, a5⟩ := x
        dsimp only at c0 c1 c2 c3 c4 b2 hstep
        clear hend hz hz0
        rcases (by omega : a5 = 1 ∨ a5 = 2) with rfl | rfl
        · rw [show clearsB 3 1 = true from rfl, if_pos rfl] at hstep
          have HS := Lib.hid hstep
          clear hstep
          rcases (by omega : p < z ∨ (p ≤ z ∧ z ≤ p) ∨ z < p) with h1 | h1 | h1
          all_goals
            go_wp2_with fail
            refine (HE.out _).mono ?_
            rintro e w1 ⟨rfl, hn⟩
            replace hk := hk.trans hn
            clear hn
            go_wp2
            go_roundw
            case rel => exact ⟨k + 1, by omega, by go_num, by rw [HS.out]; congr 1; omega, hk⟩
            case measure => simp [intOf]; omega
        · rw [show clearsB 3 2 = true from rfl, if_pos rfl] at hstep
          have HS := Lib.hid hstep
          clear hstep
          rcases (by omega : p < z ∨ (p ≤ z ∧ z ≤ p) ∨ z < p) with h1 | h1 | h1
          all_goals
            go_wp2_with fail
            refine (HE.out _).mono ?_
            rintro e w1 ⟨rfl, hn⟩
            replace hk := hk.trans hn
            clear hn
            go_wp2
            go_roundw
            case rel => exact ⟨k + 1, by omega, by go_num, by rw [HS.out]; congr 1; omega, hk⟩
            case measure => simp [intOf]; omega
      · obtain rfl : k = n := by omega
        go_wp2
        go_ret2
        exact ⟨rfl, hk⟩
theorem refBelow_any (v : Value) (n : Nat) (Z : Nat → Nat → Int) (c : Int) (w : World) (hv : RV 5 w v n (intC Z)) (hn : n ≤ 32) (ha : allE (excOf Z) n = true) (hc : clearB c = true) :
    Calls Try.prog 36 #[v, .int .i64 c] w fun e w' => e = .returned (.tuple #[.int .i64 (belowS (excOf Z) c n), .int .i64 0]) ∧ Kept w w' := by
  rcases hv with ⟨rfl, o, cap, rfl⟩ | ⟨b, off, cap, rfl, _, _, hi⟩
  · exact refBelow_none o cap _ c w hc
  · exact refBelow_some b off n cap Z c w hi hn ha hc
theorem refNext_none (o : Option Addr) (cap : Nat) (E : Nat → Exc) (y : Int) (w : World) :
    Calls Try.prog 39 #[.slice o 0 cap, .int .i64 y] w fun e w' => e = .returned (.tuple #[.int .i64 (nextS E y 0).1, .bool (nextS E y 0).2]) ∧ Kept w w' := by
  have Hs := Lib.hid (show nextS E y 0 = (0, false) from rfl)
  go_enter Try.func39, Try.ntmps39
  go_wp2
  refine wp_loop_rounds 1 ?_
  rw [rounds_succ]
  go_wp2
  go_ret2
  exact ⟨by rw [Hs.out]; rfl, Kept.refl _⟩
set_option maxHeartbeats 2000000 in
theorem refNext_some (b off n cap : Nat) (Z : Nat → Nat → Int) (y : Int) (w : World) (hw : RowAt w b off 5 n (intC Z)) (hn : n ≤ 32) (ha : allE (excOf Z) n = true) :
    Calls Try.prog 39 #[.slice (some ⟨b, off, none⟩) n cap, .int .i64 y] w fun e w' => e = .returned (.tuple #[.int .i64 (nextS (excOf Z) y n).1, .bool (nextS (excOf Z) y n).2]) ∧ Kept w w' := by
  have HA := Lib.hid (fun k hk => excB_parts (allE_yes ha k hk))
  clear ha
  have hk : Kept w w := Kept.refl w
  go_enter Try.func39, Try.ntmps39
  go_wp2
  go_loopw [6, 7, 8, 9] (fun p q i _ wx => ∃ k : Nat, k ≤ n ∧ i = .int .i64 k ∧ p = .int .i64 (nextS (excOf Z) y k).1 ∧ q = .bool (nextS (excOf Z) y k).2 ∧ Kept w wx) (fun _ _ i _ _ => n - (intOf i).toNat)
  case atStart => exact ⟨0, Nat.zero_le _, rfl, rfl, rfl, hk⟩
  case round =>
    clear hk
    obtain ⟨k, hkn, rfl, rfl, rfl, hk⟩ := hrel
    by_cases hlt : k < n
    · have hi1 : (k : Int) < (n : Int) := by omega
      have c0 : wr.cell? ⟨b, off + k * 5, none⟩ = some (.int .i64 (excOf Z k).ai) := (hw.kept hk) k 0 hlt (by decide)
      have c1 : wr.cell? ⟨b, off + k * 5 + 1, none⟩ = some (.int .i64 (excOf Z k).ab) := (hw.kept hk) k 1 hlt (by decide)
      have c2 : wr.cell? ⟨b, off + k * 5 + 2, none⟩ = some (.int .i64 (excOf Z k).si) := (hw.kept hk) k 2 hlt (by decide)
      have c3 : wr.cell? ⟨b, off + k * 5 + 3, none⟩ = some (.int .i64 (excOf Z k).sb) := (hw.kept hk) k 3 hlt (by decide)
      have c4 : wr.cell? ⟨b, off + k * 5 + 4, none⟩ = some (.int .i64 (excOf Z k).side) := (hw.kept hk) k 4 hlt (by decide)
      have b2 := HA.out k hlt
      have hstep : nextS (excOf Z) y (k + 1) = if nextB y (endS (excOf Z k)) (nextS (excOf Z) y k).1 (nextS (excOf Z) y k).2 = true then (endS (excOf Z k), true) else nextS (excOf Z) y k := rfl
      have hend : endS (excOf Z k) = (excOf Z k).ab + (excOf Z k).sb := rfl
      obtain ⟨⟨nx, fd⟩, hpq⟩ : ∃ c, nextS (excOf Z) y k = c := ⟨_, rfl⟩
      rw [hpq] at hstep ⊢
      clear hpq
      generalize excOf Z k = x at *
      obtain ⟨z, hz⟩ : ∃ z, endS x = z := ⟨_, rfl⟩
      rw [hz] at hstep hend
      dsimp only at hstep ⊢
      have hzb : 0 ≤ z ∧ z ≤ 8388608 := by omega
      have hz0 : -4611686018427387904 ≤ x.ab + x.sb ∧ x.ab + x.sb ≤ 4611686018427387904 := by omega
      have HE := Lib.hid (fun wx => (show Calls Try.prog 57 #[x.V] wx (fun e w' => e = .returned (.int .i64 z) ∧ Kept wx w') from by have := refBottom_any x wx hz0; rw [hz] at this; exact this))
      clear hend hz
      cases fd with
      | false =>
        by_cases h1 : y < z
        · rw [if_pos (show nextB y z nx false = true by unfold nextB; rw [decide_eq_true h1]; rfl)] at hstep
          have HS := Lib.hid hstep
          clear hstep
          go_wp2_with fail
          refine (HE.out _).mono ?_
          rintro e w1 ⟨rfl, hn⟩
          replace hk := hk.trans hn
          clear hn
          go_wp2
          go_roundw
          case rel => exact ⟨k + 1, by omega, by go_num, by rw [HS.out], by rw [HS.out], hk⟩
          case measure => simp [intOf]; omega
        · rw [if_neg (show ¬ nextB y z nx false = true by unfold nextB; rw [decide_eq_false h1]; simp)] at hstep
          have HS := Lib.hid hstep
          clear hstep
          go_wp2_with fail
          refine (HE.out _).mono ?_
          rintro e w1 ⟨rfl, hn⟩
          replace hk := hk.trans hn
          clear hn
          go_wp2
          go_roundw
          case rel => exact ⟨k + 1, by omega, by go_num, by rw [HS.out], by rw [HS.out], hk⟩
          case measure => simp [intOf]; omega
      | true =>
        by_cases h1 : y < z
        · by_cases h2 : z < nx
          · rw [if_pos (show nextB y z nx true = true by unfold nextB; rw [decide_eq_true h1, decide_eq_true h2]; rfl)] at hstep
            have HS := Lib.hid hstep
            clear hstep
            go_wp2_with fail
            refine (HE.out _).mono ?_
            rintro e w1 ⟨rfl, hn⟩
            replace hk := hk.trans hn
            clear hn
            go_wp2
            go_roundw
            case rel => exact ⟨k + 1, by omega, by go_num, by rw [HS.out], by rw [HS.out], hk⟩
            case measure => simp [intOf]; omega
          · rw [if_neg (show ¬ nextB y z nx true = true by unfold nextB; rw [decide_eq_true h1, decide_eq_false h2]; simp)] at hstep
            have HS := Lib.hid hstep
            clear hstep
            go_wp2_with fail
            refine (HE.out _).mono ?_
            rintro e w1 ⟨rfl, hn⟩
            replace hk := hk.trans hn
            clear hn
            go_wp2
            go_roundw
            case rel => exact ⟨k + 1, by omega, by go_num, by rw [HS.out], by rw [HS.out], hk⟩
            case measure => simp [intOf]; omega
        · rw [if_neg (show ¬ nextB y z nx true = true by unfold nextB; rw [decide_eq_false h1]; simp)] at hstep
          have HS := Lib.hid hstep
          clear hstep
          go_wp2_with fail
          refine (HE.out _).mono ?_
          rintro e w1 ⟨rfl, hn⟩
          replace hk := hk.trans hn
          clear hn
          go_wp2
          go_roundw
          case rel => exact ⟨k + 1, by omega, by go_num, by rw [HS.out], by rw [HS.out], hk⟩
          case measure => simp [intOf]; omega
    · obtain rfl : k = n := by omega
      go_wp2
      go_ret2
      exact ⟨rfl, hk⟩
theorem refNext_any (v : Value) (n : Nat) (Z : Nat → Nat → Int) (y : Int) (w : World) (hv : RV 5 w v n (intC Z)) (hn : n ≤ 32) (ha : allE (excOf Z) n = true) :
    Calls Try.prog 39 #[v, .int .i64 y] w fun e w' => e = .returned (.tuple #[.int .i64 (nextS (excOf Z) y n).1, .bool (nextS (excOf Z) y n).2]) ∧ Kept w w' := by
  rcases hv with ⟨rfl, o, cap, rfl⟩ | ⟨b, off, cap, rfl, _, _, hi⟩
  · exact refNext_none o cap _ y w
  · exact refNext_some b off n cap Z y w hi hn ha
end Go.Proofs.Ytkdidhhilcamkaa
