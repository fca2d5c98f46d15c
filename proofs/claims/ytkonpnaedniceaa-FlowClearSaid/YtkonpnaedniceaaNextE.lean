/- Layer 16: the next place at which one ends; the program's faces. -/
import Derived.Test.YtkonpnaedniceaaExcs
import Derived.Test.YtkonpnaedniceaaNum
namespace Go.Proofs.Ytkonpnaedniceaa
open Go.RowKit Go.Deep
set_option linter.unusedSimpArgs false
set_option linter.unusedVariables false
def nextB (y z nx : Int) (fd : Bool) : Bool := decide (y < z) && (!fd || decide (z < nx))
/-- the first place behind y at which one of the first k ends -/
def nextS (E : Nat → Exc) (y : Int) : Nat → Int × Bool
  | 0 => (0, false)
  | k + 1 => if nextB y (endS (E k)) (nextS E y k).1 (nextS E y k).2 = true then (endS (E k), true) else nextS E y k
theorem besideNext_none (o : Option Addr) (cap : Nat) (E : Nat → Exc) (y : Int) (w : World) :
    Calls Try.prog 28 #[.slice o 0 cap, .int .i64 y] w fun e w' => e = .returned (.tuple #[.int .i64 (nextS E y 0).1, .bool (nextS E y 0).2]) ∧ Kept w w' := by
  have Hs := Lib.hid (show nextS E y 0 = (0, false) from rfl)
  go_enter Try.func28, Try.ntmps28
  go_wp2
  refine wp_loop_rounds 1 ?_
  rw [rounds_succ]
  go_wp2
  go_ret2
  exact ⟨by rw [Hs.out]; rfl, Kept.refl _⟩
set_option maxHeartbeats 2000000 in
theorem besideNext_some (b off n cap : Nat) (Z : Nat → Nat → Int) (y : Int) (w : World) (hw : RowAt w b off 5 n (intC Z)) (hn : n ≤ 32) (ha : allE (excOf Z) n = true) :
    Calls Try.prog 28 #[.slice (some ⟨b, off, none⟩) n cap, .int .i64 y] w fun e w' => e = .returned (.tuple #[.int .i64 (nextS (excOf Z) y n).1, .bool (nextS (excOf Z) y n).2]) ∧ Kept w w' := by
  have HA := Lib.hid (fun k hk => excB_parts (allE_yes ha k hk))
  clear ha
  have hk : Kept w w := Kept.refl w
  go_enter Try.func28, Try.ntmps28
  go_wp2
  go_loopw [6, 7, 9, 12] (fun p q _ i wx => ∃ k : Nat, k ≤ n ∧ i = .int .i64 k ∧ p = .int .i64 (nextS (excOf Z) y k).1 ∧ q = .bool (nextS (excOf Z) y k).2 ∧ Kept w wx) (fun _ _ _ i _ => n - (intOf i).toNat)
  case atStart => exact ⟨0, Nat.zero_le _, rfl, rfl, rfl, hk⟩
  case round =>
    clear hk
    obtain ⟨k, hkn, rfl, rfl, rfl, hk⟩ := hrel
    by_cases hlt : k < n
    · have hi1 : (k : Int) < (n : Int) := by omega
      have c0 : wr.cell? ⟨b, off + k * 5, none⟩ = some (.int .i64 (excOf Z k).ai) := (hw.kept hk) k 0 hlt (by decide)
      have c1 : wr.cell? ⟨b, off + k * 5 + 1, none⟩ = some (.int .i64 (excOf Z k).ab) := (hw.kept hk) k 1 hlt (by decide)
      have c2 : wr.cell? ⟨b, off + k * 5 + 2, none⟩ = some (.int .i64 (excOf Z k).si) := (hw.kept hk) k 2 hlt (by decide)
      have c3 : wr.cell? ⟨b, off + k * 5 + 3, none⟩ = some (.int .i64 (excOf Z k).sb) := (hw.kept hk) k 3 hlt (by decide)
      have c4 : wr.cell? ⟨b, off + k * 5 + 4, none⟩ = some (.int .i64 (excOf Z k).side) := (hw.kept hk) k 4 hlt (by decide)
      have b2 := HA.out k hlt
      have hstep : nextS (excOf Z) y (k + 1) = if nextB y (endS (excOf Z k)) (nextS (excOf Z) y k).1 (nextS (excOf Z) y k).2 = true then (endS (excOf Z k), true) else nextS (excOf Z) y k := rfl
      have hend : endS (excOf Z k) = (excOf Z k).ab + (excOf Z k).sb := rfl
      obtain ⟨⟨nx, fd⟩, hpq⟩ : ∃ c, nextS (excOf Z) y k = c := ⟨_, rfl⟩
      rw [hpq] at hstep ⊢
      clear hpq
      generalize excOf Z k = x at *
      obtain ⟨z, hz⟩ : ∃ z, endS x = z := ⟨_, rfl⟩
      rw [hz] at hstep hend
      dsimp only at hstep ⊢
      have hzb : 0 ≤ z ∧ z ≤ 8388608 := by omega
      have hz0 : -4611686018427387904 ≤ x.ab + x.sb ∧ x.ab + x.sb ≤ 4611686018427387904 := by omega
      have HE := Lib.hid (fun wx => (show Calls Try.prog 35 #[x.V] wx (fun e w' => e = .returned (.int .i64 z) ∧ Kept wx w') from by have := besideEnd_any x wx hz0; rw [hz] at this; exact this))
      clear hend hz
      by_cases h1 : y < z
      · cases fd with
        | false =>
          rw [if_pos (by unfold nextB; simp [h1])] at hstep
          have HS := Lib.hid hstep
          clear hstep
          go_wp2_with fail
          refine with_boxes1 ?_
          intro X hX e
          have hsz := hk.size
          replace hk := hk.trans hX
          clear hX
          replace e_l := e.lt
          replace e_0 := e.at 0 _ rfl
          replace e_1 := e.at 1 _ rfl
          replace e_2 := e.at 2 _ rfl
          replace e_3 := e.at 3 _ rfl
          replace e_4 := e.at 4 _ rfl
          refine (HE.out _).mono ?_
          rintro e w1 ⟨rfl, hn⟩
          replace hk := hk.trans hn
          replace e := e.kept hn
          clear hn
          replace e_l := e.lt
          replace e_0 := e.at 0 _ rfl
          replace e_1 := e.at 1 _ rfl
          replace e_2 := e.at 2 _ rfl
          replace e_3 := e.at 3 _ rfl
          replace e_4 := e.at 4 _ rfl
          go_wp2_with fail
          refine (HE.out _).mono ?_
          rintro e w1 ⟨rfl, hn⟩
          replace hk := hk.trans hn
          replace e := e.kept hn
          clear hn
          replace e_l := e.lt
          replace e_0 := e.at 0 _ rfl
          replace e_1 := e.at 1 _ rfl
          replace e_2 := e.at 2 _ rfl
          replace e_3 := e.at 3 _ rfl
          replace e_4 := e.at 4 _ rfl
          go_wp2
          go_roundw
          case rel => exact ⟨k + 1, by omega, by go_num, by rw [HS.out], by rw [HS.out], hk⟩
          case measure => simp [intOf]; omega
        | true =>
          by_cases h2 : z < nx
          · rw [if_pos (by unfold nextB; simp [h1, h2])] at hstep
            have HS := Lib.hid hstep
            clear hstep
            go_wp2_with fail
            refine with_boxes1 ?_
            intro X hX e
            have hsz := hk.size
            replace hk := hk.trans hX
            clear hX
            replace e_l := e.lt
            replace e_0 := e.at 0 _ rfl
            replace e_1 := e.at 1 _ rfl
            replace e_2 := e.at 2 _ rfl
            replace e_3 := e.at 3 _ rfl
            replace e_4 := e.at 4 _ rfl
            refine (HE.out _).mono ?_
            rintro e w1 ⟨rfl, hn⟩
            replace hk := hk.trans hn
            replace e := e.kept hn
            clear hn
            replace e_l := e.lt
            replace e_0 := e.at 0 _ rfl
            replace e_1 := e.at 1 _ rfl
            replace e_2 := e.at 2 _ rfl
            replace e_3 := e.at 3 _ rfl
            replace e_4 := e.at 4 _ rfl
            go_wp2_with fail
            refine (HE.out _).mono ?_
            rintro e w1 ⟨rfl, hn⟩
            replace hk := hk.trans hn
            replace e := e.kept hn
            clear hn
            replace e_l := e.lt
            replace e_0 := e.at 0 _ rfl
            replace e_1 := e.at 1 _ rfl
            replace e_2 := e.at 2 _ rfl
            replace e_3 := e.at 3 _ rfl
            replace e_4 := e.at 4 _ rfl
            go_wp2_with fail
            refine (HE.out _).mono ?_
            rintro e w1 ⟨rfl, hn⟩
            replace hk := hk.trans hn
            replace e := e.kept hn
            clear hn
            replace e_l := e.lt
            replace e_0 := e.at 0 _ rfl
            replace e_1 := e.at 1 _ rfl
            replace e_2 := e.at 2 _ rfl
            replace e_3 := e.at 3 _ rfl
            replace e_4 := e.at 4 _ rfl
            go_wp2
            go_roundw
            case rel => exact ⟨k + 1, by omega, by go_num, by rw [HS.out], by rw [HS.out], hk⟩
            case measure => simp [intOf]; omega
          · rw [if_neg (by unfold nextB; simp [h1, h2])] at hstep
            have HS := Lib.hid hstep
            clear hstep
            go_wp2_with fail
            refine with_boxes1 ?_
            intro X hX e
            have hsz := hk.size
            replace hk := hk.trans hX
            clear hX
            replace e_l := e.lt
            replace e_0 := e.at 0 _ rfl
            replace e_1 := e.at 1 _ rfl
            replace e_2 := e.at 2 _ rfl
            replace e_3 := e.at 3 _ rfl
            replace e_4 := e.at 4 _ rfl
            refine (HE.out _).mono ?_
            rintro e w1 ⟨rfl, hn⟩
            replace hk := hk.trans hn
            replace e := e.kept hn
            clear hn
            replace e_l := e.lt
            replace e_0 := e.at 0 _ rfl
            replace e_1 := e.at 1 _ rfl
            replace e_2 := e.at 2 _ rfl
            replace e_3 := e.at 3 _ rfl
            replace e_4 := e.at 4 _ rfl
            go_wp2_with fail
            refine (HE.out _).mono ?_
            rintro e w1 ⟨rfl, hn⟩
            replace hk := hk.trans hn
            replace e := e.kept hn
            clear hn
            replace e_l := e.lt
            replace e_0 := e.at 0 _ rfl
            replace e_1 := e.at 1 _ rfl
            replace e_2 := e.at 2 _ rfl
            replace e_3 := e.at 3 _ rfl
            replace e_4 := e.at 4 _ rfl
            go_wp2
            go_roundw
            case rel => exact ⟨k + 1, by omega, by go_num, by rw [HS.out], by rw [HS.out], hk⟩
            case measure => simp [intOf]; omega
      · rw [if_neg (by unfold nextB; simp [h1])] at hstep
        have HS := Lib.hid hstep
        clear hstep
        go_wp2_with fail
        refine with_boxes1 ?_
        intro X hX e
        have hsz := hk.size
        replace hk := hk.trans hX
        clear hX
        replace e_l := e.lt
        replace e_0 := e.at 0 _ rfl
        replace e_1 := e.at 1 _ rfl
        replace e_2 := e.at 2 _ rfl
        replace e_3 := e.at 3 _ rfl
        replace e_4 := e.at 4 _ rfl
        refine (HE.out _).mono ?_
        rintro e w1 ⟨rfl, hn⟩
        replace hk := hk.trans hn
        replace e := e.kept hn
        clear hn
        replace e_l := e.lt
        replace e_0 := e.at 0 _ rfl
        replace e_1 := e.at 1 _ rfl
        replace e_2 := e.at 2 _ rfl
        replace e_3 := e.at 3 _ rfl
        replace e_4 := e.at 4 _ rfl
        go_wp2
        go_roundw
        case rel => exact ⟨k + 1, by omega, by go_num, by rw [HS.out], by rw [HS.out], hk⟩
        case measure => simp [intOf]; omega
    · obtain rfl : k = n := by omega
      go_wp2
      go_ret2
      exact ⟨rfl, hk⟩
theorem besideNext_any (v : Value) (n : Nat) (Z : Nat → Nat → Int) (y : Int) (w : World) (hv : RV 5 w v n (intC Z)) (hn : n ≤ 32) (ha : allE (excOf Z) n = true) :
    Calls Try.prog 28 #[v, .int .i64 y] w fun e w' => e = .returned (.tuple #[.int .i64 (nextS (excOf Z) y n).1, .bool (nextS (excOf Z) y n).2]) ∧ Kept w w' := by
  rcases hv with ⟨rfl, o, cap, rfl⟩ | ⟨b, off, cap, rfl, _, _, hi⟩
  · exact besideNext_none o cap _ y w
  · exact besideNext_some b off n cap Z y w hi hn ha
def clearB (c : Int) : Bool := inB 0 3 c
/-- may a band be asked? -/
def askB (room : Int) (n : Nat) (E : Nat → Exc) (y h : Int) : Bool := mayX room n E && (inB 0 4194304 y && inB 0 4194304 h)
end Go.Proofs.Ytkonpnaedniceaa
