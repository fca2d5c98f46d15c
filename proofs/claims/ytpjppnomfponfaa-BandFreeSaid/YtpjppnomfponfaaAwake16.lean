/- Layer 16: what every program answers that is one; two floats, by hand. -/
import Derived.Test.YtpjppnomfponfaaNextE
import Derived.Test.YtpjppnomfponfaaMask
namespace Go.Proofs.Ytpjppnomfponfaa
open Go.RowKit Go.Deep
set_option linter.unusedSimpArgs false
set_option linter.unusedVariables false
/-- rows of numbers written out -/
def zR (l : List (List Int)) (i j : Nat) : Int := (l.getD i []).getD j 0
theorem bandBand_is (v : Value) (n : Nat) (Z : Nat → Nat → Int) (room y h p q a : Int) (w : World) (hv : RV 5 w v n (intC Z)) (hb : askB room n (excOf Z) y h = true) (hp : bandS (excOf Z) room y h n = (p, q)) (ha : max p q = a) :
    Calls Try.prog 12 #[v, .int .i64 room, .int .i64 y, .int .i64 h] w fun e w' => e = .returned (.tuple #[.int .i64 p, .int .i64 a, .int .i64 0]) ∧ Kept w w' := by
  have := bandBand_yes v n Z room y h w hv hb
  rw [hp, ha] at this
  exact this
theorem bandBelow_is (v : Value) (n : Nat) (Z : Nat → Nat → Int) (c d : Int) (w : World) (hv : RV 5 w v n (intC Z)) (hn : n ≤ 32) (ha : allE (excOf Z) n = true) (hc : clearB c = true) (hd : belowS (excOf Z) c n = d) :
    Calls Try.prog 14 #[v, .int .i64 c] w fun e w' => e = .returned (.tuple #[.int .i64 d, .int .i64 0]) ∧ Kept w w' := by
  subst hd; exact bandBelow_yes v n Z c w hv hn ha hc
theorem bandNext_is (v : Value) (n : Nat) (Z : Nat → Nat → Int) (y d : Int) (b : Bool) (w : World) (hv : RV 5 w v n (intC Z)) (hn : n ≤ 32) (ha : allE (excOf Z) n = true) (hd : nextS (excOf Z) y n = (d, b)) :
    Calls Try.prog 15 #[v, .int .i64 y] w fun e w' => e = .returned (.tuple #[.int .i64 d, .bool b]) ∧ Kept w w' := by
  have := bandNext_any v n Z y w hv hn ha
  rw [hd] at this
  exact this
theorem bandMay_is (v : Value) (room : Int) (n : Nat) (Z : Nat → Nat → Int) (b : Bool) (w : World) (h : RV 5 w v n (intC Z)) (hn : n ≤ 4611686018427387904) (hb : mayX room n (excOf Z) = b) :
    Calls Try.prog 16 #[v, .int .i64 room] w fun e w' => e = .returned (.bool b) ∧ Kept w w' := by subst hb; exact bandMay_any v room n Z w h hn
def a16 : Nat → Nat → Int := zR [[0, 0, 10, 20, 1], [90, 5, 10, 10, 2]]
theorem a16_all : allE (excOf a16) 2 = true := by decide
theorem a16_ask : askB 100 2 (excOf a16) 3 3 = true := by decide
theorem a16_no : askB (-1) 2 (excOf a16) 0 0 = false := by decide
theorem a16_band : bandS (excOf a16) 100 3 3 2 = (10, 90) := by decide
theorem a16_below : belowS (excOf a16) 2 2 = 15 := by decide
theorem a16_next : nextS (excOf a16) 15 2 = (20, true) := by decide
theorem a16_none : nextS (excOf a16) 20 2 = (0, false) := by decide
theorem a16_may : mayX 100 2 (excOf a16) = true := by decide
set_option maxHeartbeats 2000000 in
theorem awake16_any (w : World) :
    Calls Try.prog 11 #[] w fun e w' => e = .returned (.bool true) ∧ Kept w w' := by
  have hk : Kept w w := Kept.refl w
  go_enter Try.func11, Try.ntmps11
  go_wp2_with fail
  refine with_boxes1 ?_
  intro X hX a
  have hsz := hk.size
  replace hk := hk.trans hX
  clear hX
  have ha : RV 5 X _ 2 (intC a16) := rv_lit a 5 2 (by decide) (intC a16) rfl
  clear a
  go_wp2_with fail
  refine (bandBand_is _ 2 a16 _ _ _ _ _ _ _ ha a16_ask a16_band rfl).mono ?_
  rintro e w1 ⟨rfl, hn⟩
  replace hk := hk.trans hn
  replace ha := ha.kept hn
  clear hn
  go_wp2_with fail
  refine (bandBelow_is _ 2 a16 _ _ _ ha (by decide) a16_all rfl a16_below).mono ?_
  rintro e w1 ⟨rfl, hn⟩
  replace hk := hk.trans hn
  replace ha := ha.kept hn
  clear hn
  go_wp2_with fail
  refine (bandNext_is _ 2 a16 _ _ _ _ ha (by decide) a16_all a16_next).mono ?_
  rintro e w1 ⟨rfl, hn⟩
  replace hk := hk.trans hn
  replace ha := ha.kept hn
  clear hn
  go_wp2_with fail
  refine (bandNext_is _ 2 a16 _ _ _ _ ha (by decide) a16_all a16_none).mono ?_
  rintro e w1 ⟨rfl, hn⟩
  replace hk := hk.trans hn
  replace ha := ha.kept hn
  clear hn
  go_wp2_with fail
  refine (bandBand_no _ 2 a16 _ _ _ _ ha (by decide) a16_no).mono ?_
  rintro e w1 ⟨rfl, hn⟩
  replace hk := hk.trans hn
  replace ha := ha.kept hn
  clear hn
  go_wp2_with fail
  refine (bandBelow_no _ _ _ rfl).mono ?_
  rintro e w1 ⟨rfl, hn⟩
  replace hk := hk.trans hn
  replace ha := ha.kept hn
  clear hn
  go_wp2_with fail
  refine (bandMay_is _ _ 2 a16 _ _ ha (by decide) a16_may).mono ?_
  rintro e w1 ⟨rfl, hn⟩
  replace hk := hk.trans hn
  replace ha := ha.kept hn
  clear hn
  go_wp2_with fail
  refine (num_any _ _).mono ?_
  rintro e w1 ⟨rfl, rfl⟩
  go_wp2_with fail
  refine (num_any _ _).mono ?_
  rintro e w1 ⟨rfl, rfl⟩
  go_wp2_with fail
  refine (num_any _ _).mono ?_
  rintro e w1 ⟨rfl, rfl⟩
  go_wp2_with fail
  refine (num_any _ _).mono ?_
  rintro e w1 ⟨rfl, rfl⟩
  go_wp2
  go_ret
  exact ⟨rfl, hk⟩
end Go.Proofs.Ytpjppnomfponfaa
