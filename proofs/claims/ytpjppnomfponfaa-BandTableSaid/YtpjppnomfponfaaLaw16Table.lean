/- Layer 16: two floats, by hand; a band that is higher. -/
import Derived.Test.YtpjppnomfponfaaAwake16
namespace Go.Proofs.Ytpjppnomfponfaa
open Go.RowKit Go.Deep
set_option linter.unusedSimpArgs false
set_option linter.unusedVariables false
def t16 : Nat → Nat → Int := zR [[0, 10, 30, 20, 1], [60, 20, 40, 20, 2]]
theorem t16_all : allE (excOf t16) 2 = true := by decide
theorem t16_meets0 (a k : Int) : meetsB (excOf t16 0) a k = (decide (10 < a + max 1 k) && decide (a < 30)) := rfl
theorem t16_meets1 (a k : Int) : meetsB (excOf t16 1) a k = (decide (20 < a + max 1 k) && decide (a < 40)) := rfl
theorem t16_band {a k : Int} {b c : Bool} (h0 : meetsB (excOf t16 0) a k = b) (h1 : meetsB (excOf t16 1) a k = c) : bandS (excOf t16) 100 a k 2 = (if b = true then 30 else 0, if c = true then 60 else 100) := by
  have e2 : bandS (excOf t16) 100 a k 2 = if meetsB (excOf t16 1) a k = true then (if (excOf t16 1).side = 1 then (max (bandS (excOf t16) 100 a k 1).1 ((excOf t16 1).ai + (excOf t16 1).si), (bandS (excOf t16) 100 a k 1).2) else ((bandS (excOf t16) 100 a k 1).1, min (bandS (excOf t16) 100 a k 1).2 (excOf t16 1).ai)) else bandS (excOf t16) 100 a k 1 := rfl
  have e1 : bandS (excOf t16) 100 a k 1 = if meetsB (excOf t16 0) a k = true then (if (excOf t16 0).side = 1 then (max 0 ((excOf t16 0).ai + (excOf t16 0).si), 100) else (0, min 100 (excOf t16 0).ai)) else (0, 100) := rfl
  rw [e2, e1, h0, h1]
  cases b <;> cases c <;> rfl
theorem t16_next (a : Int) : nextS (excOf t16) a 2 = if a < 30 then (30, true) else if a < 40 then (40, true) else (0, false) := by
  have e2 : nextS (excOf t16) a 2 = if nextB a 40 (nextS (excOf t16) a 1).1 (nextS (excOf t16) a 1).2 = true then (40, true) else nextS (excOf t16) a 1 := rfl
  have e1 : nextS (excOf t16) a 1 = if nextB a 30 0 false = true then (30, true) else (0, false) := rfl
  rw [e2, e1]
  unfold nextB
  by_cases h1 : a < 30
  · have h2 : a < 40 := by omega
    simp [h1, h2]
  · by_cases h2 : a < 40 <;> simp [h1, h2]
theorem t16_ask {a k : Int} (h : 0 ≤ a ∧ a ≤ 63) (g : 0 ≤ k ∧ k ≤ 15) : askB 100 2 (excOf t16) a k = true := by
  unfold askB
  rw [show mayX 100 2 (excOf t16) = true by decide, show inB 0 4194304 a = true from inB_true.2 (by omega), show inB 0 4194304 k = true from inB_true.2 (by omega)]
  rfl
theorem t16_start : belowS (excOf t16) 1 2 = 30 := by decide
theorem t16_both : belowS (excOf t16) 3 2 = 40 := by decide
theorem t16_zero : belowS (excOf t16) 0 2 = 0 := by decide
set_option maxRecDepth 20000 in
set_option maxHeartbeats 4000000 in
theorem bandTable_main (y h a k m : Int) (ha : bits .and .i64 y 63 = a) (hk2 : bits .and .i64 h 15 = k) (a0 : 0 ≤ a) (a1 : a ≤ 63) (k0 : 0 ≤ k) (k1 : k ≤ 15) (hm : max 1 k = m) (b c : Bool) (f t : Int) (z : Int) (is : Bool)
    (hb : meetsB (excOf t16 0) a k = b) (hc : meetsB (excOf t16 1) a k = c) (hft : (if b = true then 30 else 0, if c = true then 60 else 100) = (f, t)) (hz : (if a < 30 then (30, true) else if a < 40 then (40, true) else (0, false)) = (z, is))
    (htl : f ≤ t) (hms : (k < 1 ∧ m = 1) ∨ (1 < k ∧ m = k) ∨ (k = 1 ∧ m = 1)) (hcase : (a < 30 ∧ ((20 < a + m ∧ f = 30 ∧ t = 60) ∨ (a + m ≤ 20 ∧ 10 < a + m ∧ f = 30 ∧ t = 100) ∨ (a + m ≤ 10 ∧ f = 0 ∧ t = 100)) ∧ z = 30 ∧ is = true) ∨ (30 ≤ a ∧ a < 40 ∧ 20 < a + m ∧ f = 0 ∧ t = 60 ∧ z = 40 ∧ is = true) ∨ (40 ≤ a ∧ 10 < a + m ∧ 20 < a + m ∧ f = 0 ∧ t = 100 ∧ z = 0 ∧ is = false)) (w : World) :
    Calls Try.prog 5 #[.int .i64 y, .int .i64 h] w fun e w' => e = .returned (.bool true) ∧ Kept w w' := by
  have HB := Lib.hid (And.intro ((t16_band hb hc).trans hft) (And.intro ((t16_next a).trans hz) (t16_ask (And.intro a0 a1) (And.intro k0 k1))))
  have HM := Lib.hid (show max f t = t by omega)
  clear hft hz hb hc hm htl
  rcases hms with ⟨m1, rfl⟩ | ⟨m1, rfl⟩ | ⟨rfl, rfl⟩ <;> rcases hcase with ⟨g1, ⟨g2, rfl, rfl⟩ | ⟨g2, g3, rfl, rfl⟩ | ⟨g2, rfl, rfl⟩, rfl, rfl⟩ | ⟨g1, g2, g3, rfl, rfl, rfl, rfl⟩ | ⟨g1, g2, g3, rfl, rfl, rfl, rfl⟩
  all_goals
    have hk : Kept w w := Kept.refl w
    go_enter Try.func5, Try.ntmps5
    go_wp2_with fail
    refine (awake16_any _).mono ?_
    rintro e w1 ⟨rfl, hn⟩
    replace hk := hk.trans hn
    clear hn
    go_wp2_with fail
    refine with_boxes1 ?_
    intro X hX e
    have hsz := hk.size
    replace hk := hk.trans hX
    clear hX
    have he : RV 5 X _ 2 (intC t16) := rv_lit e 5 2 (by decide) (intC t16) rfl
    clear e
    go_wp2_with fail
    refine (bandBand_is _ 2 t16 _ _ _ _ _ _ _ he HB.out.2.2 HB.out.1 HM.out).mono ?_
    rintro e w1 ⟨rfl, hn⟩
    replace hk := hk.trans hn
    replace he := he.kept hn
    clear hn
    go_wp2_with fail
    refine (bandNext_is _ 2 t16 _ _ _ _ he (by decide) t16_all HB.out.2.1).mono ?_
    rintro e w1 ⟨rfl, hn⟩
    replace hk := hk.trans hn
    replace he := he.kept hn
    clear hn
    go_wp2_with fail
    refine (bandBelow_is _ 2 t16 _ _ _ he (by decide) t16_all rfl t16_start).mono ?_
    rintro e w1 ⟨rfl, hn⟩
    replace hk := hk.trans hn
    replace he := he.kept hn
    clear hn
    go_wp2_with fail
    refine (bandBelow_is _ 2 t16 _ _ _ he (by decide) t16_all rfl t16_both).mono ?_
    rintro e w1 ⟨rfl, hn⟩
    replace hk := hk.trans hn
    replace he := he.kept hn
    clear hn
    go_wp2_with fail
    refine (bandBelow_is _ 2 t16 _ _ _ he (by decide) t16_all rfl t16_zero).mono ?_
    rintro e w1 ⟨rfl, hn⟩
    replace hk := hk.trans hn
    replace he := he.kept hn
    clear hn
    go_wp2_with fail
    refine (num_any _ _).mono ?_
    rintro e w1 ⟨rfl, rfl⟩
    go_wp2_with fail
    refine (num_any _ _).mono ?_
    rintro e w1 ⟨rfl, rfl⟩
    go_wp2_with fail
    refine (num_any _ _).mono ?_
    rintro e w1 ⟨rfl, rfl⟩
    go_wp2_with fail
    refine (num_any _ _).mono ?_
    rintro e w1 ⟨rfl, rfl⟩
    go_wp2
    go_ret
    exact ⟨ret_bool (by first | rfl | (simp; done) | (simp; omega)), hk⟩
theorem bandTable_walk (y h : Int) (w : World) :
    Calls Try.prog 5 #[.int .i64 y, .int .i64 h] w fun e w' => e = .returned (.bool true) ∧ Kept w w' := by
  obtain ⟨a, ha, a0, a1⟩ := masked y 6 63 (by decide) (by decide)
  obtain ⟨k, hk, k0, k1⟩ := masked h 4 15 (by decide) (by decide)
  have e0 := t16_meets0 a k
  have e1 := t16_meets1 a k
  obtain ⟨m, hm⟩ : ∃ m, max 1 k = m := ⟨_, rfl⟩
  rw [hm] at e0 e1
  by_cases c1 : a < 30
  · by_cases c2 : 20 < a + m
    · exact bandTable_main y h a k m ha hk a0 a1 k0 k1 hm true true 30 60 30 true (by rw [e0]; simp; omega) (by rw [e1]; simp; omega) rfl (by rw [if_pos c1]) (by decide) (by omega) (by simp; omega) w
    · by_cases c3 : 10 < a + m
      · exact bandTable_main y h a k m ha hk a0 a1 k0 k1 hm true false 30 100 30 true (by rw [e0]; simp; omega) (by rw [e1]; simp; omega) rfl (by rw [if_pos c1]) (by decide) (by omega) (by simp; omega) w
      · exact bandTable_main y h a k m ha hk a0 a1 k0 k1 hm false false 0 100 30 true (by rw [e0]; simp; omega) (by rw [e1]; simp; omega) rfl (by rw [if_pos c1]) (by decide) (by omega) (by simp; omega) w
  · by_cases c2 : a < 40
    · exact bandTable_main y h a k m ha hk a0 a1 k0 k1 hm false true 0 60 40 true (by rw [e0]; simp; omega) (by rw [e1]; simp; omega) rfl (by rw [if_neg c1, if_pos c2]) (by decide) (by omega) (by simp; omega) w
    · exact bandTable_main y h a k m ha hk a0 a1 k0 k1 hm false false 0 100 0 false (by rw [e0]; simp; omega) (by rw [e1]; simp; omega) rfl (by rw [if_neg c1, if_neg c2]) (by decide) (by omega) (by simp; omega) w
end Go.Proofs.Ytpjppnomfponfaa
