/- Layer 16: a band that is higher has no more that is free; each float more takes nothing back. -/
import Derived.Test.YtpjppnomfponfaaAwake16
import Derived.Test.YtpjppnomfponfaaCells
namespace Go.Proofs.Ytpjppnomfponfaa
open Go.RowKit Go.Deep
set_option linter.unusedSimpArgs false
set_option linter.unusedVariables false
theorem meets_higher {x : Exc} {y h d : Int} (hd : 0 ≤ d) (hm : meetsB x y h = true) : meetsB x y (h + d) = true := by
  unfold meetsB at hm ⊢
  simp only [Bool.and_eq_true, decide_eq_true_eq] at hm ⊢
  omega
theorem bandS_higher (E : Nat → Exc) (room y h d : Int) (hd : 0 ≤ d) : ∀ k, (bandS E room y h k).1 ≤ (bandS E room y (h + d) k).1 ∧ (bandS E room y (h + d) k).2 ≤ (bandS E room y h k).2 := by
  intro k
  induction k with
  | zero => exact ⟨Int.le_refl _, Int.le_refl _⟩
  | succ k ih =>
    unfold bandS
    cases h1 : meetsB (E k) y h
    · rw [if_neg (by decide)]
      split
      · split <;> dsimp only <;> omega
      · exact ih
    · rw [meets_higher hd h1, if_pos rfl, if_pos rfl]
      split <;> dsimp only <;> omega
theorem bandS_more (E : Nat → Exc) (room y h : Int) (k : Nat) : (bandS E room y h k).1 ≤ (bandS E room y h (k + 1)).1 ∧ (bandS E room y h (k + 1)).2 ≤ (bandS E room y h k).2 := by
  show _ ≤ (if meetsB (E k) y h = true then (if (E k).side = 1 then (max (bandS E room y h k).1 ((E k).ai + (E k).si), (bandS E room y h k).2) else ((bandS E room y h k).1, min (bandS E room y h k).2 (E k).ai)) else bandS E room y h k : Int × Int).1 ∧ (if meetsB (E k) y h = true then (if (E k).side = 1 then (max (bandS E room y h k).1 ((E k).ai + (E k).si), (bandS E room y h k).2) else ((bandS E room y h k).1, min (bandS E room y h k).2 (E k).ai)) else bandS E room y h k : Int × Int).2 ≤ _
  split
  · split <;> dsimp only <;> omega
  · exact ⟨Int.le_refl _, Int.le_refl _⟩
theorem rv_less {k n m cap : Nat} {w : World} {o : Option Addr} {C : Nat → Nat → Value} (h : RV k w (.slice o n cap) n C) (hm : m ≤ n) : RV k w (.slice o m cap) m C := by
  rcases Nat.eq_zero_or_pos m with rfl | hp
  · exact .inl ⟨rfl, o, cap, rfl⟩
  · obtain ⟨b, off, rfl, h3, h4⟩ := h.row (by omega)
    exact .inr ⟨b, off, cap, rfl, hp, by omega, h4.less hm⟩
theorem ask_less {room y h : Int} {n : Nat} {E : Nat → Exc} (ha : askB room (n + 1) E y h = true) : askB room n E y h = true := by
  unfold askB at ha ⊢
  rw [Bool.and_eq_true] at ha ⊢
  obtain ⟨h1, h2, h3⟩ := mayX_true.1 ha.1
  exact ⟨mayX_true.2 ⟨h1, by omega, allE_of fun k hk => allE_yes h3 k (by omega)⟩, ha.2⟩
theorem ask_higher {room y h d : Int} {n : Nat} {E : Nat → Exc} (ha : askB room n E y h = true) (h0 : 0 ≤ h + d) (h1 : h + d ≤ 4194304) : askB room n E y (h + d) = true := by
  unfold askB at ha ⊢
  simp only [Bool.and_eq_true] at ha ⊢
  exact ⟨ha.1, ha.2.1, inB_true.2 ⟨h0, h1⟩⟩
theorem ask_bounds {room y h : Int} {n : Nat} {E : Nat → Exc} (ha : askB room n E y h = true) : (0 ≤ y ∧ y ≤ 4194304) ∧ (0 ≤ h ∧ h ≤ 4194304) ∧ mayX room n E = true := by
  unfold askB at ha
  simp only [Bool.and_eq_true, inB_true] at ha
  exact ⟨ha.2.1, ha.2.2, ha.1⟩
/-- the band as two numbers, the second one not below the first -/
theorem bandBand_two (v : Value) (n : Nat) (Z : Nat → Nat → Int) (room y h : Int) (hb : askB room n (excOf Z) y h = true) :
    ∃ p q : Int, (∀ w, RV 5 w v n (intC Z) → Calls Try.prog 12 #[v, .int .i64 room, .int .i64 y, .int .i64 h] w fun e w' => e = .returned (.tuple #[.int .i64 p, .int .i64 q, .int .i64 0]) ∧ Kept w w') ∧ p = (bandS (excOf Z) room y h n).1 ∧ q = max (bandS (excOf Z) room y h n).1 (bandS (excOf Z) room y h n).2 ∧ (0 ≤ p ∧ p ≤ 1077936128) ∧ (0 ≤ q ∧ q ≤ 1077936128) := by
  have hx := (ask_bounds hb).2.2
  obtain ⟨h1, _, h3⟩ := mayX_true.1 hx
  have := bandS_bd (y := y) (h := h) h3 h1 n (Nat.le_refl _)
  exact ⟨_, _, fun w hw => bandBand_yes v n Z room y h w hw hb, rfl, rfl, by omega, by omega⟩
set_option maxRecDepth 20000 in
set_option maxHeartbeats 4000000 in
theorem bandHigher_main (sl : Option Addr) (n cap : Nat) (Z : Nat → Nat → Int) (room y h more : Int) (w : World) (hv : RV 5 w (.slice sl n cap) n (intC Z)) (hn : n ≤ 3518437208780) :
    Calls Try.prog 6 #[.slice sl n cap, .int .i64 room, .int .i64 y, .int .i64 h, .int .i64 more] w fun e w' => e = .returned (.bool true) ∧ Kept w w' := by
  cases hb : askB room n (excOf Z) y h with
  | false =>
    have HB := Lib.hid hb
    clear hb
    have hk : Kept w w := Kept.refl w
    go_enter Try.func6, Try.ntmps6
    go_wp2_with fail
    refine (awake16_any _).mono ?_
    rintro e w1 ⟨rfl, hn⟩
    replace hk := hk.trans hn
    clear hn
    go_wp2_with fail
    refine (bandBand_no _ n Z _ _ _ _ (hv.kept hk) (by omega) HB.out).mono ?_
    rintro e w1 ⟨rfl, hn⟩
    replace hk := hk.trans hn
    clear hn
    go_wp2_with fail
    refine (num_any _ _).mono ?_
    rintro e w1 ⟨rfl, rfl⟩
    go_wp2
    go_ret
    exact ⟨rfl, hk⟩
  | true =>
    obtain ⟨d, hd, d0, d1⟩ := masked more 8 255 (by decide) (by decide)
    obtain ⟨p, q, H1, hp, hq, pb, qb⟩ := bandBand_two (.slice sl n cap) n Z room y h hb
    obtain ⟨yb, hhb, hx⟩ := ask_bounds hb
    have h32 := (mayX_true.1 hx).2.1
    by_cases hover : 4194304 < h + d
    · replace H1 := Lib.hid H1
      clear hb hp hq hx
      have hk : Kept w w := Kept.refl w
      go_enter Try.func6, Try.ntmps6
      go_wp2_with fail
      refine (awake16_any _).mono ?_
      rintro e w1 ⟨rfl, hn⟩
      replace hk := hk.trans hn
      clear hn
      go_wp2_with fail
      refine (H1.out _ (hv.kept hk)).mono ?_
      rintro e w1 ⟨rfl, hn⟩
      replace hk := hk.trans hn
      clear hn
      go_wp2_with fail
      refine (num_any _ _).mono ?_
      rintro e w1 ⟨rfl, rfl⟩
      go_wp2
      go_ret
      exact ⟨rfl, hk⟩
    · have hover' : h + d ≤ 4194304 := by omega
      clear hover
      cases n with
      | zero =>
        replace H1 := Lib.hid H1
        clear hb hp hq hx
        have hk : Kept w w := Kept.refl w
        go_enter Try.func6, Try.ntmps6
        go_wp2_with fail
        refine (awake16_any _).mono ?_
        rintro e w1 ⟨rfl, hn⟩
        replace hk := hk.trans hn
        clear hn
        go_wp2_with fail
        refine (H1.out _ (hv.kept hk)).mono ?_
        rintro e w1 ⟨rfl, hn⟩
        replace hk := hk.trans hn
        clear hn
        go_wp2_with fail
        refine (num_any _ _).mono ?_
        rintro e w1 ⟨rfl, rfl⟩
        go_wp2
        go_ret
        exact ⟨rfl, hk⟩
      | succ m =>
        obtain ⟨p2, q2, H2, hp2, hq2, pb2, qb2⟩ := bandBand_two (.slice sl (m + 1) cap) (m + 1) Z room y (h + d) (ask_higher hb (by omega) (by omega))
        obtain ⟨p3, q3, H3, hp3, hq3, pb3, qb3⟩ := bandBand_two (.slice sl m cap) m Z room y h (ask_less hb)
        have m1 := bandS_higher (excOf Z) room y h d d0 (m + 1)
        have m2 := bandS_more (excOf Z) room y h m
        have hne : ((m : Int) + 1 == 0) = false := by simp; omega
        have f1 : p ≤ p2 := by omega
        have f2 : q2 - p2 ≤ q - p := by omega
        have f3 : p3 ≤ p := by omega
        have f4 : q - p ≤ q3 - p3 := by omega
        obtain ⟨b, off, rfl, hcap, hrow⟩ := hv.row (by omega)
        replace H1 := Lib.hid H1
        replace H2 := Lib.hid H2
        replace H3 := Lib.hid H3
        clear hb hp hq hx hp2 hq2 hp3 hq3 m1 m2
        have hk : Kept w w := Kept.refl w
        go_enter Try.func6, Try.ntmps6
        go_wp2_with fail
        refine (awake16_any _).mono ?_
        rintro e w1 ⟨rfl, hn⟩
        replace hk := hk.trans hn
        clear hn
        go_wp2_with fail
        refine (H1.out _ (hv.kept hk)).mono ?_
        rintro e w1 ⟨rfl, hn⟩
        replace hk := hk.trans hn
        clear hn
        go_wp2_with fail
        refine (num_any _ _).mono ?_
        rintro e w1 ⟨rfl, rfl⟩
        go_wp2_with fail
        refine (H2.out _ (hv.kept hk)).mono ?_
        rintro e w1 ⟨rfl, hn⟩
        replace hk := hk.trans hn
        clear hn
        go_wp2_with fail
        refine (H3.out _ (rv_less (hv.kept hk) (by omega))).mono ?_
        rintro e w1 ⟨rfl, hn⟩
        replace hk := hk.trans hn
        clear hn
        go_wp2_with fail
        refine (num_any _ _).mono ?_
        rintro e w1 ⟨rfl, rfl⟩
        go_wp2_with fail
        refine (num_any _ _).mono ?_
        rintro e w1 ⟨rfl, rfl⟩
        go_wp2
        go_ret
        exact ⟨rfl, hk⟩
theorem bandHigher_walk (v : Value) (n : Nat) (Z : Nat → Nat → Int) (room y h more : Int) (w : World) (hv : RV 5 w v n (intC Z)) (hn : n ≤ 3518437208780) (_hz : ∀ i j, inInt (Z i j)) :
    Calls Try.prog 6 #[v, .int .i64 room, .int .i64 y, .int .i64 h, .int .i64 more] w fun e w' => e = .returned (.bool true) ∧ Kept w w' := by
  obtain ⟨sl, cap, rfl⟩ := hv.shape
  exact bandHigher_main sl n cap Z room y h more w hv hn
end Go.Proofs.Ytpjppnomfponfaa
