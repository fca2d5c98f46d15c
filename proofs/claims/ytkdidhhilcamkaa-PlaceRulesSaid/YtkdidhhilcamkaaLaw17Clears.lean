/- Layer 17: what clears stands below those that it clears, wherever these are. -/
import Derived.Test.YtkdidhhilcamkaaLaw17All
import Derived.Deep.QuietTactic
import Derived.BigQuiet
namespace Go.Proofs.Ytkdidhhilcamkaa
open Go.RowKit Go.Deep
set_option linter.unusedSimpArgs false
set_option linter.unusedVariables false
theorem topS_all (E : Nat → Exc) (y : Int) : ∀ k, y ≤ topS E y k ∧ ∀ i, i < k → (E i).ab ≤ topS E y k := by
  intro k
  induction k with
  | zero => exact ⟨Int.le_refl _, fun i hi => by omega⟩
  | succ k ih =>
    have e : topS E y (k + 1) = max (topS E y k) (E k).ab := rfl
    rw [e]
    refine ⟨by omega, fun i hi => ?_⟩
    rcases Nat.lt_or_ge i k with h | h
    · have := ih.2 i h; omega
    · obtain rfl : i = k := by omega
      omega
theorem belowS_clears (E : Nat → Exc) (c : Int) : ∀ k i, i < k → clearsB c (E i).side = true → endS (E i) ≤ belowS E c k := by
  intro k
  induction k with
  | zero => intro i hi; omega
  | succ k ih =>
    intro i hi hc
    have e : belowS E c (k + 1) = if clearsB c (E k).side = true then max (belowS E c k) (endS (E k)) else belowS E c k := rfl
    rw [e]
    rcases Nat.lt_or_ge i k with h | h
    · have := ih i h hc
      split <;> omega
    · obtain rfl : i = k := by omega
      rw [if_pos hc]; omega
/-- a float is not above where it was asked, nor above one that stands, nor above the end of one that it clears -/
theorem placeY_low (E : Nat → Exc) (room : Int) (n : Nat) (y clear si sb : Int) : y ≤ placeY E room n y clear si sb ∧ (∀ i, i < n → (E i).ab ≤ placeY E room n y clear si sb) ∧ ∀ i, i < n → clearsB clear (E i).side = true → endS (E i) ≤ placeY E room n y clear si sb := by
  have h1 : startS E n y clear ≤ placeY E room n y clear si sb := (settle_ind (E := E) (room := room) (n := n) (si := si) (sb := sb) (fun _ => True) (fun _ _ _ _ _ => trivial) _ trivial).2.2
  have h2 := topS_all E (max y (belowS E clear n)) n
  unfold startS at h1
  exact ⟨by omega, fun i hi => by have := h2.2 i hi; omega, fun i hi hc => by have := belowS_clears E clear n i hi hc; omega⟩
set_option maxRecDepth 20000 in
set_option maxHeartbeats 8000000 in
theorem placeClears_no (v : Value) (n : Nat) (Z : Nat → Nat → Int) (room y clear si sb : Int) (w : World) (hv : RV 5 w v n (intC Z)) (hb : n ≤ 3518437208780) (hp : placeB (excOf Z) room n y 1 clear si sb = false) :
    Calls Try.prog 7 #[v, .int .i64 room, .int .i64 y, .int .i64 clear, .agg #[.int .i64 si, .int .i64 sb]] w fun e w' => e = .returned (.bool true) ∧ Kept w w' := by
  have Hp := Lib.hid (placeR_no hp)
  clear hp
  have hk : Kept w w := Kept.refl w
  go_enter Try.func7, Try.ntmps7
  go_wp2_with fail
  refine with_boxes1 ?_
  intro X hX s
  have hsz := hk.size
  replace hk := hk.trans hX
  clear hX
  replace s_l := s.lt
  replace s_0 := s.at 0 _ rfl
  replace s_1 := s.at 1 _ rfl
  refine (awake17_any _).mono ?_
  rintro e w1 ⟨rfl, hn⟩
  replace hk := hk.trans hn
  replace s := s.kept hn
  clear hn
  replace s_l := s.lt
  replace s_0 := s.at 0 _ rfl
  replace s_1 := s.at 1 _ rfl
  go_wp2_with fail
  refine (placePlace_is v n Z _ _ _ _ _ _ _ _ _ (hv.kept hk) (by omega) Hp.out).mono ?_
  rintro e w1 ⟨rfl, hn⟩
  replace hk := hk.trans hn
  replace s := s.kept hn
  clear hn
  replace s_l := s.lt
  replace s_0 := s.at 0 _ rfl
  replace s_1 := s.at 1 _ rfl
  go_wp2_with fail
  refine with_boxes1 ?_
  intro X hX a
  have hsz := hk.size
  replace hk := hk.trans hX
  replace s := s.kept hX
  clear hX
  replace s_l := s.lt
  replace s_0 := s.at 0 _ rfl
  replace s_1 := s.at 1 _ rfl
  replace a_l := a.lt
  replace a_0 := a.at 0 _ rfl
  replace a_1 := a.at 1 _ rfl
  replace a_2 := a.at 2 _ rfl
  replace a_3 := a.at 3 _ rfl
  replace a_4 := a.at 4 _ rfl
  refine (num_any _ _).mono ?_
  rintro e w1 ⟨rfl, rfl⟩
  go_wp2
  go_ret
  exact ⟨rfl, hk⟩
set_option maxRecDepth 20000 in
set_option maxHeartbeats 8000000 in
theorem placeClears_yes (v : Value) (n : Nat) (Z : Nat → Nat → Int) (room y clear si sb : Int) (w : World) (hv : RV 5 w v n (intC Z)) (hp : placeB (excOf Z) room n y 1 clear si sb = true) :
    Calls Try.prog 7 #[v, .int .i64 room, .int .i64 y, .int .i64 clear, .agg #[.int .i64 si, .int .i64 sb]] w fun e w' => e = .returned (.bool true) ∧ Kept w w' := by
  have hb2 := hp
  unfold placeB at hb2
  simp only [Bool.and_eq_true] at hb2
  obtain ⟨⟨⟨hm, ⟨hy1, hsi1⟩, hsb1⟩, hside1⟩, hclear1⟩ := hb2
  have hclear := inB_true.1 hclear1
  obtain ⟨hr, h32, hall⟩ := mayX_true.1 hm
  have hR := placeR_yes hp
  obtain ⟨p1, p2, p3⟩ := placeY_low (excOf Z) room n y clear si sb
  have HA := Lib.hid (fun k hk => excB_parts (allE_yes hall k hk))
  obtain ⟨t, ht⟩ : ∃ t, placeY (excOf Z) room n y clear si sb = t := ⟨_, rfl⟩
  obtain ⟨i, hi⟩ : ∃ i, placeI (excOf Z) room n y 1 clear si sb = i := ⟨_, rfl⟩
  have hE : placeE (excOf Z) room n y 1 clear si sb = ⟨i, t, si, sb, 1⟩ := by unfold placeE; rw [ht, hi]
  rw [hE] at hR
  rw [ht] at p1 p2 p3
  have HR := Lib.hid hR
  have HP2 := Lib.hid p2
  have HP3 := Lib.hid p3
  have HMay := Lib.hid (fun wx (hx : RV 5 wx v n (intC Z)) => (show Calls Try.prog 19 #[v, .int .i64 room] wx (fun e w' => e = .returned (.bool true) ∧ Kept wx w') from by have := refBandsMay_any v n Z room wx hx (by omega); rw [hm] at this; exact this))
  obtain ⟨o, cap, rfl⟩ := hv.shape
  clear hall hm hp hR p2 p3 hE hi ht hy1 hsi1 hsb1 hside1 hclear1
  have hk : Kept w w := Kept.refl w
  go_enter Try.func7, Try.ntmps7
  go_wp2_with fail
  refine with_boxes1 ?_
  intro X hX s
  have hsz := hk.size
  replace hk := hk.trans hX
  clear hX
  replace s_l := s.lt
  replace s_0 := s.at 0 _ rfl
  replace s_1 := s.at 1 _ rfl
  refine (awake17_any _).mono ?_
  rintro e w1 ⟨rfl, hn⟩
  replace hk := hk.trans hn
  replace s := s.kept hn
  clear hn
  replace s_l := s.lt
  replace s_0 := s.at 0 _ rfl
  replace s_1 := s.at 1 _ rfl
  go_wp2_with fail
  refine (placePlace_is _ n Z _ _ _ _ _ _ _ _ _ (hv.kept hk) (by omega) HR.out).mono ?_
  rintro e w1 ⟨rfl, hn⟩
  replace hk := hk.trans hn
  replace s := s.kept hn
  clear hn
  replace s_l := s.lt
  replace s_0 := s.at 0 _ rfl
  replace s_1 := s.at 1 _ rfl
  go_wp2_with fail
  refine with_boxes1 ?_
  intro X hX a
  have hsz := hk.size
  replace hk := hk.trans hX
  replace s := s.kept hX
  clear hX
  replace s_l := s.lt
  replace s_0 := s.at 0 _ rfl
  replace s_1 := s.at 1 _ rfl
  replace a_l := a.lt
  replace a_0 := a.at 0 _ rfl
  replace a_1 := a.at 1 _ rfl
  replace a_2 := a.at 2 _ rfl
  replace a_3 := a.at 3 _ rfl
  replace a_4 := a.at 4 _ rfl
  refine (num_any _ _).mono ?_
  rintro e w1 ⟨rfl, rfl⟩
  go_wp2
  obtain ⟨W0, hW0⟩ : ∃ W0 : World, W0 = X := ⟨_, rfl⟩
  subst hW0
  have H0 := Lib.hid (And.intro hk (And.intro s a))
  clear hk s a a_0 a_1 a_2 a_3 a_4 a_l s_0 s_1 s_l
  go_loopw [13, 14, 15] (fun i _ _ wx => ∃ k : Nat, k ≤ n ∧ i = .int .i64 k ∧ Kept W0 wx) (fun i _ _ _ => n - (intOf i).toNat)
  case atStart => exact ⟨0, Nat.zero_le _, rfl, Kept.refl _⟩
  case round =>
    obtain ⟨k, hkn, rfl, hk0⟩ := hrel
    obtain ⟨hkw, s, a⟩ := H0.out
    have hk := hkw.trans hk0
    replace s := s.kept hk0
    replace a := a.kept hk0
    have s_0 := s.at 0 _ rfl
    have s_1 := s.at 1 _ rfl
    have s_l := s.lt
    have a_0 := a.at 0 _ rfl
    have a_1 := a.at 1 _ rfl
    have a_2 := a.at 2 _ rfl
    have a_3 := a.at 3 _ rfl
    have a_4 := a.at 4 _ rfl
    have a_l := a.lt
    clear hkw s a
    by_cases hlt : k < n
    · have hi0 : (0 : Int) ≤ (k : Int) := Int.natCast_nonneg _
      have hi1 : (k : Int) < (n : Int) := by omega
      obtain ⟨b, off, rfl, _, hw⟩ := (hv.kept hk).row (by omega)
      have c0 : wr.cell? ⟨b, off + k * 5, none⟩ = some (.int .i64 (excOf Z k).ai) := hw k 0 hlt (by decide)
      have c1 : wr.cell? ⟨b, off + k * 5 + 1, none⟩ = some (.int .i64 (excOf Z k).ab) := hw k 1 hlt (by decide)
      have c2 : wr.cell? ⟨b, off + k * 5 + 2, none⟩ = some (.int .i64 (excOf Z k).si) := hw k 2 hlt (by decide)
      have c3 : wr.cell? ⟨b, off + k * 5 + 3, none⟩ = some (.int .i64 (excOf Z k).sb) := hw k 3 hlt (by decide)
      have c4 : wr.cell? ⟨b, off + k * 5 + 4, none⟩ = some (.int .i64 (excOf Z k).side) := hw k 4 hlt (by decide)
      have b2 := HA.out k hlt
      have g1 := HP2.out k hlt
      have g2 := HP3.out k hlt
      have hend : endS (excOf Z k) = (excOf Z k).ab + (excOf Z k).sb := rfl
      clear hw HA HP2 HP3 HR HMay hk hv
      generalize excOf Z k = x at *
      generalize endS x = z at *
      obtain ⟨a1, a2, a3, a4, a5⟩ := x
      dsimp only at c0 c1 c2 c3 c4 b2 g1 g2 hend
      have hwr : IntKind.i64.wrap (a2 + a4) = z := by rw [IntWalk.i64_in _ (by omega)]; exact hend.symm
      have hzb : 0 ≤ z ∧ z ≤ 8388608 := by omega
      have h12 : a5 = 1 ∨ a5 = 2 := by omega
      clear hend b2
      rcases h12 with rfl | rfl <;> rcases (by omega : clear = 0 ∨ clear = 1 ∨ clear = 2 ∨ clear = 3) with rfl | rfl | rfl | rfl
      · clear g2
        go_wp2
        go_quiet (fail)
        go_wp2
        go_quiet (fail)
        go_wp2
        go_roundw
        case rel => exact ⟨k + 1, by omega, by go_num, hk0.drewN _⟩
        case measure => simp [intOf]; omega
      · have g3 : z ≤ t := g2 rfl
        clear g2
        go_wp2
        go_quiet (fail)
        go_wp2
        go_quiet (fail)
        go_wp2
        go_roundw
        case rel => exact ⟨k + 1, by omega, by go_num, hk0.drewN _⟩
        case measure => simp [intOf]; omega
      · clear g2
        go_wp2
        go_quiet (fail)
        go_wp2
        go_quiet (fail)
        go_wp2
        go_roundw
        case rel => exact ⟨k + 1, by omega, by go_num, hk0.drewN _⟩
        case measure => simp [intOf]; omega
      · have g3 : z ≤ t := g2 rfl
        clear g2
        go_wp2
        go_quiet (fail)
        go_wp2
        go_quiet (fail)
        go_wp2
        go_roundw
        case rel => exact ⟨k + 1, by omega, by go_num, hk0.drewN _⟩
        case measure => simp [intOf]; omega
      · clear g2
        go_wp2
        go_quiet (fail)
        go_wp2
        go_quiet (fail)
        go_wp2
        go_roundw
        case rel => exact ⟨k + 1, by omega, by go_num, hk0.drewN _⟩
        case measure => simp [intOf]; omega
      · clear g2
        go_wp2
        go_quiet (fail)
        go_wp2
        go_quiet (fail)
        go_wp2
        go_roundw
        case rel => exact ⟨k + 1, by omega, by go_num, hk0.drewN _⟩
        case measure => simp [intOf]; omega
      · have g3 : z ≤ t := g2 rfl
        clear g2
        go_wp2
        go_quiet (fail)
        go_wp2
        go_quiet (fail)
        go_wp2
        go_roundw
        case rel => exact ⟨k + 1, by omega, by go_num, hk0.drewN _⟩
        case measure => simp [intOf]; omega
      · have g3 : z ≤ t := g2 rfl
        clear g2
        go_wp2
        go_quiet (fail)
        go_wp2
        go_quiet (fail)
        go_wp2
        go_roundw
        case rel => exact ⟨k + 1, by omega, by go_num, hk0.drewN _⟩
        case measure => simp [intOf]; omega
    · obtain rfl : k = n := by omega
      go_wp2_with fail
      refine (HMay.out _ (hv.kept hk)).mono ?_
      rintro e w1 ⟨rfl, hn⟩
      replace hk := hk.trans hn
      clear hn
      go_wp2
      go_ret
      exact ⟨rfl, hk⟩
theorem placeClears_walk (v : Value) (n : Nat) (Z : Nat → Nat → Int) (room y clear : Int) (Y : Nat → Int) (w : World) (hv : RV 5 w v n (intC Z)) (hb : n ≤ 3518437208780) (_hz : ∀ i j, inInt (Z i j)) (_hy : ∀ j, inInt (Y j)) :
    Calls Try.prog 7 #[v, .int .i64 room, .int .i64 y, .int .i64 clear, stV 2 Y] w fun e w' => e = .returned (.bool true) ∧ Kept w w' := by
  cases hp : placeB (excOf Z) room n y 1 clear (Y 0) (Y 1) with
  | false => exact placeClears_no v n Z room y clear (Y 0) (Y 1) w hv hb hp
  | true => exact placeClears_yes v n Z room y clear (Y 0) (Y 1) w hv hp
end Go.Proofs.Ytkdidhhilcamkaa
