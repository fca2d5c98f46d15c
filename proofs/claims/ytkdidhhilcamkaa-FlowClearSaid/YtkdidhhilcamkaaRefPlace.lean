/- Layer 17: where a float stands, by the document. -/
import Derived.Test.YtkdidhhilcamkaaPlaceR
namespace Go.Proofs.Ytkdidhhilcamkaa
open Go.RowKit Go.Deep
set_option linter.unusedSimpArgs false
set_option linter.unusedVariables false
theorem side_of {side : Int} (h : inB 1 2 side = true) : side = 1 ∨ side = 2 := by have := inB_true.1 h; omega
theorem side_no {side : Int} (h : inB 1 2 side = false) : (side == 1) = false ∧ (side == 2) = false ∧ (side != 1) = true ∧ (side != 2) = true := by
  have := inB_false.1 h
  simp
  omega
set_option maxRecDepth 20000 in
set_option maxHeartbeats 4000000 in
theorem refPlace_no (v : Value) (n : Nat) (Z : Nat → Nat → Int) (room y side clear si sb : Int) (w : World) (hv : RV 5 w v n (intC Z)) (hn : n ≤ 4611686018427387904) (hb : placeB (excOf Z) room n y side clear si sb = false) :
    Calls Try.prog 15 #[v, .int .i64 room, .int .i64 y, .int .i64 side, .int .i64 clear, .agg #[.int .i64 si, .int .i64 sb]] w fun e w' => e = .returned (.tuple #[zeroE.V, .int .i64 1700]) ∧ Kept w w' := by
  have Hb := Lib.hid hb
  clear hb
  have hk : Kept w w := Kept.refl w
  go_enter Try.func15, Try.ntmps15
  go_wp2_with fail
  refine with_boxes2 ?_
  intro X hX s r
  have hsz := hk.size
  replace hk := hk.trans hX
  clear hX
  replace s_l := s.lt
  replace s_0 := s.at 0 _ rfl
  replace s_1 := s.at 1 _ rfl
  refine (refBandsMay_any v n Z room _ (hv.kept hk) hn).mono ?_
  rintro e w1 ⟨rfl, hn⟩
  replace hk := hk.trans hn
  replace s := s.kept hn
  replace r := r.kept hn
  clear hn
  replace s_l := s.lt
  replace s_0 := s.at 0 _ rfl
  replace s_1 := s.at 1 _ rfl
  rcases false_first1 (mayX room n (excOf Z)) with h | h
  · clear Hb
    go_wp2_with (refine here_store 29 _ _ rfl ?_; refine wpList_store_own rfl 29 _ _ rfl _ _ rfl rfl r (by rfl) (by kernel_rfl) (by rfl) ?_; intro X oX hoX hkX; replace hk := hkX _ hk (by first | omega | (simp; omega)); replace r := oX; replace s := s.same (hoX _ (by first | omega | (simp; omega))); clear oX hoX hkX; replace s_l := s.lt; replace s_0 := s.at 0 _ rfl; replace s_1 := s.at 1 _ rfl)
    exact bodyPost_ret (results_own_tmp 29 _ Try.results15 rfl r Try.underlying29 rfl (by kernel_rfl)) rfl ⟨rfl, hk⟩
  go_wp2_with fail
  refine (room11_any _ _).mono ?_
  rintro e w1 ⟨rfl, rfl⟩
  rcases false_first1 (inB 0 4194304 y) with h2 | h2
  · clear Hb
    go_wp2_with (refine here_store 29 _ _ rfl ?_; refine wpList_store_own rfl 29 _ _ rfl _ _ rfl rfl r (by rfl) (by kernel_rfl) (by rfl) ?_; intro X oX hoX hkX; replace hk := hkX _ hk (by first | omega | (simp; omega)); replace r := oX; replace s := s.same (hoX _ (by first | omega | (simp; omega))); clear oX hoX hkX; replace s_l := s.lt; replace s_0 := s.at 0 _ rfl; replace s_1 := s.at 1 _ rfl)
    exact bodyPost_ret (results_own_tmp 29 _ Try.results15 rfl r Try.underlying29 rfl (by kernel_rfl)) rfl ⟨rfl, hk⟩
  rcases false_first1 (inB 1 2 side) with h3 | h3
  · obtain ⟨s1, s2, s3, s4⟩ := side_no h3
    clear Hb h3
    go_wp2_with (refine here_store 29 _ _ rfl ?_; refine wpList_store_own rfl 29 _ _ rfl _ _ rfl rfl r (by rfl) (by kernel_rfl) (by rfl) ?_; intro X oX hoX hkX; replace hk := hkX _ hk (by first | omega | (simp; omega)); replace r := oX; replace s := s.same (hoX _ (by first | omega | (simp; omega))); clear oX hoX hkX; replace s_l := s.lt; replace s_0 := s.at 0 _ rfl; replace s_1 := s.at 1 _ rfl)
    exact bodyPost_ret (results_own_tmp 29 _ Try.results15 rfl r Try.underlying29 rfl (by kernel_rfl)) rfl ⟨rfl, hk⟩
  rcases side_of h3 with rfl | rfl
  · skip
    go_wp2_with fail
    refine (upTo11_any _ _ _).mono ?_
    rintro e w1 ⟨rfl, rfl⟩
    rcases false_first1 (inB 0 3 clear) with h4 | h4
    · clear Hb
      go_wp2_with (refine here_store 29 _ _ rfl ?_; refine wpList_store_own rfl 29 _ _ rfl _ _ rfl rfl r (by rfl) (by kernel_rfl) (by rfl) ?_; intro X oX hoX hkX; replace hk := hkX _ hk (by first | omega | (simp; omega)); replace r := oX; replace s := s.same (hoX _ (by first | omega | (simp; omega))); clear oX hoX hkX; replace s_l := s.lt; replace s_0 := s.at 0 _ rfl; replace s_1 := s.at 1 _ rfl)
      exact bodyPost_ret (results_own_tmp 29 _ Try.results15 rfl r Try.underlying29 rfl (by kernel_rfl)) rfl ⟨rfl, hk⟩
    go_wp2_with fail
    refine (room11_any _ _).mono ?_
    rintro e w1 ⟨rfl, rfl⟩
    rcases false_first1 (inB 0 4194304 si) with h5 | h5
    · clear Hb
      go_wp2_with (refine here_store 29 _ _ rfl ?_; refine wpList_store_own rfl 29 _ _ rfl _ _ rfl rfl r (by rfl) (by kernel_rfl) (by rfl) ?_; intro X oX hoX hkX; replace hk := hkX _ hk (by first | omega | (simp; omega)); replace r := oX; replace s := s.same (hoX _ (by first | omega | (simp; omega))); clear oX hoX hkX; replace s_l := s.lt; replace s_0 := s.at 0 _ rfl; replace s_1 := s.at 1 _ rfl)
      exact bodyPost_ret (results_own_tmp 29 _ Try.results15 rfl r Try.underlying29 rfl (by kernel_rfl)) rfl ⟨rfl, hk⟩
    go_wp2_with fail
    refine (room11_any _ _).mono ?_
    rintro e w1 ⟨rfl, rfl⟩
    rcases false_first1 (inB 0 4194304 sb) with h6 | h6
    · clear Hb
      go_wp2_with (refine here_store 29 _ _ rfl ?_; refine wpList_store_own rfl 29 _ _ rfl _ _ rfl rfl r (by rfl) (by kernel_rfl) (by rfl) ?_; intro X oX hoX hkX; replace hk := hkX _ hk (by first | omega | (simp; omega)); replace r := oX; replace s := s.same (hoX _ (by first | omega | (simp; omega))); clear oX hoX hkX; replace s_l := s.lt; replace s_0 := s.at 0 _ rfl; replace s_1 := s.at 1 _ rfl)
      exact bodyPost_ret (results_own_tmp 29 _ Try.results15 rfl r Try.underlying29 rfl (by kernel_rfl)) rfl ⟨rfl, hk⟩
    exfalso
    have hb := Hb.out
    unfold placeB at hb
    rw [h, h2, h3, h4, h5, h6] at hb
    cases hb
  · skip
    go_wp2_with fail
    refine (upTo11_any _ _ _).mono ?_
    rintro e w1 ⟨rfl, rfl⟩
    rcases false_first1 (inB 0 3 clear) with h4 | h4
    · clear Hb
      go_wp2_with (refine here_store 29 _ _ rfl ?_; refine wpList_store_own rfl 29 _ _ rfl _ _ rfl rfl r (by rfl) (by kernel_rfl) (by rfl) ?_; intro X oX hoX hkX; replace hk := hkX _ hk (by first | omega | (simp; omega)); replace r := oX; replace s := s.same (hoX _ (by first | omega | (simp; omega))); clear oX hoX hkX; replace s_l := s.lt; replace s_0 := s.at 0 _ rfl; replace s_1 := s.at 1 _ rfl)
      exact bodyPost_ret (results_own_tmp 29 _ Try.results15 rfl r Try.underlying29 rfl (by kernel_rfl)) rfl ⟨rfl, hk⟩
    go_wp2_with fail
    refine (room11_any _ _).mono ?_
    rintro e w1 ⟨rfl, rfl⟩
    rcases false_first1 (inB 0 4194304 si) with h5 | h5
    · clear Hb
      go_wp2_with (refine here_store 29 _ _ rfl ?_; refine wpList_store_own rfl 29 _ _ rfl _ _ rfl rfl r (by rfl) (by kernel_rfl) (by rfl) ?_; intro X oX hoX hkX; replace hk := hkX _ hk (by first | omega | (simp; omega)); replace r := oX; replace s := s.same (hoX _ (by first | omega | (simp; omega))); clear oX hoX hkX; replace s_l := s.lt; replace s_0 := s.at 0 _ rfl; replace s_1 := s.at 1 _ rfl)
      exact bodyPost_ret (results_own_tmp 29 _ Try.results15 rfl r Try.underlying29 rfl (by kernel_rfl)) rfl ⟨rfl, hk⟩
    go_wp2_with fail
    refine (room11_any _ _).mono ?_
    rintro e w1 ⟨rfl, rfl⟩
    rcases false_first1 (inB 0 4194304 sb) with h6 | h6
    · clear Hb
      go_wp2_with (refine here_store 29 _ _ rfl ?_; refine wpList_store_own rfl 29 _ _ rfl _ _ rfl rfl r (by rfl) (by kernel_rfl) (by rfl) ?_; intro X oX hoX hkX; replace hk := hkX _ hk (by first | omega | (simp; omega)); replace r := oX; replace s := s.same (hoX _ (by first | omega | (simp; omega))); clear oX hoX hkX; replace s_l := s.lt; replace s_0 := s.at 0 _ rfl; replace s_1 := s.at 1 _ rfl)
      exact bodyPost_ret (results_own_tmp 29 _ Try.results15 rfl r Try.underlying29 rfl (by kernel_rfl)) rfl ⟨rfl, hk⟩
    exfalso
    have hb := Hb.out
    unfold placeB at hb
    rw [h, h2, h3, h4, h5, h6] at hb
    cases hb
set_option maxRecDepth 20000 in
set_option maxHeartbeats 8000000 in
theorem refPlace_yes (v : Value) (n : Nat) (Z : Nat → Nat → Int) (room y side clear si sb : Int) (w : World) (hv : RV 5 w v n (intC Z)) (hb : placeB (excOf Z) room n y side clear si sb = true) :
    Calls Try.prog 15 #[v, .int .i64 room, .int .i64 y, .int .i64 side, .int .i64 clear, .agg #[.int .i64 si, .int .i64 sb]] w fun e w' => e = .returned (.tuple #[(placeE (excOf Z) room n y side clear si sb).V, .int .i64 0]) ∧ Kept w w' := by
  have hb2 := hb
  unfold placeB at hb2
  simp only [Bool.and_eq_true] at hb2
  obtain ⟨⟨⟨hm, ⟨hy1, hsi1⟩, hsb1⟩, hside1⟩, hclear1⟩ := hb2
  have hy := inB_true.1 hy1
  have hsi := inB_true.1 hsi1
  have hsb := inB_true.1 hsb1
  have hside := side_of hside1
  obtain ⟨hr, h32, hall⟩ := mayX_true.1 hm
  obtain ⟨b, hbe⟩ : ∃ b, belowS (excOf Z) clear n = b := ⟨_, rfl⟩
  have hbb : 0 ≤ b ∧ b ≤ 8388608 := by rw [← hbe]; exact belowS_bd clear hall n (Nat.le_refl _)
  have HBel := Lib.hid (fun wx (hx : RV 5 wx v n (intC Z)) => (show Calls Try.prog 36 #[v, .int .i64 clear] wx (fun e w' => e = .returned (.tuple #[.int .i64 b, .int .i64 0]) ∧ Kept wx w') from by have := refBelow_any v n Z clear wx hx h32 hall hclear1; rw [hbe] at this; exact this))
  have hY1 : 0 ≤ max y b ∧ max y b ≤ 8388608 := by omega
  obtain ⟨Y1, hY1e⟩ : ∃ Y1, max y b = Y1 := ⟨_, rfl⟩
  rw [hY1e] at hY1
  have HT := Lib.hid (fun k hk => topS_bd (y := Y1) hall hY1 k hk)
  have hst : startS (excOf Z) n y clear = topS (excOf Z) Y1 n := by unfold startS; rw [hbe, hY1e]
  have HA := Lib.hid (fun k hk => excB_parts (allE_yes hall k hk))
  have HAl := Lib.hid (fun wx (hx : RV 5 wx v n (intC Z)) y (hy : 0 ≤ y ∧ y ≤ 1073741824) => refAlone_any v n Z y sb wx hx h32 hall hy (by omega))
  have HN := Lib.hid (fun wx (hx : RV 5 wx v n (intC Z)) y => refNext_any v n Z y wx hx h32 hall)
  have HB := Lib.hid (fun wx (hx : RV 5 wx v n (intC Z)) y (hy : 0 ≤ y ∧ y ≤ 1073741824) => refBandS_any v n Z room y sb wx hx hm hy (by omega))
  have HBB := Lib.hid (fun y => bandS_bd (y := y) (h := sb) hall hr n (Nat.le_refl _))
  have hpy : placeY (excOf Z) room n y clear si sb = settleS (excOf Z) room n si sb (topS (excOf Z) Y1 n) := by unfold placeY; rw [hst]
  have HFit := Lib.hid (fun y => (show fitsB (excOf Z) room n si sb y = (decide (si ≤ max (bandS (excOf Z) room y sb n).1 (bandS (excOf Z) room y sb n).2 - (bandS (excOf Z) room y sb n).1) || !anyE (excOf Z) y sb n) from rfl))
  have HNB := Lib.hid (fun y (h : fitsB (excOf Z) room n si sb y = false) => (show (nextS (excOf Z) y n).2 = true ∧ y < (nextS (excOf Z) y n).1 ∧ (nextS (excOf Z) y n).1 ≤ 8388608 ∧ cntE (excOf Z) (nextS (excOf Z) y n).1 n < cntE (excOf Z) y n from by
    obtain ⟨h1, h2, ⟨k, hk, h3⟩, _⟩ := nextS_is n (anyE_ends (fits_any h))
    refine ⟨h1, h2, ?_, next_less (fits_any h)⟩
    have := excB_parts (allE_yes hall k hk)
    rw [h3]; unfold endS; omega))
  have HMy := Lib.hid hm
  obtain ⟨o, cap, rfl⟩ := hv.shape
  obtain ⟨S, hS⟩ : ∃ S, w.heap.size = S := ⟨_, rfl⟩
  have hSw : w.heap.size ≤ S := by omega
  replace hY1e := Lib.hid hY1e
  replace hpy := Lib.hid hpy
  have hn63 : n ≤ 4611686018427387904 := by omega
  clear hall hst hbe hb hside1 hm
  have Hside := Lib.hid hside
  have HMay := Lib.hid (fun wx (hx : RV 5 wx (.slice o n cap) n (intC Z)) => (show Calls Try.prog 19 #[.slice o n cap, .int .i64 room] wx (fun e w' => e = .returned (.bool true) ∧ Kept wx w') from by have := refBandsMay_any (.slice o n cap) n Z room wx hx hn63; rw [HMy.out] at this; exact this))
  clear hside
  have hk : Kept w w := Kept.refl w
  go_enter Try.func15, Try.ntmps15
  go_upto_region 1 with fail
  refine code_boxes2 ?_
  intro X hX s r
  have hsz := hk.size
  replace hk := hk.trans hX
  clear hX
  replace s_l := s.lt
  replace s_0 := s.at 0 _ rfl
  replace s_1 := s.at 1 _ rfl
  rw [hS] at s r s_0 s_1 s_l
  clear hsz hS
  go_cut [55] from 22 to 54 (fun y1 wx => y1 = .bool false ∧ Kept w wx ∧ Own wx S 24 #[.int .i64 si, .int .i64 sb] ∧ Own wx (S + 1) 29 #[.int .i64 0, .int .i64 0, .int .i64 0, .int .i64 0, .int .i64 0])
  case first =>
    rcases Hside.out with rfl | rfl
    all_goals
      go_wp2_with fail
      refine (HMay.out _ (hv.kept hk)).mono ?_
      rintro e w1 ⟨rfl, hn⟩
      replace hk := hk.trans hn
      replace s := s.kept hn
      replace r := r.kept hn
      clear hn
      replace s_l := s.lt
      replace s_0 := s.at 0 _ rfl
      replace s_1 := s.at 1 _ rfl
      go_wp2_with fail
      refine (room11_any _ _).mono ?_
      rintro e w1 ⟨rfl, rfl⟩
      go_wp2_with fail
      refine (upTo11_any _ _ _).mono ?_
      rintro e w1 ⟨rfl, rfl⟩
      go_wp2_with fail
      refine (room11_any _ _).mono ?_
      rintro e w1 ⟨rfl, rfl⟩
      go_wp2_with fail
      refine (room11_any _ _).mono ?_
      rintro e w1 ⟨rfl, rfl⟩
      go_wp2_with fail
      go_meet
      exact ⟨rfl, hk, s, r⟩
  case rest =>
    clear hk s r s_0 s_1 s_l HMay hsi1 hsb1 hy1 hclear1
    obtain ⟨rfl, hk, s, r⟩ := hcut
    go_wp2_with fail
    refine (HBel.out _ (hv.kept hk)).mono ?_
    rintro e w1 ⟨rfl, hn⟩
    replace hk := hk.trans hn
    replace s := s.kept hn
    replace r := r.kept hn
    clear hn
    replace s_l := s.lt
    replace s_0 := s.at 0 _ rfl
    replace s_1 := s.at 1 _ rfl
    clear s_0 s_1 s_l
    obtain ⟨wc2, hwc2⟩ : ∃ wc2 : World, wc2 = w1 := ⟨_, rfl⟩
    subst hwc2
    clear HBel
    go_upto_region 4 with fail
    go_cut [2] from 63 to 65 (fun y1 wx => y1 = .int .i64 Y1 ∧ wc2 = wx)
    case first =>
      rcases (by omega : y < b ∨ (y ≤ b ∧ b ≤ y) ∨ b < y) with h1 | h1 | h1
      all_goals
        go_wp2_with fail
        go_meet
        exact ⟨by have := hY1e.out; congr 1; omega, rfl⟩
    case rest =>
      obtain ⟨rfl, hwc⟩ := hcut
      subst hwc
      go_wp2
      go_loopw [2, 16] (fun p i wx => ∃ k : Nat, k ≤ n ∧ i = .int .i64 k ∧ p = .int .i64 (topS (excOf Z) Y1 k) ∧ Kept w wx ∧ Own wx S 24 #[.int .i64 si, .int .i64 sb] ∧ Own wx (S + 1) 29 #[.int .i64 0, .int .i64 0, .int .i64 0, .int .i64 0, .int .i64 0]) (fun _ i _ => n - (intOf i).toNat)
      case atStart => exact ⟨0, Nat.zero_le _, rfl, rfl, hk, s, r⟩
      case round =>
        clear hk s r
        obtain ⟨k, hkn, rfl, rfl, hk, s, r⟩ := hrel
        by_cases hlt : k < n
        · have hi1 : (k : Int) < (n : Int) := by omega
          obtain ⟨b0, off, rfl, _, hw⟩ := (hv.kept hk).row (by omega)
          have c1 : wr.cell? ⟨b0, off + k * 5 + 1, none⟩ = some (.int .i64 (excOf Z k).ab) := hw k 1 hlt (by decide)
          have b1 := HT.out k hkn
          have b2 := HA.out k hlt
          have hstep : topS (excOf Z) Y1 (k + 1) = max (topS (excOf Z) Y1 k) (excOf Z k).ab := rfl
          have HSt := Lib.hid hstep
          clear hstep hw
          generalize topS (excOf Z) Y1 k = p at *
          generalize excOf Z k = x at *
          rcases (by omega : p < x.ab ∨ (p ≤ x.ab ∧ x.ab ≤ p) ∨ x.ab < p) with h1 | h1 | h1
          all_goals
            go_wp2
            go_roundw
            case rel => exact ⟨k + 1, by omega, by go_num, by rw [HSt.out]; congr 1; omega, hk, s, r⟩
            case measure => simp [intOf]; omega
        · obtain rfl : k = n := by omega
          have hb0 := HT.out k (Nat.le_refl _)
          generalize topS (excOf Z) Y1 k = t0 at *
          clear HT HA hlt
          have s_0 := s.at 0 _ rfl
          have s_1 := s.at 1 _ rfl
          have s_l := s.lt
          go_wp2_with fail
          refine (HB.out _ (hv.kept hk) t0 (by omega)).mono ?_
          rintro e w1 ⟨rfl, hn⟩
          replace hk := hk.trans hn
          replace s := s.kept hn
          replace r := r.kept hn
          clear hn
          replace s_l := s.lt
          replace s_0 := s.at 0 _ rfl
          replace s_1 := s.at 1 _ rfl
          go_wp2
          clear s_0 s_1 s_l
          go_loopw [2, 17, 18, 19, 20] (fun p f g _ _ wx => ∃ t : Int, p = .int .i64 t ∧ (0 ≤ t ∧ t ≤ 8388608) ∧ f = .int .i64 (bandS (excOf Z) room t sb k).1 ∧ g = .int .i64 (max (bandS (excOf Z) room t sb k).1 (bandS (excOf Z) room t sb k).2) ∧ Hid (settleS (excOf Z) room k si sb t = settleS (excOf Z) room k si sb t0) ∧ Kept w wx ∧ Own wx S 24 #[.int .i64 si, .int .i64 sb] ∧ Own wx (S + 1) 29 #[.int .i64 0, .int .i64 0, .int .i64 0, .int .i64 0, .int .i64 0]) (fun p _ _ _ _ _ => cntE (excOf Z) (intOf p) k)
          case atStart => exact ⟨t0, rfl, hb0, rfl, rfl, Lib.hid rfl, hk, s, r⟩
          case round =>
            clear hk s r
            obtain ⟨t, rfl, htb, rfl, rfl, hse, hk, s, r⟩ := hrel
            have s_0 := s.at 0 _ rfl
            have s_1 := s.at 1 _ rfl
            have s_l := s.lt
            have hbb2 := HBB.out t
            have hfit := HFit.out t
            cases hf : fitsB (excOf Z) room k si sb t with
            | false =>
              obtain ⟨n1, n2, n3, n4⟩ := HNB.out t hf
              have hse2 : settleS (excOf Z) room k si sb (nextS (excOf Z) t k).1 = settleS (excOf Z) room k si sb t0 := by rw [← settle_not hf]; exact hse.out
              replace hse2 := Lib.hid hse2
              rw [hf] at hfit
              have hfit2 := hfit.symm
              rw [Bool.or_eq_false_iff] at hfit2
              obtain ⟨g1, g2⟩ := hfit2
              have g1' := of_decide_eq_false g1
              have HAlt := Lib.hid (fun wx hx => (show Calls Try.prog 38 #[.slice o k cap, .int .i64 t, .int .i64 sb] wx (fun e w' => e = .returned (.bool false) ∧ Kept wx w') from by have := HAl.out wx hx t (by omega); rw [g2] at this; exact this))
              have HNt := Lib.hid (fun wx hx => (show Calls Try.prog 39 #[.slice o k cap, .int .i64 t] wx (fun e w' => e = .returned (.tuple #[.int .i64 (nextS (excOf Z) t k).1, .bool true]) ∧ Kept wx w') from by have := HN.out wx hx t; rw [n1] at this; exact this))
              generalize (nextS (excOf Z) t k).1 = t2 at *
              have HBt := Lib.hid (fun wx hx => HB.out wx hx t2 (by omega))
              have hbb3 := HBB.out t2
              generalize (bandS (excOf Z) room t sb k).1 = f at *
              generalize (bandS (excOf Z) room t sb k).2 = g at *
              generalize hgg : max f g = gg at *
              have hggb : 0 ≤ gg ∧ gg ≤ 1077936128 := by omega
              clear hfit hf n1 g1 g2 HFit
              replace hgg := Lib.hid hgg
              go_wp2_with fail
              refine (HAlt.out _ (hv.kept hk)).mono ?_
              rintro e w1 ⟨rfl, hn⟩
              replace hk := hk.trans hn
              replace s := s.kept hn
              replace r := r.kept hn
              clear hn
              replace s_l := s.lt
              replace s_0 := s.at 0 _ rfl
              replace s_1 := s.at 1 _ rfl
              go_wp2_with fail
              refine (HNt.out _ (hv.kept hk)).mono ?_
              rintro e w1 ⟨rfl, hn⟩
              replace hk := hk.trans hn
              replace s := s.kept hn
              replace r := r.kept hn
              clear hn
              replace s_l := s.lt
              replace s_0 := s.at 0 _ rfl
              replace s_1 := s.at 1 _ rfl
              go_wp2_with fail
              refine (HBt.out _ (hv.kept hk)).mono ?_
              rintro e w1 ⟨rfl, hn⟩
              replace hk := hk.trans hn
              replace s := s.kept hn
              replace r := r.kept hn
              clear hn
              replace s_l := s.lt
              replace s_0 := s.at 0 _ rfl
              replace s_1 := s.at 1 _ rfl
              go_wp2
              go_roundw
              case rel => exact ⟨t2, rfl, by omega, rfl, rfl, hse2, hk, s, r⟩
              case measure => simp [intOf]; exact n4
            | true =>
              have hfin : t = placeY (excOf Z) room k y clear si sb := by rw [hpy.out, ← hse.out, settle_fits hf]
              have hpe : ∀ a, a = placeI (excOf Z) room k y side clear si sb → Ending.returned (.tuple #[.agg #[.int .i64 a, .int .i64 t, .int .i64 si, .int .i64 sb, .int .i64 side], .int .i64 0]) = .returned (.tuple #[(placeE (excOf Z) room k y side clear si sb).V, .int .i64 0]) := fun a ha => by
                unfold placeE
                rw [ha, hfin]
              have hpi : placeI (excOf Z) room k y side clear si sb = if side = 2 then max (bandS (excOf Z) room t sb k).1 (bandS (excOf Z) room t sb k).2 - si else (bandS (excOf Z) room t sb k).1 := by unfold placeI; rw [← hfin]
              rw [hf] at hfit
              have hfit2 := hfit.symm
              rw [Bool.or_eq_true, decide_eq_true_eq] at hfit2
              have HAlt := Lib.hid (fun wx hx => HAl.out wx hx t (by omega))
              generalize (bandS (excOf Z) room t sb k).1 = f at *
              generalize (bandS (excOf Z) room t sb k).2 = g at *
              generalize hgg : max f g = gg at *
              have hggb : 0 ≤ gg ∧ gg ≤ 1077936128 := by omega
              replace hgg := Lib.hid hgg
              replace hpi := Lib.hid hpi
              replace hpe := Lib.hid hpe
              replace hfit2 := Lib.hid hfit2
              clear hfin hse HNB HN HB HBB hpy hY1e hfit hf HFit HAl
              by_cases g1 : si ≤ gg - f
              · rcases Hside.out with rfl | rfl
                all_goals
                  go_wp2_with (refine here_store 29 _ _ rfl ?_; refine wpList_store_own rfl 29 _ _ rfl _ _ rfl rfl (r.alloc _) (by rfl) (by kernel_rfl) (by rfl) ?_; intro X2 oX hoX hkX; replace hk := hkX _ (hk.alloc _) (by omega); clear hoX hkX)
                  exact bodyPost_ret (results_own_tmp 29 _ Try.results15 rfl oX Try.underlying29 rfl (by kernel_rfl)) rfl ⟨hpe.out _ (by rw [hpi.out]; simp), hk⟩
              · have HAl2 := Lib.hid (fun wx hx => (show Calls Try.prog 38 #[.slice o k cap, .int .i64 t, .int .i64 sb] wx (fun e w' => e = .returned (.bool true) ∧ Kept wx w') from by have := HAlt.out wx hx; rw [hfit2.out.resolve_left g1] at this; exact this))
                clear HAlt
                rcases Hside.out with rfl | rfl
                all_goals
                  go_wp2_with fail
                  refine (HAl2.out _ (hv.kept hk)).mono ?_
                  rintro e w1 ⟨rfl, hn⟩
                  replace hk := hk.trans hn
                  replace s := s.kept hn
                  replace r := r.kept hn
                  clear hn
                  replace s_l := s.lt
                  replace s_0 := s.at 0 _ rfl
                  replace s_1 := s.at 1 _ rfl
                  go_wp2_with (refine here_store 29 _ _ rfl ?_; refine wpList_store_own rfl 29 _ _ rfl _ _ rfl rfl (r.alloc _) (by rfl) (by kernel_rfl) (by rfl) ?_; intro X2 oX hoX hkX; replace hk := hkX _ (hk.alloc _) (by omega); clear hoX hkX)
                  exact bodyPost_ret (results_own_tmp 29 _ Try.results15 rfl oX Try.underlying29 rfl (by kernel_rfl)) rfl ⟨hpe.out _ (by rw [hpi.out]; simp), hk⟩
theorem refPlace_any (v : Value) (n : Nat) (Z : Nat → Nat → Int) (room y side clear si sb : Int) (w : World) (hv : RV 5 w v n (intC Z)) (hn : n ≤ 4611686018427387904) :
    Calls Try.prog 15 #[v, .int .i64 room, .int .i64 y, .int .i64 side, .int .i64 clear, .agg #[.int .i64 si, .int .i64 sb]] w fun e w' => e = .returned (.tuple #[(placeR (excOf Z) room n y side clear si sb).1.V, .int .i64 (placeR (excOf Z) room n y side clear si sb).2]) ∧ Kept w w' := by
  cases hb : placeB (excOf Z) room n y side clear si sb with
  | false => rw [placeR_no hb]; exact refPlace_no v n Z room y side clear si sb w hv hn hb
  | true => rw [placeR_yes hb]; exact refPlace_yes v n Z room y side clear si sb w hv hb
end Go.Proofs.Ytkdidhhilcamkaa
