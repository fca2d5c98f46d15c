/- Layer 17: where a float stands, by the program. -/
import Derived.Test.YtkonpnaedniceaaSettle
import Derived.Deep.CutRange
import Derived.Test.YtkonpnaedniceaaOwn
namespace Go.Proofs.Ytkonpnaedniceaa
open Go.RowKit Go.Deep
set_option linter.unusedSimpArgs false
set_option linter.unusedVariables false
set_option maxHeartbeats 1000000 in
theorem besideFits_any (v : Value) (n : Nat) (Z : Nat → Nat → Int) (room y si sb : Int) (w : World) (hv : RV 5 w v n (intC Z)) (hm : mayX room n (excOf Z) = true) (hy : 0 ≤ y ∧ y ≤ 1073741824) (hsi : 0 ≤ si ∧ si ≤ 4194304) (hsb : 0 ≤ sb ∧ sb ≤ 4194304) :
    Calls Try.prog 27 #[v, .int .i64 room, .int .i64 y, .agg #[.int .i64 si, .int .i64 sb]] w fun e w' => e = .returned (.bool (fitsB (excOf Z) room n si sb y)) ∧ Kept w w' := by
  obtain ⟨hr, h32, hall⟩ := mayX_true.1 hm
  have hbd := bandS_bd (y := y) (h := sb) hall hr n (Nat.le_refl _)
  have hs : fitsB (excOf Z) room n si sb y = (decide (si ≤ max (bandS (excOf Z) room y sb n).1 (bandS (excOf Z) room y sb n).2 - (bandS (excOf Z) room y sb n).1) || !anyE (excOf Z) y sb n) := rfl
  have HB := Lib.hid (fun wx (hx : RV 5 wx v n (intC Z)) => besideBand_any v n Z room y sb wx hx hm hy (by omega))
  have HAny := Lib.hid (fun wx (hx : RV 5 wx v n (intC Z)) => besideAny_any v n Z y sb wx hx h32 hall hy (by omega))
  obtain ⟨p, hp⟩ : ∃ p, (bandS (excOf Z) room y sb n).1 = p := ⟨_, rfl⟩
  obtain ⟨q, hq⟩ : ∃ q, max (bandS (excOf Z) room y sb n).1 (bandS (excOf Z) room y sb n).2 = q := ⟨_, rfl⟩
  have hqb : 0 ≤ p ∧ p ≤ 1077936128 ∧ 0 ≤ q ∧ q ≤ 1077936128 := by omega
  rw [hq, hp] at HB hs
  clear hall hp hq hbd
  by_cases h1 : si ≤ q - p
  · rw [decide_eq_true h1, Bool.true_or] at hs
    have Hs := Lib.hid hs
    clear hs
    have hk : Kept w w := Kept.refl w
    go_enter Try.func27, Try.ntmps27
    go_wp2_with fail
    refine with_boxes1 ?_
    intro X hX s
    have hsz := hk.size
    replace hk := hk.trans hX
    clear hX
    replace s_l := s.lt
    replace s_0 := s.at 0 _ rfl
    replace s_1 := s.at 1 _ rfl
    refine (HB.out _ (hv.kept hk)).mono ?_
    rintro e w1 ⟨rfl, hn⟩
    replace hk := hk.trans hn
    replace s := s.kept hn
    clear hn
    replace s_l := s.lt
    replace s_0 := s.at 0 _ rfl
    replace s_1 := s.at 1 _ rfl
    go_wp2
    go_ret
    exact ⟨ret_bool (by rw [Hs.out]), hk⟩
  · rw [decide_eq_false h1, Bool.false_or] at hs
    have Hs := Lib.hid hs
    clear hs
    have hk : Kept w w := Kept.refl w
    go_enter Try.func27, Try.ntmps27
    go_wp2_with fail
    refine with_boxes1 ?_
    intro X hX s
    have hsz := hk.size
    replace hk := hk.trans hX
    clear hX
    replace s_l := s.lt
    replace s_0 := s.at 0 _ rfl
    replace s_1 := s.at 1 _ rfl
    refine (HB.out _ (hv.kept hk)).mono ?_
    rintro e w1 ⟨rfl, hn⟩
    replace hk := hk.trans hn
    replace s := s.kept hn
    clear hn
    replace s_l := s.lt
    replace s_0 := s.at 0 _ rfl
    replace s_1 := s.at 1 _ rfl
    go_wp2_with fail
    refine (HAny.out _ (hv.kept hk)).mono ?_
    rintro e w1 ⟨rfl, hn⟩
    replace hk := hk.trans hn
    replace s := s.kept hn
    clear hn
    replace s_l := s.lt
    replace s_0 := s.at 0 _ rfl
    replace s_1 := s.at 1 _ rfl
    go_wp2
    go_ret
    exact ⟨ret_bool (by rw [Hs.out, decide_eq_false (by omega), Bool.false_or]), hk⟩
/-- no float is above those that stand already -/
def topS (E : Nat → Exc) (y : Int) : Nat → Int
  | 0 => y
  | k + 1 => max (topS E y k) (E k).ab
theorem topS_bd {E : Nat → Exc} {y : Int} {n : Nat} (ha : allE E n = true) (hy : 0 ≤ y ∧ y ≤ 8388608) : ∀ k, k ≤ n → 0 ≤ topS E y k ∧ topS E y k ≤ 8388608 := by
  intro k
  induction k with
  | zero => intro _; exact hy
  | succ k ih =>
    intro hk
    have h1 := ih (by omega)
    have h2 := excB_parts (allE_yes ha k (by omega))
    unfold topS
    omega
theorem settle_bd {E : Nat → Exc} {room : Int} {n : Nat} {si sb y : Int} (ha : allE E n = true) (hy : 0 ≤ y ∧ y ≤ 8388608) : 0 ≤ settleS E room n si sb y ∧ settleS E room n si sb y ≤ 8388608 := by
  refine (settle_ind (fun y => 0 ≤ y ∧ y ≤ 8388608) (fun y hy _ h2 ⟨k, hk, h3⟩ => ?_) y hy).1
  have := excB_parts (allE_yes ha k hk)
  rw [h3]
  unfold endS
  omega
def startS (E : Nat → Exc) (n : Nat) (y clear : Int) : Int := topS E (max y (belowS E clear n)) n
def placeY (E : Nat → Exc) (room : Int) (n : Nat) (y clear si sb : Int) : Int := settleS E room n si sb (startS E n y clear)
def placeI (E : Nat → Exc) (room : Int) (n : Nat) (y side clear si sb : Int) : Int :=
  if side = 2 then max (bandS E room (placeY E room n y clear si sb) sb n).1 (bandS E room (placeY E room n y clear si sb) sb n).2 - si else (bandS E room (placeY E room n y clear si sb) sb n).1
def placeE (E : Nat → Exc) (room : Int) (n : Nat) (y side clear si sb : Int) : Exc := ⟨placeI E room n y side clear si sb, placeY E room n y clear si sb, si, sb, side⟩
theorem start_bd {E : Nat → Exc} {n : Nat} {y clear : Int} (ha : allE E n = true) (hy : 0 ≤ y ∧ y ≤ 8388608) : 0 ≤ startS E n y clear ∧ startS E n y clear ≤ 8388608 := by
  have := belowS_bd clear ha n (Nat.le_refl _)
  exact topS_bd ha (by omega) n (Nat.le_refl _)
set_option maxRecDepth 20000 in
set_option maxHeartbeats 8000000 in
theorem besidePlace_any (v : Value) (n : Nat) (Z : Nat → Nat → Int) (room y side clear si sb : Int) (w : World) (hv : RV 5 w v n (intC Z)) (hm : mayX room n (excOf Z) = true) (hy : 0 ≤ y ∧ y ≤ 8388608) (hsi : 0 ≤ si ∧ si ≤ 4194304) (hsb : 0 ≤ sb ∧ sb ≤ 4194304) :
    Calls Try.prog 19 #[v, .int .i64 room, .int .i64 y, .int .i64 side, .int .i64 clear, .agg #[.int .i64 si, .int .i64 sb]] w fun e w' => e = .returned (placeE (excOf Z) room n y side clear si sb).V ∧ Kept w w' := by
  obtain ⟨hr, h32, hall⟩ := mayX_true.1 hm
  obtain ⟨b, hb⟩ : ∃ b, belowS (excOf Z) clear n = b := ⟨_, rfl⟩
  have hbb : 0 ≤ b ∧ b ≤ 8388608 := by rw [← hb]; exact belowS_bd clear hall n (Nat.le_refl _)
  have HBel := Lib.hid (fun wx (hx : RV 5 wx v n (intC Z)) => (show Calls Try.prog 26 #[v, .int .i64 clear] wx (fun e w' => e = .returned (.int .i64 b) ∧ Kept wx w') from by have := besideBelow_any v n Z clear wx hx h32 hall; rw [hb] at this; exact this))
  have hY1 : 0 ≤ max y b ∧ max y b ≤ 8388608 := by omega
  obtain ⟨Y1, hY1e⟩ : ∃ Y1, max y b = Y1 := ⟨_, rfl⟩
  rw [hY1e] at hY1
  have HT := Lib.hid (fun k hk => topS_bd (y := Y1) hall hY1 k hk)
  have hst : startS (excOf Z) n y clear = topS (excOf Z) Y1 n := by unfold startS; rw [hb, hY1e]
  have HA := Lib.hid (fun k hk => excB_parts (allE_yes hall k hk))
  have HF := Lib.hid (fun wx (hx : RV 5 wx v n (intC Z)) y (hy : 0 ≤ y ∧ y ≤ 1073741824) => besideFits_any v n Z room y si sb wx hx hm hy hsi hsb)
  have HN := Lib.hid (fun wx (hx : RV 5 wx v n (intC Z)) y => besideNext_any v n Z y wx hx h32 hall)
  have HB := Lib.hid (fun wx (hx : RV 5 wx v n (intC Z)) y (hy : 0 ≤ y ∧ y ≤ 1073741824) => besideBand_any v n Z room y sb wx hx hm hy (by omega))
  have HBB := Lib.hid (fun y => bandS_bd (y := y) (h := sb) hall hr n (Nat.le_refl _))
  have hpy : placeY (excOf Z) room n y clear si sb = settleS (excOf Z) room n si sb (topS (excOf Z) Y1 n) := by unfold placeY; rw [hst]
  have HNB := Lib.hid (fun y (h : fitsB (excOf Z) room n si sb y = false) => (show (nextS (excOf Z) y n).2 = true ∧ y < (nextS (excOf Z) y n).1 ∧ (nextS (excOf Z) y n).1 ≤ 8388608 ∧ cntE (excOf Z) (nextS (excOf Z) y n).1 n < cntE (excOf Z) y n from by
    obtain ⟨h1, h2, ⟨k, hk, h3⟩, _⟩ := nextS_is n (anyE_ends (fits_any h))
    refine ⟨h1, h2, ?_, next_less (fits_any h)⟩
    have := excB_parts (allE_yes hall k hk)
    rw [h3]; unfold endS; omega))
  obtain ⟨o, cap, rfl⟩ := hv.shape
  obtain ⟨S, hS⟩ : ∃ S, w.heap.size = S := ⟨_, rfl⟩
  have hSw : w.heap.size ≤ S := by omega
  replace hY1e := Lib.hid hY1e
  replace hpy := Lib.hid hpy
  clear hall hm hst hb
  have hk : Kept w w := Kept.refl w
  go_enter Try.func19, Try.ntmps19
  go_upto_region 1 with fail
  refine code_boxes2 ?_
  intro X hX s r
  have hsz := hk.size
  replace hk := hk.trans hX
  clear hX
  replace s_l := s.lt
  replace s_0 := s.at 0 _ rfl
  replace s_1 := s.at 1 _ rfl

  clear hsz
  replace hS := Lib.hid hS
  go_cut [2] from 18 to 22 (fun y1 wx => y1 = .int .i64 Y1 ∧ Kept w wx ∧ Own wx S 39 #[.int .i64 si, .int .i64 sb] ∧ Own wx (S + 1) 43 #[.int .i64 0, .int .i64 0, .int .i64 0, .int .i64 0, .int .i64 0])
  case first =>
    rcases (by omega : y < b ∨ (y ≤ b ∧ b ≤ y) ∨ b < y) with h1 | h1 | h1
    all_goals
      go_wp2_with fail
      refine (HBel.out _ (hv.kept hk)).mono ?_
      rintro e w1 ⟨rfl, hn⟩
      replace hk := hk.trans hn
      replace s := s.kept hn
      replace r := r.kept hn
      clear hn
      replace s_l := s.lt
      replace s_0 := s.at 0 _ rfl
      replace s_1 := s.at 1 _ rfl
      go_wp2_with fail
      go_meet
      exact ⟨by have := hY1e.out; congr 1; omega, hk, hS.out ▸ s, hS.out ▸ r⟩
  case rest =>
    clear hk s r s_0 s_1 s_l
    obtain ⟨rfl, hk, s, r⟩ := hcut
    clear HBel
    go_wp2
    go_loopw [2, 14, 25] (fun p _ i wx => ∃ k : Nat, k ≤ n ∧ i = .int .i64 k ∧ p = .int .i64 (topS (excOf Z) Y1 k) ∧ Kept w wx ∧ Own wx S 39 #[.int .i64 si, .int .i64 sb] ∧ Own wx (S + 1) 43 #[.int .i64 0, .int .i64 0, .int .i64 0, .int .i64 0, .int .i64 0]) (fun _ _ i _ => n - (intOf i).toNat)
    case atStart => exact ⟨0, Nat.zero_le _, rfl, rfl, hk, s, r⟩
    case round =>
      clear hk s r
      obtain ⟨k, hkn, rfl, rfl, hk, s, r⟩ := hrel
      by_cases hlt : k < n
      · have hi1 : (k : Int) < (n : Int) := by omega
        obtain ⟨b, off, rfl, _, hw⟩ := (hv.kept hk).row (by omega)
        have c0 : wr.cell? ⟨b, off + k * 5, none⟩ = some (.int .i64 (excOf Z k).ai) := hw k 0 hlt (by decide)
        have c1 : wr.cell? ⟨b, off + k * 5 + 1, none⟩ = some (.int .i64 (excOf Z k).ab) := hw k 1 hlt (by decide)
        have c2 : wr.cell? ⟨b, off + k * 5 + 2, none⟩ = some (.int .i64 (excOf Z k).si) := hw k 2 hlt (by decide)
        have c3 : wr.cell? ⟨b, off + k * 5 + 3, none⟩ = some (.int .i64 (excOf Z k).sb) := hw k 3 hlt (by decide)
        have c4 : wr.cell? ⟨b, off + k * 5 + 4, none⟩ = some (.int .i64 (excOf Z k).side) := hw k 4 hlt (by decide)
        have b1 := HT.out k hkn
        have b2 := HA.out k hlt
        have hstep : topS (excOf Z) Y1 (k + 1) = max (topS (excOf Z) Y1 k) (excOf Z k).ab := rfl
        have HSt := Lib.hid hstep
        clear hstep hw
        generalize topS (excOf Z) Y1 k = p at *
        generalize excOf Z k = x at *
        rcases (by omega : p < x.ab ∨ (p ≤ x.ab ∧ x.ab ≤ p) ∨ x.ab < p) with h1 | h1 | h1
        all_goals
          have hsl := s.lt
          have hrl := r.lt
          go_wp2
          go_roundw
          case rel => exact ⟨k + 1, by omega, by go_num, by rw [HSt.out]; congr 1; omega, (by first | ((repeat (first | with_reducible exact hk | with_reducible refine Kept.alloc ?_ _ | with_reducible refine Kept.drew ?_ | with_reducible refine Kept.drewN ?_ _ | with_reducible refine Kept.set ?_ (by first | (simp; done) | (simp; omega) | omega) _)); done) | exact hk | exact (hk.alloc _) | exact ((hk.alloc _).alloc _) | exact (((hk.alloc _).alloc _).alloc _) | exact ((((hk.alloc _).alloc _).alloc _).alloc _) | exact (((((hk.alloc _).alloc _).alloc _).alloc _).alloc _) | exact ((((((hk.alloc _).alloc _).alloc _).alloc _).alloc _).alloc _) | (repeat (first | exact hk | refine Kept.alloc ?_ _ | refine Kept.drew ?_ | refine Kept.drewN ?_ _ | refine Kept.set ?_ (by first | (simp; done) | (simp; omega) | omega) _))), s.alloc _, r.alloc _⟩
          case measure => simp [intOf]; omega
      · obtain rfl : k = n := by omega
        have hb0 := HT.out k (Nat.le_refl _)
        generalize topS (excOf Z) Y1 k = t0 at *
        clear HT HA hlt
        go_wp2
        go_loopw [2] (fun p wx => ∃ t : Int, p = .int .i64 t ∧ (0 ≤ t ∧ t ≤ 8388608) ∧ Hid (settleS (excOf Z) room k si sb t = settleS (excOf Z) room k si sb t0) ∧ Kept w wx ∧ Own wx S 39 #[.int .i64 si, .int .i64 sb] ∧ Own wx (S + 1) 43 #[.int .i64 0, .int .i64 0, .int .i64 0, .int .i64 0, .int .i64 0]) (fun p _ => cntE (excOf Z) (intOf p) k)
        case atStart => exact ⟨t0, rfl, hb0, Lib.hid rfl, hk, s, r⟩
        case round =>
          clear hk s r
          obtain ⟨t, rfl, htb, hse, hk, s, r⟩ := hrel
          have s_0 := s.at 0 _ rfl
          have s_1 := s.at 1 _ rfl
          have s_l := s.lt
          cases hf : fitsB (excOf Z) room k si sb t with
          | false =>
            obtain ⟨n1, n2, n3, n4⟩ := HNB.out t hf
            have hse2 : settleS (excOf Z) room k si sb (nextS (excOf Z) t k).1 = settleS (excOf Z) room k si sb t0 := by rw [← settle_not hf]; exact hse.out
            replace hse2 := Lib.hid hse2
            go_wp2_with fail
            refine (HF.out _ (hv.kept hk) t (by omega)).mono ?_
            rintro e w1 ⟨rfl, hn⟩
            replace hk := hk.trans hn
            replace s := s.kept hn
            replace r := r.kept hn
            clear hn
            replace s_l := s.lt
            replace s_0 := s.at 0 _ rfl
            replace s_1 := s.at 1 _ rfl
            go_wp2_with fail
            refine (HN.out _ (hv.kept hk) t).mono ?_
            rintro e w1 ⟨rfl, hn⟩
            replace hk := hk.trans hn
            replace s := s.kept hn
            replace r := r.kept hn
            clear hn
            replace s_l := s.lt
            replace s_0 := s.at 0 _ rfl
            replace s_1 := s.at 1 _ rfl
            generalize (nextS (excOf Z) t k).1 = t2 at *
            go_wp2
            go_roundw
            case rel => exact ⟨t2, rfl, by omega, hse2, hk, s, r⟩
            case measure => simp [intOf]; exact n4
          | true =>
            have hfin : t = placeY (excOf Z) room k y clear si sb := by rw [hpy.out, ← hse.out, settle_fits hf]
            have hbb2 := HBB.out t
            have hpe : ∀ a, a = placeI (excOf Z) room k y side clear si sb → Ending.returned (.agg #[.int .i64 a, .int .i64 t, .int .i64 si, .int .i64 sb, .int .i64 side]) = .returned (placeE (excOf Z) room k y side clear si sb).V := fun a ha => by
              unfold placeE
              rw [ha, hfin]
            have hpi : placeI (excOf Z) room k y side clear si sb = if side = 2 then max (bandS (excOf Z) room t sb k).1 (bandS (excOf Z) room t sb k).2 - si else (bandS (excOf Z) room t sb k).1 := by unfold placeI; rw [← hfin]
            obtain ⟨f, hfe⟩ : ∃ f, (bandS (excOf Z) room t sb k).1 = f := ⟨_, rfl⟩
            obtain ⟨g, hge⟩ : ∃ g, max (bandS (excOf Z) room t sb k).1 (bandS (excOf Z) room t sb k).2 = g := ⟨_, rfl⟩
            have hfg : 0 ≤ f ∧ f ≤ 1077936128 ∧ 0 ≤ g ∧ g ≤ 1077936128 := by omega
            have HB2 := HB.out
            have HBt := Lib.hid (fun wx hx => (show Calls Try.prog 29 #[.slice o k cap, .int .i64 room, .int .i64 t, .int .i64 sb] wx (fun e w' => e = .returned (.tuple #[.int .i64 f, .int .i64 g]) ∧ Kept wx w') from by have := HB2 wx hx t (by omega); rw [hge, hfe] at this; exact this))
            rw [hge, hfe] at hpi
            replace hpi := Lib.hid hpi
            replace hpe := Lib.hid hpe
            clear HB2 hfe hge hbb2 hfin hse HNB HN HB HBB hpy hY1e
            rcases (by omega : side = 2 ∨ side ≠ 2) with rfl | hs2
            · skip
              go_wp2_with fail
              refine (HF.out _ (hv.kept hk) t (by omega)).mono ?_
              rintro e w1 ⟨rfl, hn⟩
              replace hk := hk.trans hn
              replace s := s.kept hn
              replace r := r.kept hn
              clear hn
              replace s_l := s.lt
              replace s_0 := s.at 0 _ rfl
              replace s_1 := s.at 1 _ rfl
              go_wp2_with fail
              refine (HBt.out _ (hv.kept hk)).mono ?_
              rintro e w1 ⟨rfl, hn⟩
              replace hk := hk.trans hn
              replace s := s.kept hn
              replace r := r.kept hn
              clear hn
              replace s_l := s.lt
              replace s_0 := s.at 0 _ rfl
              replace s_1 := s.at 1 _ rfl
              go_wp2_with (refine here_store 43 _ _ rfl ?_; refine wpList_store_own rfl 43 _ _ rfl _ _ rfl rfl (r.alloc _) (by rfl) (by kernel_rfl) (by rfl) ?_; intro X2 oX hoX hkX; replace hk := hkX _ (hk.alloc _) (by omega); clear hoX hkX)
              exact bodyPost_ret (results_own 43 _ Try.results19 rfl oX Try.underlying43 rfl (by kernel_rfl)) rfl ⟨hpe.out _ (by rw [hpi.out]; simp), hk⟩
            · have hs2' : (side == 2) = false := by simpa using hs2
              go_wp2_with fail
              refine (HF.out _ (hv.kept hk) t (by omega)).mono ?_
              rintro e w1 ⟨rfl, hn⟩
              replace hk := hk.trans hn
              replace s := s.kept hn
              replace r := r.kept hn
              clear hn
              replace s_l := s.lt
              replace s_0 := s.at 0 _ rfl
              replace s_1 := s.at 1 _ rfl
              go_wp2_with fail
              refine (HBt.out _ (hv.kept hk)).mono ?_
              rintro e w1 ⟨rfl, hn⟩
              replace hk := hk.trans hn
              replace s := s.kept hn
              replace r := r.kept hn
              clear hn
              replace s_l := s.lt
              replace s_0 := s.at 0 _ rfl
              replace s_1 := s.at 1 _ rfl
              go_wp2_with (refine here_store 43 _ _ rfl ?_; refine wpList_store_own rfl 43 _ _ rfl _ _ rfl rfl (r.alloc _) (by rfl) (by kernel_rfl) (by rfl) ?_; intro X2 oX hoX hkX; replace hk := hkX _ (hk.alloc _) (by omega); clear hoX hkX)
              exact bodyPost_ret (results_own 43 _ Try.results19 rfl oX Try.underlying43 rfl (by kernel_rfl)) rfl ⟨hpe.out _ (by rw [hpi.out, if_neg hs2]), hk⟩
end Go.Proofs.Ytkonpnaedniceaa
