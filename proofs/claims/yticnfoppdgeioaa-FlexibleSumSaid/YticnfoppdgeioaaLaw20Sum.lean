/- Layer 20: each size is between its least and its greatest one; where none stands there, and not all are fixed, sizes and extras are the room. -/
import Derived.Test.YticnfoppdgeioaaLaw20Fixed
import Derived.Test.YticnfoppdgeioaaSumS
import Derived.Deep.CutRange
import Derived.BigRegion
namespace Go.Proofs.Yticnfoppdgeioaa
open Go.RowKit Go.Deep
set_option linter.unusedSimpArgs false
set_option linter.unusedVariables false
/-- does one of the first stand at its least, at its greatest, at nothing? -/
def clB (I : Nat → Item) (S : Nat → Int) : Nat → Bool
  | 0 => false
  | k + 1 => clB I S k || S k == (I k).min || S k == (I k).max || S k == 0
/-- has none of the first a factor? -/
def fxB (g : Bool) (I : Nat → Item) : Nat → Bool
  | 0 => true
  | k + 1 => fxB g I k && facS g (I k) == 0
theorem clB_no {I : Nat → Item} {S : Nat → Int} : ∀ {n : Nat}, clB I S n = false → ∀ i, i < n → S i ≠ (I i).min ∧ S i ≠ (I i).max ∧ S i ≠ 0 := by
  intro n
  induction n with
  | zero => intro _ i hi; omega
  | succ n ih =>
    intro h i hi
    unfold clB at h
    simp only [Bool.or_eq_false_iff, beq_eq_false_iff_ne] at h
    rcases Nat.lt_or_ge i n with h1 | h1
    · exact ih h.1.1.1 i h1
    · obtain rfl : i = n := by omega
      exact ⟨h.1.1.2, h.1.2, h.2⟩
theorem fxB_no {g : Bool} {I : Nat → Item} : ∀ {n : Nat}, fxB g I n = false → ∃ i, i < n ∧ facS g (I i) ≠ 0 := by
  intro n
  induction n with
  | zero => intro h; cases h
  | succ n ih =>
    intro h
    unfold fxB at h
    cases h1 : fxB g I n with
    | false => obtain ⟨i, hi, h2⟩ := ih h1; exact ⟨i, by omega, h2⟩
    | true =>
      rw [h1, Bool.true_and] at h
      exact ⟨n, by omega, by simpa using h⟩
set_option maxRecDepth 20000 in
set_option maxHeartbeats 4000000 in
theorem flexSum_main (sl : Option Addr) (n cap : Nat) (Z : Nat → Nat → Int) (room : Int) (w : World) (hv : RV 6 w (.slice sl n cap) n (intC Z)) (hnn : n ≤ 2932031007317) :
    Calls Try.prog 4 #[.slice sl n cap, .int .i64 room] w fun e w' => e = .returned (.bool true) ∧ Kept w w' := by
  obtain ⟨q, hq, q0, q1⟩ := masked room 14 16383 (by decide) (by decide)
  cases hg : goodF n (itemOf Z) q with
  | false =>
    have HG := Lib.hid hg
    clear hg
    have hk : Kept w w := Kept.refl w
    go_enter Try.func4, Try.ntmps4
    go_wp2_with fail
    refine (awake20_any _).mono ?_
    rintro e w1 ⟨rfl, hn⟩
    replace hk := hk.trans hn
    clear hn
    go_wp2_with fail
    refine (flexible_no _ n _ _ _ (itv_row (hv.kept hk)) (by omega) HG.out).mono ?_
    rintro e w1 ⟨rfl, hn⟩
    replace hk := hk.trans hn
    clear hn
    go_wp2_with fail
    refine (num_any _ _).mono ?_
    rintro e w1 ⟨rfl, rfl⟩
    go_wp2
    go_ret
    exact ⟨rfl, hk⟩
  | true =>
    have hg' := hg
    unfold goodF at hg'
    simp only [Bool.and_eq_true] at hg'
    obtain ⟨hn32, hall⟩ := mayI_true.1 hg'.1
    have hI : ∀ i, i < n → itemB (itemOf Z i) = true := fun i hi => allI_yes hall i hi
    have HG := Lib.hid hg
    have HI := Lib.hid hI
    have HMID := Lib.hid (res_mid (room := q) hI)
    have HSB := Lib.hid (outer_bd hI hn32)
    have HEND := Lib.hid (sum_main (room := q) hI)
    have HGS := Lib.hid (show growS (itemOf Z) q n = decide (sumW (fun i => wishS (itemOf Z i) + (itemOf Z i).extra) n < q) from rfl)
    clear hg hg' hall hI
    obtain ⟨S, hS⟩ : ∃ S, resS (itemOf Z) q n = S := ⟨_, rfl⟩
    have HS := Lib.hid hS
    rw [hS] at HMID HEND
    clear hS
    generalize hg : growS (itemOf Z) q n = g at *
    clear hg
    have hk : Kept w w := Kept.refl w
    go_enter Try.func4, Try.ntmps4
    go_wp2_with fail
    refine (awake20_any _).mono ?_
    rintro e w1 ⟨rfl, hn⟩
    replace hk := hk.trans hn
    clear hn
    go_wp2_with fail
    refine (flexible_is _ n _ _ _ (itv_row (hv.kept hk)) (by omega) HG.out S (fun i hi => by rw [HS.out])).mono ?_
    rintro e w1 ⟨_, rfl, ⟨b9, c9, rfl, _, o9, z9, h9⟩, hn⟩
    replace hk := hk.trans hn
    clear hn
    obtain ⟨W1, hW1⟩ : ∃ z, z = w1 := ⟨_, rfl⟩
    rw [← hW1] at hk o9 ⊢
    clear hW1
    have HKW := Lib.hid hk
    have HRV := Lib.hid (hv.kept hk)
    have C9 := Lib.hid (fun p (hp : p < n) => (o9.cell p).trans (h9 p hp))
    clear hk o9 z9 h9 HG
    go_wp2_with fail
    refine (num_any _ _).mono ?_
    rintro e w1 ⟨rfl, rfl⟩
    go_wp2
    go_loopw [9, 11] (fun s i wx => ∃ k : Nat, k ≤ n ∧ i = .int .i64 k ∧ s = .int .i64 (sumW (fun i => wishS (itemOf Z i) + (itemOf Z i).extra) k) ∧ Kept W1 wx) (fun _ i _ => n - (intOf i).toNat)
    case atStart => exact ⟨0, Nat.zero_le _, rfl, rfl, Kept.refl _⟩
    case round =>
      obtain ⟨k, hkn, rfl, rfl, kX⟩ := hrel
      by_cases hlt : k < n
      · have hi1 : (k : Int) < (n : Int) := by omega
        have hi0 : (0 : Int) ≤ (k : Int) := Int.natCast_nonneg _
        obtain ⟨b, off, rfl, hle, hrow⟩ := (HRV.out.kept kX).row (by omega)
        have hit := itemsAt_row hrow
        have c0 := hit.base k hlt
        have c1 := hit.min k hlt
        have c2 := hit.max k hlt
        have c5 := hit.extra k hlt
        have hx := itemB_parts (HI.out k hlt)
        have hwb := wishS_bd (HI.out k hlt)
        have hsm := HSB.out k hkn
        have e1 := Lib.hid (show sumW (fun i => wishS (itemOf Z i) + (itemOf Z i).extra) (k + 1) = sumW (fun i => wishS (itemOf Z i) + (itemOf Z i).extra) k + (wishS (itemOf Z k) + (itemOf Z k).extra) from rfl)
        have hcl : wishS (itemOf Z k) = clampS (itemOf Z k).base (itemOf Z k).min (itemOf Z k).max := rfl
        rw [hcl] at hwb e1
        clear hrow hit hcl
        generalize sumW (fun i => wishS (itemOf Z i) + (itemOf Z i).extra) k = t at *
        generalize itemOf Z k = y at *
        obtain ⟨u, hu⟩ : ∃ u, clampS y.base y.min y.max = u := ⟨_, rfl⟩
        rw [hu] at hwb e1
        replace hu := Lib.hid hu
        go_upto_region 13 with fail
        go_quiet (first
          | (go_at_call 18; exact Calls.quiet_of_same ((refClamp_any _ _ _ _).mono fun _ _ h => ⟨h.1.trans (by rw [hu.out]), h.2.symm⟩)))
        go_wp2
        exact ⟨⟨k + 1, by omega, by first | rfl | go_num, by rw [e1.out]; congr 1; omega, kX.drewN _⟩, by first | (simp [intOf]; done) | (simp [intOf]; omega)⟩
      · obtain rfl : k = n := by omega
        have hsm := HSB.out k hkn
        generalize sumW (fun i => wishS (itemOf Z i) + (itemOf Z i).extra) k = T at *
        have KX := Lib.hid kX
        clear kX
        go_wp2
        go_loopw [8, 10, 12, 13, 14, 15] (fun s f c i _ _ wx => ∃ p : Nat, p ≤ k ∧ i = .int .i64 p ∧ s = .int .i64 (sumW (fun i => S i + (itemOf Z i).extra) p) ∧ f = .bool (fxB g (itemOf Z) p) ∧ c = .bool (clB (itemOf Z) S p) ∧ Kept W1 wx) (fun _ _ _ i _ _ _ => k - (intOf i).toNat)
        case atStart => exact ⟨0, Nat.zero_le _, rfl, rfl, rfl, rfl, KX.out⟩
        case round =>
          obtain ⟨p, hpk, rfl, rfl, rfl, rfl, kX⟩ := hrel
          by_cases hlt2 : p < k
          · have hi1 : (p : Int) < (k : Int) := by omega
            have hi0 : (0 : Int) ≤ (p : Int) := Int.natCast_nonneg _
            obtain ⟨b, off, rfl, hle, hrow⟩ := (HRV.out.kept kX).row (by omega)
            have hit := itemsAt_row hrow
            have c0 := hit.base p hlt2
            have c1 := hit.min p hlt2
            have c2 := hit.max p hlt2
            have c3 := hit.grow p hlt2
            have c4 := hit.shrink p hlt2
            have c5 := hit.extra p hlt2
            have hx := itemB_parts (HI.out p hlt2)
            have s0 : wr.cell? ⟨b9, p, none⟩ = some (.int .i64 (S p)) := (kX.cell (World.block_lt_of_cell? W1 _ (C9.out p hlt2))).trans (C9.out p hlt2)
            obtain ⟨m0, m1, m2⟩ := HMID.out p hlt2
            have hsb := sumW_bd (n := p) (W := fun i => S i + (itemOf Z i).extra) (a := -4194304) (b := 1082130432) fun i hi => by
              have h1 := HMID.out i (by omega)
              have h2 := itemB_parts (HI.out i (by omega))
              omega
            have e1 := Lib.hid (show sumW (fun i => S i + (itemOf Z i).extra) (p + 1) = sumW (fun i => S i + (itemOf Z i).extra) p + (S p + (itemOf Z p).extra) from rfl)
            have e2 := Lib.hid (show fxB g (itemOf Z) (p + 1) = (fxB g (itemOf Z) p && facS g (itemOf Z p) == 0) from rfl)
            have e3 := Lib.hid (show clB (itemOf Z) S (p + 1) = (clB (itemOf Z) S p || S p == (itemOf Z p).min || S p == (itemOf Z p).max || S p == 0) from rfl)
            clear hrow hit
            generalize sumW (fun i => S i + (itemOf Z i).extra) p = t at *
            generalize fxB g (itemOf Z) p = fb at *
            generalize clB (itemOf Z) S p = cb at *
            have HFC := Lib.hid (show facS g (itemOf Z p) = if g = true then (itemOf Z p).grow else (itemOf Z p).shrink * (itemOf Z p).base from rfl)
            obtain ⟨fc, hfc⟩ : ∃ fc, facS g (itemOf Z p) = fc := ⟨_, rfl⟩
            rw [hfc] at HFC e2
            clear hfc
            generalize itemOf Z p = y at *
            generalize S p = z at *
            have hzb : 0 ≤ z ∧ z ≤ 1073741824 := by omega
            replace e1 := Lib.hid e1.out
            go_upto_region 19 with fail
            obtain ⟨X, eX, kB, bX⟩ := boxes1 wr #[.int .i64 y.base, .int .i64 y.min, .int .i64 y.max, .int .i64 y.grow, .int .i64 y.shrink, .int .i64 y.extra] 38
            rw [← eX]
            clear eX
            have i0 := bX.at 0 _ rfl
            have i1 := bX.at 1 _ rfl
            have i2 := bX.at 2 _ rfl
            have i3 := bX.at 3 _ rfl
            have i4 := bX.at 4 _ rfl
            have i5 := bX.at 5 _ rfl
            replace s0 := cell_kept kB s0
            have kY := Lib.hid (kX.trans kB)
            clear bX c0 c1 c2 c3 c4 c5 kX kB
            generalize wr.heap.size = bz at *
            go_cut [102] from 77 to 102 (fun v wx => v = .bool false ∧ Kept X wx)
            case first =>
              clear HFC e1 e2 e3 i0 i3 i4 i5 hsb kY
              generalize y.min = lo at *
              generalize y.max = hi at *
              have n0 : ¬ z < 0 := by omega
              have n1 : ¬ z < lo := by omega
              rcases Int.lt_trichotomy lo hi with h1 | h1 | h1
              · have n2 : ¬ hi < z := by omega
                go_region
                go_wp2_with fail
                go_meet
                exact ⟨rfl, (Kept.refl _).drew⟩
              · have n2 : ¬ hi < z := by omega
                subst h1
                go_region
                go_wp2_with fail
                go_meet
                exact ⟨rfl, (Kept.refl _).drew⟩
              · have n2 : ¬ lo < z := by omega
                go_region
                go_wp2_with fail
                go_meet
                exact ⟨rfl, (Kept.refl _).drew⟩
            case rest =>
              obtain ⟨rfl, kC⟩ := hcut
              replace s0 := cell_kept kC s0
              replace i0 := cell_kept kC i0
              replace i1 := cell_kept kC i1
              replace i2 := cell_kept kC i2
              replace i3 := cell_kept kC i3
              replace i4 := cell_kept kC i4
              replace i5 := cell_kept kC i5
              replace kY := Lib.hid (kY.out.trans kC)
              clear kC m1 m2
              go_upto_region 21 with fail
              go_cut [12] from 103 to 128 (fun v wx => v = .bool (cb || z == y.min || z == y.max || z == 0) ∧ Kept wc wx)
              case first =>
                clear HFC e1 e2 e3 i0 i3 i4 i5 hsb kY
                generalize y.min = lo at *
                generalize y.max = hi at *
                cases cb with
                | true =>
                  go_region
                  go_wp2_with fail
                  go_meet
                  exact ⟨rfl, (Kept.refl _).drew⟩
                | false =>
                  by_cases h1 : z = lo
                  · subst h1
                    go_region
                    go_wp2_with fail
                    go_meet
                    exact ⟨by simp, (Kept.refl _).drew⟩
                  · have t1 : (z == lo) = false := by simp; omega
                    by_cases h2 : z = hi
                    · subst h2
                      go_region
                      go_wp2_with fail
                      go_meet
                      exact ⟨by simp, (Kept.refl _).drew⟩
                    · have t2 : (z == hi) = false := by simp; omega
                      by_cases h3 : z = 0
                      · subst h3
                        go_region
                        go_wp2_with fail
                        go_meet
                        exact ⟨by simp, (Kept.refl _).drew⟩
                      · have t3 : (z == 0) = false := by simp; omega
                        go_region
                        go_wp2_with fail
                        go_meet
                        exact ⟨by rw [t1, t2, t3]; rfl, (Kept.refl _).drew⟩
              case rest =>
                obtain ⟨rfl, kC⟩ := hcut
                replace s0 := cell_kept kC s0
                replace i0 := cell_kept kC i0
                replace i3 := cell_kept kC i3
                replace i4 := cell_kept kC i4
                replace i5 := cell_kept kC i5
                replace kY := Lib.hid (kY.out.trans kC)
                have hmb : 0 ≤ y.shrink * y.base ∧ y.shrink * y.base ≤ 419430400 := ⟨Int.mul_nonneg hx.2.2.2.2.1.1 hx.1.1, Int.mul_le_mul hx.2.2.2.2.1.2 hx.1.2 hx.1.1 (by decide)⟩
                clear kC i1 i2
                obtain ⟨mu, hmu⟩ : ∃ mu, y.shrink * y.base = mu := ⟨_, rfl⟩
                rw [hmu] at hmb HFC
                rename_i X2
                go_upto_if 136 with fail
                go_cut [15] from 137 to 138 (fun v wx => v = .int .i64 fc ∧ wc = wx)
                case first =>
                  clear e1 e2 e3 hsb
                  by_cases hgr : T < q
                  · have hg := HGS.out.trans (decide_eq_true hgr)
                    have hf := HFC.out
                    rw [hg, if_pos rfl] at hf
                    have HF := Lib.hid hf
                    clear hf hg HGS HFC
                    go_wp2_with fail
                    go_meet
                    exact ⟨by rw [HF.out], rfl⟩
                  · have hg := HGS.out.trans (decide_eq_false hgr)
                    have hf := HFC.out
                    rw [hg, if_neg (by decide)] at hf
                    have HF := Lib.hid hf
                    clear hf hg HGS HFC
                    go_wp2_with fail
                    go_meet
                    exact ⟨by rw [HF.out], rfl⟩
                case rest =>
                  obtain ⟨rfl, hwc⟩ := hcut
                  subst hwc
                  clear HFC hmb
                  go_upto_region 25 with fail
                  go_cut [10] from 139 to 143 (fun v wx => v = .bool (fb && fc == 0) ∧ wc = wx)
                  case first =>
                    clear e1 e2 e3 hsb
                    cases fb with
                    | true =>
                      go_wp2_with fail
                      go_meet
                      exact ⟨rfl, rfl⟩
                    | false =>
                      go_wp2_with fail
                      go_meet
                      exact ⟨rfl, rfl⟩
                  case rest =>
                    obtain ⟨rfl, hwc⟩ := hcut
                    subst hwc
                    have htb : -134217728 ≤ t ∧ t ≤ 34628173824 := by omega
                    clear hmu
                    go_upto_region 26 with fail
                    go_quiet (fail)
                    go_wp2
                    exact ⟨⟨p + 1, by omega, by first | rfl | go_num, by rw [e1.out]; congr 1; omega, by rw [e2.out], by rw [e3.out], kY.out.drewN _⟩, by first | (simp [intOf]; done) | (simp [intOf]; omega)⟩
          · obtain rfl : p = k := by omega
            have hsb := sumW_bd (n := p) (W := fun i => S i + (itemOf Z i).extra) (a := -4194304) (b := 1082130432) fun i hi => by
              have h1 := HMID.out i (by omega)
              have h2 := itemB_parts (HI.out i (by omega))
              omega
            have HE := Lib.hid HEND.out
            clear HEND
            generalize hsm2 : sumW (fun i => S i + (itemOf Z i).extra) p = t at *
            have HT := Lib.hid hsm2
            clear hsm2
            cases hcb : clB (itemOf Z) S p with
            | true =>
              clear hcb
              go_wp2
              go_ret
              exact ⟨rfl, HKW.out.trans kX⟩
            | false =>
              cases hfb : fxB g (itemOf Z) p with
              | true =>
                clear hcb hfb
                go_wp2
                go_ret
                exact ⟨rfl, HKW.out.trans kX⟩
              | false =>
                have hend : t = q := by
                  have := HE.out (clB_no hcb) (fxB_no hfb)
                  first | exact this | (rw [← HT.out]; exact this)
                clear hcb hfb HE HT
                subst hend
                go_wp2
                go_ret
                exact ⟨rfl, HKW.out.trans kX⟩
theorem flexSum_walk (v : Value) (n : Nat) (Z : Nat → Nat → Int) (room : Int) (w : World) (hv : RV 6 w v n (intC Z)) (hnn : n ≤ 2932031007317) (_hb : ∀ i j, inInt (Z i j)) :
    Calls Try.prog 4 #[v, .int .i64 room] w fun e w' => e = .returned (.bool true) ∧ Kept w w' := by
  obtain ⟨sl, cap, rfl⟩ := hv.shape
  exact flexSum_main sl n cap Z room w hv hnn
end Go.Proofs.Yticnfoppdgeioaa
