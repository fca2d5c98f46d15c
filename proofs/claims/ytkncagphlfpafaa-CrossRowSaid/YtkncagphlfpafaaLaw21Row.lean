/- Layer 21: items stand one behind the other. -/
import Derived.Test.YtkncagphlfpafaaLaw21Ends
import Derived.Deep.CutRange
namespace Go.Proofs.Ytkncagphlfpafaa
open Go.RowKit
set_option linter.unusedSimpArgs false
set_option linter.unusedVariables false
theorem low12_bounds (z : Int) : 0 ≤ lowB 4095 z ∧ lowB 4095 z ≤ 4095 := by
  obtain ⟨x, hx, h1, h2⟩ := masked z 12 4095 (by decide) (by decide)
  unfold lowB; rw [hx]; omega
/-- where the one before ends -/
def endS (J L : Int) (m : Nat) (Y : Nat → Int) : Nat → Int
  | 0 => 0
  | i + 1 => sumS Y i + aheadS J L i m + Y i
theorem ahead_tdiv {L : Int} {m : Nat} (h : 1 < m) : aheadS 3 L (m - 1) m = L := by
  unfold aheadS
  simp [h]
  rw [show ((m - 1 : Nat) : Int) = (m : Int) - 1 by omega]
  exact Int.mul_tdiv_cancel _ (by omega)
theorem ahead_up {J L : Int} {m : Nat} (hJ : J = 0 ∨ J = 1 ∨ J = 2 ∨ J = 3) (hL : 0 ≤ L) (i : Nat) (hi : i < m) : 0 ≤ aheadS J L i m ∧ aheadS J L i m ≤ L ∧ (∀ k, k ≤ i → aheadS J L k m ≤ aheadS J L i m) := by
  rcases hJ with rfl | rfl | rfl | rfl
  · refine ⟨?_, ?_, fun k hk => ?_⟩ <;> simp [aheadS] <;> omega
  · refine ⟨?_, ?_, fun k hk => ?_⟩ <;> simp [aheadS] <;> omega
  · refine ⟨?_, ?_, fun k hk => ?_⟩ <;> simp [aheadS] <;> omega
  · by_cases h : 1 < m
    · have hp : (0 : Int) < (m : Int) - 1 := by omega
      have e : ∀ k, aheadS 3 L k m = (L * (k : Int)) / ((m : Int) - 1) := fun k => by
        unfold aheadS
        simp [h]
        exact Int.tdiv_eq_ediv_of_nonneg (Int.mul_nonneg hL (by omega))
      refine ⟨?_, ?_, fun k hk => ?_⟩
      · rw [e]; exact Int.ediv_nonneg (Int.mul_nonneg hL (by omega)) (by omega)
      · rw [e]
        refine Int.le_trans (Int.ediv_le_ediv hp (Int.mul_le_mul_of_nonneg_left (show (i : Int) ≤ (m : Int) - 1 by omega) hL)) ?_
        rw [Int.mul_ediv_cancel _ (by omega)]
        exact Int.le_refl _
      · rw [e, e]
        exact Int.ediv_le_ediv hp (Int.mul_le_mul_of_nonneg_left (by omega) hL)
    · refine ⟨?_, ?_, fun k hk => ?_⟩ <;> simp [aheadS, h] <;> omega
theorem end_le {J L : Int} {m : Nat} {Y : Nat → Int} (hJ : J = 0 ∨ J = 1 ∨ J = 2 ∨ J = 3) (hL : 0 ≤ L) (i : Nat) (hi : i < m) : endS J L m Y i ≤ sumS Y i + aheadS J L i m := by
  cases i with
  | zero => have := (ahead_up hJ hL 0 hi).1; simp [endS, sumS]; omega
  | succ i =>
    have := (ahead_up hJ hL (i + 1) hi).2.2 i (by omega)
    show sumS Y i + aheadS J L i m + Y i ≤ sumS Y i + Y i + aheadS J L (i + 1) m
    omega
theorem end_last {J L : Int} {j : Nat} {Y : Nat → Int} : endS J L (j + 1) Y (j + 1) = sumS Y (j + 1) + aheadS J L j (j + 1) := by
  show sumS Y j + aheadS J L j (j + 1) + Y j = sumS Y j + Y j + aheadS J L j (j + 1)
  omega
set_option maxRecDepth 20000 in
set_option maxHeartbeats 2000000 in
theorem crossRow_main (sl : Option Addr) (n cap : Nat) (Z Y : Nat → Int) (hYdef : Y = fun i => lowB 4095 (Z i)) (just room : Int) (w : World) (hv : IV w (.slice sl n cap) n Z) (hn : n ≤ 17592186043904) :
    Calls Try.prog 9 #[.int .i64 just, .int .i64 room, .slice sl n cap] w fun e w' => e = .returned (.bool true) ∧ Kept w w' := by
  obtain ⟨i0, hi, hz0, hz1, hz2⟩ := info_parts intInfo1
  obtain ⟨q, hq, q1, q2⟩ := masked room 16 65535 (by decide) (by decide)
  obtain ⟨J, hj, j1, j2⟩ := masked just 2 3 (by decide) (by decide)
  have hY : ∀ i, 0 ≤ Y i ∧ Y i ≤ 4095 := fun i => by rw [hYdef]; exact low12_bounds (Z i)
  have HYd := Lib.hid hYdef
  have HY := Lib.hid hY
  have HF := Lib.hid (fun k => sum_bounds hY (by decide) k)
  clear hY hYdef
  have hk : Kept w w := Kept.refl w
  go_enter Try.func9, Try.ntmps9
  go_wp2_with fail
  refine (awake21_any _).mono ?_
  rintro e w1 ⟨rfl, hn⟩
  replace hk := hk.trans hn
  clear hn
  go_wp2
  go_loopw [8, 9, 10] (fun v s i wx => ∃ k : Nat, k ≤ n ∧ k ≤ 20 ∧ i = .int .i64 k ∧ s = .int .i64 (sumS Y k) ∧ wx.ownsRow w.heap.size 3 1 v k (ones Y k) ∧ Kept w wx) (fun _ _ i _ => n - (intOf i).toNat)
  case atStart => exact ⟨0, Nat.zero_le _, by decide, rfl, rfl, World.ownsRow_nil _ _ _ _, hk⟩
  case round =>
    clear hk
    obtain ⟨k, hkn, hk9, rfl, rfl, hown, hk⟩ := hrel
    have hsz := hk.size
    have hsb := HF.out k
    by_cases hlt : k < n ∧ k < 20
    · obtain ⟨hl1, hl2⟩ := hlt
      rcases hv with ⟨h0, _⟩ | ⟨b, off, c2, hvv, _, hcc, hz⟩
      · omega
      injection hvv with e1 e2 e3
      subst e1 e3
      have c0 := (hz.kept hk) k hl1
      have hb := low12_bounds (Z k)
      have hyk : Y k = lowB 4095 (Z k) := by rw [HYd.out]
      have e1 : sumS Y (k + 1) = sumS Y k + Y k := rfl
      have e2 : ones Y (k + 1) = ones Y k ++ [.int .i64 (Y k)] := rfl
      obtain ⟨l, hl⟩ : ∃ l, lowB 4095 (Z k) = l := ⟨_, rfl⟩
      rw [hyk, hl] at e1 e2
      have hlow : bits .and .i64 (Z k) 4095 = l := hl
      rw [hl] at hb
      replace e1 := Lib.hid e1
      replace e2 := Lib.hid e2
      have HZ := Lib.hid hz
      have CX := Lib.hid (fun wx (hx : Kept w wx) => (HZ.out.kept hx) k hl1)
      have hl3 : (k : Int) < (n : Int) := by omega
      have hl4 : (k : Int) < 20 := by omega
      generalize sumS Y k = p at *
      generalize Z k = z at *
      clear hl hyk
      go_wp2_with (at_builtin; refine wpList_append_own _ rfl _ _ 22 rfl w.heap.size 3 i0 (.int .i64 0) 1 8 Try.underlying22 hi hz0 hz1 hz2 rfl (by decide) _ _ _ rfl (hown.alloc _) ⟨wr.heap.size, 0, none⟩ 1 1 [.int .i64 l] rfl rfl (lit_cells wr #[.int .i64 l] 3) (by simp [Value.oneCell']) (by unfold maxLen; omega) (by omega) (by simp; omega) ?_; intro v2 w2 hown2 hg2 _; have c2 := CX.out w2 ((hk.alloc _).grown hg2 (row_ge hown)))
      exact ⟨⟨k + 1, by omega, by omega, by go_num, by rw [e1.out], by rw [e2.out]; exact hown2, (hk.alloc _).grown hg2 (row_ge hown)⟩, by simp [intOf]; omega⟩
    · have hx : ¬ ((k : Int) < (n : Int)) ∨ (k : Int) < (n : Int) ∧ ¬ ((k : Int) < 20) := by omega
      have hne := newOnes_of hown
      have HFk := Lib.hid (HF.out k)
      cases k with
      | zero =>
        rcases hne with ⟨_, ox, cx, rfl, _⟩ | ⟨_, _, _, _, h0, _⟩
        rotate_left
        · omega
        have M0 := Lib.hid (show mainB J q 0 Y = true from mainB_true.2 ⟨⟨⟨inB_true.2 ⟨j1, j2⟩, inB_true.2 (by omega)⟩, by omega⟩, rfl⟩)
        rw [show sumS Y 0 = 0 from rfl] at hsb ⊢
        clear hown HFk HF HY HYd hv hsb
        rcases hx with hx | ⟨hx1, hx2⟩
        · go_wp2_with fail
          refine (crossMain_good J q _ 0 Y _ (.inl ⟨rfl, ox, cx, rfl⟩) M0.out).mono ?_
          rintro e w1 ⟨u, rfl, hu, hn⟩
          replace hk := hk.trans hn
          obtain ⟨o2, c2, rfl⟩ : ∃ o c, u = .slice o 0 c := by
            rcases hu with ⟨_, o, c9, h, _⟩ | ⟨_, _, _, _, h0, _⟩
            · exact ⟨o, c9, h⟩
            · omega
          clear hu hn
          go_wp2_with fail
          refine (num_any _ _).mono ?_
          rintro e w1 ⟨rfl, rfl⟩
          rcases (by omega : J = 0 ∨ J = 1 ∨ J = 2 ∨ J = 3) with rfl | rfl | rfl | rfl
          all_goals
            go_wp2_with fail
            refine wp_loop_rounds 1 ?_
            rw [rounds_succ]
            go_wp2
            go_ret
            exact ⟨rfl, hk⟩
        · omega
      | succ j =>
        obtain ⟨gx, cx, rfl, hcx, hxs⟩ := newOnes_row hne (Nat.succ_pos j)
        have hS := HF.out (j + 1)
        obtain ⟨S, hSe⟩ : ∃ S, sumS Y (j + 1) = S := ⟨_, rfl⟩
        rw [hSe] at hS ⊢
        have hA : allX Y (j + 1) = true := allX_of fun i _ => by have := HY.out i; omega
        have M0 := Lib.hid (show mainB J q (j + 1) Y = true from mainB_true.2 ⟨⟨⟨inB_true.2 ⟨j1, j2⟩, inB_true.2 (by omega)⟩, by omega⟩, hA⟩)
        obtain ⟨L, hLe⟩ : ∃ L, leftZ q Y (j + 1) = L := ⟨_, rfl⟩
        have hLm : L = max 0 (q - S) := by rw [← hLe]; unfold leftZ; rw [hSe]
        have hL0 : 0 ≤ L ∧ L ≤ 65535 ∧ (S ≤ q → L = q - S) := by omega
        have hJ : J = 0 ∨ J = 1 ∨ J = 2 ∨ J = 3 := by omega
        obtain ⟨E, hE⟩ : ∃ E, E = endS J L (j + 1) Y := ⟨_, rfl⟩
        obtain ⟨A, hAd⟩ : ∃ A : Nat → Int, A = fun i => aheadS J L i (j + 1) := ⟨_, rfl⟩
        have hAb : ∀ i, i ≤ j → 0 ≤ A i ∧ A i ≤ L := fun i hi => by rw [hAd]; exact ⟨(ahead_up hJ hL0.1 i (by omega)).1, (ahead_up hJ hL0.1 i (by omega)).2.1⟩
        have hE1 : ∀ i, i ≤ j → E i ≤ sumS Y i + A i := fun i hi => by rw [hE, hAd]; exact end_le hJ hL0.1 i (by omega)
        have hE2 : ∀ i, E (i + 1) = sumS Y i + A i + Y i := fun i => by rw [hE, hAd]; rfl
        have hE3 : E (j + 1) = S + A j := by rw [hE, hAd, end_last, hSe]
        have hE0 : E 0 = 0 := by rw [hE]; rfl
        have hP : ∀ i, placeS J q (j + 1) Y i = sumS Y i + A i := fun i => by rw [hAd]; unfold placeS; rw [hLe]
        have hA1 : J = 1 → A j = L := fun h => by rw [hAd, h]; simp [aheadS]
        have hA3 : J = 3 → 0 < j → A j = L := fun h h0 => by rw [hAd, h]; exact ahead_tdiv (m := j + 1) (by omega)
        have HE1 := Lib.hid (And.intro hAb hE1)
        have HE2 := Lib.hid (And.intro hE2 (And.intro hE3 (And.intro hE0 hP)))
        have HA3 := Lib.hid (And.intro hA1 hA3)
        have HL := Lib.hid hL0
        clear hL0 hA hLe hLm hE hAd hAb hE1 hE2 hE3 hE0 hP hA1 hA3 hSe HFk hne hown hv HYd
        rcases hx with hx | ⟨hx1, hx2⟩
        all_goals
          go_wp2_with fail
          refine (main_row _ _ _ (j + 1) Y _ (hxs.iv (Nat.succ_pos j) hcx) M0.out (Nat.succ_pos j)).mono ?_
          rintro e w1 ⟨ga, ca, rfl, ra, hn⟩
          replace hk := hk.trans hn
          replace hxs := hxs.kept hn
          clear hn
          go_wp2_with fail
          refine (num_any _ _).mono ?_
          rintro e w1 ⟨rfl, rfl⟩
          go_wp2_with fail
          obtain ⟨wq, rfl⟩ : ∃ wq : World, wq = w1 := ⟨_, rfl⟩
          go_loopw [13, 14] (fun e i wx => ∃ t : Nat, t ≤ j + 1 ∧ i = .int .i64 t ∧ e = .int .i64 (E t) ∧ Kept w wx ∧ Kept wq wx) (fun _ i _ => j + 1 - (intOf i).toNat)
          case atStart => exact ⟨0, Nat.zero_le _, rfl, by rw [HE2.out.2.2.1], hk, Kept.refl _⟩
          case round =>
            clear hk
            obtain ⟨t, htj, rfl, rfl, hk, hkq⟩ := hrel
            by_cases hlt : t < j + 1
            · have a0 := (ra.kept hkq) t hlt
              have x0 := (hxs.kept hkq) t hlt
              rw [HE2.out.2.2.2] at a0
              have hpb := HF.out t
              have hyb := HY.out t
              have hab := HE1.out.1 t (by omega)
              have heb := HE1.out.2 t (by omega)
              have e2 := HE2.out.1 t
              have hLb := HL.out
              obtain ⟨p, hp⟩ : ∃ p, sumS Y t = p := ⟨_, rfl⟩
              obtain ⟨a, ha⟩ : ∃ a, A t = a := ⟨_, rfl⟩
              obtain ⟨y, hy⟩ : ∃ y, Y t = y := ⟨_, rfl⟩
              obtain ⟨d, hd⟩ : ∃ d, E t = d := ⟨_, rfl⟩
              rw [hp, ha] at a0
              rw [hy] at x0 hyb
              rw [hp, ha, hy] at e2
              rw [hp, ha, hd] at heb
              rw [ha] at hab
              rw [hp] at hpb
              rw [hd]
              obtain ⟨s, hs⟩ : ∃ s, p + a = s := ⟨_, rfl⟩
              rw [hs] at a0 e2 heb
              replace e2 := Lib.hid e2
              have hsb2 : 0 ≤ s ∧ s ≤ 1000000 := by omega
              have wf : IntKind.i64.wrap (s + y) = s + y := IntWalk.i64_in _ (by omega)
              clear hp ha hy hd hs hab hpb hLb
              go_upto_region 20 with fail
              go_quiet (fail)
              go_wp2
              go_roundw
              case rel => exact ⟨t + 1, by omega, by go_num, by rw [e2.out], hk.drewN _, hkq.drewN _⟩
              case measure => simp [intOf]; omega
            · obtain rfl : t = j + 1 := by omega
              have e3 := HE2.out.2.1
              have hab := HE1.out.1 j (Nat.le_refl _)
              have h13 := HA3.out
              have hLb := HL.out
              obtain ⟨z, hz⟩ : ∃ z, A j = z := ⟨_, rfl⟩
              obtain ⟨d, hd⟩ : ∃ d, E (j + 1) = d := ⟨_, rfl⟩
              rw [hd] at e3 ⊢
              rw [hz] at e3 hab h13
              have hc : q < S ∨ S ≤ q ∧ d ≤ q ∧ (J = 1 → d = q) ∧ (J = 3 → 0 < j → d = q) := by
                rcases Int.lt_or_le q S with h | h
                · exact .inl h
                · have := hLb.2.2 h
                  exact .inr ⟨h, by omega, fun h1 => by have := h13.1 h1; omega, fun h1 h2 => by have := h13.2 h1 h2; omega⟩
              clear h13 hLb e3 hz hd hab
              have HC := Lib.hid hc
              clear hc
              rcases (by omega : j = 0 ∨ 0 < j) with hj0 | hj0 <;> rcases (by omega : J = 0 ∨ J = 1 ∨ J = 2 ∨ J = 3) with rfl | rfl | rfl | rfl <;> rcases HC.out with hc | ⟨hc1, hc2, hc3, hc4⟩
              all_goals
                first
                  | (have h9 : d = q := by first | exact hc3 rfl | exact hc4 rfl hj0
                     subst h9)
                  | skip
                clear HC
                go_wp2
                go_ret
                exact ⟨rfl, hk⟩
theorem crossRow_walk (just room : Int) (v : Value) (n : Nat) (Z : Nat → Int) (w : World) (hv : IV w v n Z) (hn : n ≤ 17592186043904) :
    Calls Try.prog 9 #[.int .i64 just, .int .i64 room, v] w fun e w' => e = .returned (.bool true) ∧ Kept w w' := by
  obtain ⟨sl, cap, rfl⟩ := hv.shape
  exact crossRow_main sl n cap Z _ rfl just room w hv hn
end Go.Proofs.Ytkncagphlfpafaa
