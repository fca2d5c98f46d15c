/- Layer 21: at the end the last one ends there, at the beginning the first one begins there. -/
import Derived.Test.YtkncagphlfpafaaAwake21
import Derived.Deep.CutRange
namespace Go.Proofs.Ytkncagphlfpafaa
open Go.RowKit
set_option linter.unusedSimpArgs false
set_option linter.unusedVariables false
def RowI (w : World) (g n : Nat) (Y : Nat → Int) : Prop := ∀ i, i < n → w.cell? ⟨g, i, none⟩ = some (.int .i64 (Y i))
theorem RowI.kept {w w' : World} {g n : Nat} {Y : Nat → Int} (h : RowI w g n Y) (k : Kept w w') : RowI w' g n Y := fun i hi => (k.cell (World.block_lt_of_cell? w _ (h i hi))).trans (h i hi)
theorem RowI.iv {w : World} {g n c : Nat} {Y : Nat → Int} (h : RowI w g n Y) (hp : 0 < n) (hc : n ≤ c) : IV w (.slice (some ⟨g, 0, none⟩) n c) n Y := .inr ⟨g, 0, c, rfl, hp, hc, fun i hi => by rw [Nat.zero_add]; exact h i hi⟩
theorem newOnes_row {t : TypeId} {a w : World} {v : Value} {m : Nat} {Y : Nat → Int} (h : NewOnes t a w v m Y) (hp : 0 < m) : ∃ g c, v = .slice (some ⟨g, 0, none⟩) m c ∧ m ≤ c ∧ RowI w g m Y := by
  rcases h with ⟨h0, _⟩ | ⟨b, c, cur, h1, h2, h3, h4, h5, h6, h7, h8⟩
  · omega
  · exact ⟨b, c, h1, h3, fun i hi => (h6.cell i).trans (h8 i hi)⟩
theorem main_row (just room : Int) (v : Value) (n : Nat) (Z : Nat → Int) (w : World) (hz : IV w v n Z) (h : mainB just room n Z = true) (hp : 0 < n) :
    Calls Try.prog 21 #[.int .i64 just, .int .i64 room, v] w fun e w' => ∃ g c, e = .returned (.tuple #[.slice (some ⟨g, 0, none⟩) n c, .int .i64 0]) ∧ RowI w' g n (placeS just room n Z) ∧ Kept w w' :=
  (crossMain_good just room v n Z w hz h).mono fun e w' ⟨u, he, hu, hk⟩ => by
    obtain ⟨g, c, rfl, _, hr⟩ := newOnes_row hu hp
    exact ⟨g, c, he, hr, hk⟩
/-- a number's low bits -/
def lowB (m z : Int) : Int := bits .and .i64 z m
theorem low8_bounds (z : Int) : 0 ≤ lowB 255 z ∧ lowB 255 z ≤ 255 := by
  obtain ⟨x, hx, h1, h2⟩ := masked z 8 255 (by decide) (by decide)
  unfold lowB; rw [hx]; omega
theorem sum_bounds {Y : Nat → Int} {m : Int} (h : ∀ i, 0 ≤ Y i ∧ Y i ≤ m) (hm : 0 ≤ m) (k : Nat) : 0 ≤ sumS Y k ∧ sumS Y k ≤ m * (k : Int) := by
  induction k with
  | zero => unfold sumS; simp
  | succ k ih =>
    have h1 := h k
    have e : m * ((k + 1 : Nat) : Int) = m * (k : Int) + m := by rw [Int.natCast_succ, Int.mul_add, Int.mul_one]
    rw [e]
    unfold sumS
    omega
set_option maxRecDepth 20000 in
set_option maxHeartbeats 2000000 in
theorem crossEnds_main (sl : Option Addr) (n cap : Nat) (Z Y : Nat → Int) (hYdef : Y = fun i => lowB 255 (Z i)) (room : Int) (w : World) (hv : IV w (.slice sl n cap) n Z) (hn : n ≤ 17592186043904) :
    Calls Try.prog 12 #[.slice sl n cap, .int .i64 room] w fun e w' => e = .returned (.bool true) ∧ Kept w w' := by
  obtain ⟨i0, hi, hz0, hz1, hz2⟩ := info_parts intInfo1
  obtain ⟨q, hq, q1, q2⟩ := masked room 12 4095 (by decide) (by decide)
  have hY : ∀ i, 0 ≤ Y i ∧ Y i ≤ 255 := fun i => by rw [hYdef]; exact low8_bounds (Z i)
  have HYd := Lib.hid hYdef
  have HY := Lib.hid hY
  have HF := Lib.hid (fun k => sum_bounds hY (by decide) k)
  clear hY hYdef
  have hk : Kept w w := Kept.refl w
  go_enter Try.func12, Try.ntmps12
  go_wp2_with fail
  refine (awake21_any _).mono ?_
  rintro e w1 ⟨rfl, hn⟩
  replace hk := hk.trans hn
  clear hn
  go_wp2
  go_loopw [5, 6, 7] (fun v s i wx => ∃ k : Nat, k ≤ n ∧ k ≤ 9 ∧ i = .int .i64 k ∧ s = .int .i64 (sumS Y k) ∧ wx.ownsRow w.heap.size 3 1 v k (ones Y k) ∧ Kept w wx) (fun _ _ i _ => n - (intOf i).toNat)
  case atStart => exact ⟨0, Nat.zero_le _, by decide, rfl, rfl, World.ownsRow_nil _ _ _ _, hk⟩
  case round =>
    clear hk
    obtain ⟨k, hkn, hk9, rfl, rfl, hown, hk⟩ := hrel
    have hsz := hk.size
    have hsb := HF.out k
    by_cases hlt : k < n ∧ k < 9
    · obtain ⟨hl1, hl2⟩ := hlt
      rcases hv with ⟨h0, _⟩ | ⟨b, off, c2, hvv, _, hcc, hz⟩
      · omega
      injection hvv with e1 e2 e3
      subst e1 e3
      have c0 := (hz.kept hk) k hl1
      have hb := low8_bounds (Z k)
      have hyk : Y k = lowB 255 (Z k) := by rw [HYd.out]
      have e1 : sumS Y (k + 1) = sumS Y k + Y k := rfl
      have e2 : ones Y (k + 1) = ones Y k ++ [.int .i64 (Y k)] := rfl
      obtain ⟨l, hl⟩ : ∃ l, lowB 255 (Z k) = l := ⟨_, rfl⟩
      rw [hyk, hl] at e1 e2
      have hlow : bits .and .i64 (Z k) 255 = l := hl
      rw [hl] at hb
      replace e1 := Lib.hid e1
      replace e2 := Lib.hid e2
      have HZ := Lib.hid hz
      have CX := Lib.hid (fun wx (hx : Kept w wx) => (HZ.out.kept hx) k hl1)
      have hl3 : (k : Int) < (n : Int) := by omega
      have hl4 : (k : Int) < 9 := by omega
      generalize sumS Y k = p at *
      generalize Z k = z at *
      clear hl hyk
      go_wp2_with (at_builtin; refine wpList_append_own _ rfl _ _ 22 rfl w.heap.size 3 i0 (.int .i64 0) 1 8 Try.underlying22 hi hz0 hz1 hz2 rfl (by decide) _ _ _ rfl (hown.alloc _) ⟨wr.heap.size, 0, none⟩ 1 1 [.int .i64 l] rfl rfl (lit_cells wr #[.int .i64 l] 3) (by simp [Value.oneCell']) (by unfold maxLen; omega) (by omega) (by simp; omega) ?_; intro v2 w2 hown2 hg2 _; have c2 := CX.out w2 ((hk.alloc _).grown hg2 (row_ge hown)))
      exact ⟨⟨k + 1, by omega, by omega, by go_num, by rw [e1.out], by rw [e2.out]; exact hown2, (hk.alloc _).grown hg2 (row_ge hown)⟩, by simp [intOf]; omega⟩
    · have hx : ¬ ((k : Int) < (n : Int)) ∨ (k : Int) < (n : Int) ∧ ¬ ((k : Int) < 9) := by omega
      have hne := newOnes_of hown
      have HFk := Lib.hid (HF.out k)
      cases k with
      | zero =>
        rcases hx with hx | ⟨hx1, hx2⟩
        · rcases hne with ⟨_, o, c9, rfl, _⟩ | ⟨_, _, _, _, h0, _⟩
          · go_wp2
            go_ret
            exact ⟨rfl, hk⟩
          · omega
        · omega
      | succ j =>
        obtain ⟨gx, cx, rfl, hcx, hxs⟩ := newOnes_row hne (Nat.succ_pos j)
        have hS := HF.out (j + 1)
        have hP := HF.out j
        have hy := HY.out j
        have eS : sumS Y (j + 1) = sumS Y j + Y j := rfl
        obtain ⟨p, hp⟩ : ∃ p, sumS Y j = p := ⟨_, rfl⟩
        obtain ⟨y, hye⟩ : ∃ y, Y j = y := ⟨_, rfl⟩
        obtain ⟨S, hSe⟩ : ∃ S, sumS Y (j + 1) = S := ⟨_, rfl⟩
        obtain ⟨r, hr⟩ : ∃ r, S + q = r := ⟨_, rfl⟩
        obtain ⟨h, hh⟩ : ∃ h : Int, q / 2 = h := ⟨_, rfl⟩
        rw [hSe] at hS
        rw [hp] at hP
        rw [hye] at hy
        rw [hp, hye, hSe] at eS
        rw [hSe]
        have hL : leftZ r Y (j + 1) = q := by unfold leftZ; rw [hSe]; omega
        have hA : allX Y (j + 1) = true := allX_of fun i _ => by have := HY.out i; omega
        have hM : ∀ u : Int, 0 ≤ u → u ≤ 3 → mainB u r (j + 1) Y = true := fun u h1 h2 => mainB_true.2 ⟨⟨⟨inB_true.2 ⟨h1, h2⟩, inB_true.2 (by omega)⟩, by omega⟩, hA⟩
        have p0 : placeS 0 r (j + 1) Y 0 = 0 := by unfold placeS aheadS; simp [sumS]
        have p1 : placeS 1 r (j + 1) Y j = p + q := by unfold placeS aheadS; rw [hL, hp]; simp
        have p2 : placeS 2 r (j + 1) Y j = p + h := by unfold placeS aheadS; rw [hL, hp, hh]; simp
        have p3 : placeS 2 r (j + 1) Y 0 = h := by unfold placeS aheadS; rw [hL, hh]; simp [sumS]
        have M0 := Lib.hid (hM 0 (by decide) (by decide))
        have M1 := Lib.hid (hM 1 (by decide) (by decide))
        have M2 := Lib.hid (hM 2 (by decide) (by decide))
        have hhb : 0 ≤ h ∧ 2 * h ≤ q ∧ q ≤ 2 * h + 1 := by omega
        have P := Lib.hid (And.intro p0 (And.intro p1 (And.intro p2 p3)))
        have HYE := Lib.hid hye
        have hlen : ¬ ((j + 1 : Nat) : Int) = 0 := by omega
        clear hL hA hM p0 p1 p2 p3 hp hye hh HF HFk hv hown HY HYd
        have hrb : 0 ≤ r ∧ r ≤ 10000 := by omega
        have hrp : r ≤ p + y + q ∧ p + y + q ≤ r := by omega
        clear eS
        rcases hx with hx | ⟨hx1, hx2⟩
        all_goals
          go_wp2_with fail
          go_wp2_with fail
          refine (main_row _ _ _ (j + 1) Y _ (hxs.iv (Nat.succ_pos j) hcx) M0.out (Nat.succ_pos j)).mono ?_
          rintro e w1 ⟨ga, ca, rfl, ra, hn⟩
          replace hk := hk.trans hn
          replace hxs := hxs.kept hn
          clear hn
          go_wp2_with fail
          refine (main_row _ _ _ (j + 1) Y _ (hxs.iv (Nat.succ_pos j) hcx) M1.out (Nat.succ_pos j)).mono ?_
          rintro e w1 ⟨gb, cb, rfl, rb, hn⟩
          replace hk := hk.trans hn
          replace hxs := hxs.kept hn
          replace ra := ra.kept hn
          clear hn
          go_wp2_with fail
          refine (main_row _ _ _ (j + 1) Y _ (hxs.iv (Nat.succ_pos j) hcx) M2.out (Nat.succ_pos j)).mono ?_
          rintro e w1 ⟨gc, cc, rfl, rc, hn⟩
          replace hk := hk.trans hn
          replace hxs := hxs.kept hn
          replace ra := ra.kept hn
          replace rb := rb.kept hn
          clear hn
          go_wp2_with fail
          refine (num_any _ _).mono ?_
          rintro e w1 ⟨rfl, rfl⟩
          go_wp2_with fail
          refine (num_any _ _).mono ?_
          rintro e w1 ⟨rfl, rfl⟩
          go_wp2_with fail
          refine (num_any _ _).mono ?_
          rintro e w1 ⟨rfl, rfl⟩
          have a0 := ra 0 (Nat.succ_pos j)
          have b0 := rb j (Nat.lt_succ_self j)
          have c0 := rc j (Nat.lt_succ_self j)
          have c1 := rc 0 (Nat.succ_pos j)
          have x0 := hxs j (Nat.lt_succ_self j)
          rw [P.out.1] at a0
          rw [P.out.2.1] at b0
          rw [P.out.2.2.1] at c0
          rw [P.out.2.2.2] at c1
          rw [HYE.out] at x0
          clear ra rb rc hxs
          obtain ⟨u1, hu1⟩ : ∃ u1, r - (p + h) = u1 := ⟨_, rfl⟩
          obtain ⟨u2, hu2⟩ : ∃ u2, u1 - y = u2 := ⟨_, rfl⟩
          have hu3 : u2 - h = 0 ∨ u2 - h = 1 := by omega
          have w1f : IntKind.i64.wrap (r - (p + h)) = u1 := by rw [IntWalk.i64_in _ (by omega)]; exact hu1
          have w2f : IntKind.i64.wrap (u1 - y) = u2 := by rw [IntWalk.i64_in _ (by omega)]; exact hu2
          have w4f : IntKind.i64.wrap (p + q + y) = r := by rw [IntWalk.i64_in _ (by omega)]; omega
          have w3f : IntKind.i64.wrap (u2 - h) = 0 ∨ IntKind.i64.wrap (u2 - h) = 1 := by rw [IntWalk.i64_in _ (by omega)]; exact hu3
          clear hu1 hu2 hu3 hr hrp hhb hS
          go_upto_region 19 with fail
          rcases w3f with w3f | w3f
          all_goals
            go_quiet (fail)
            go_wp2_with fail
            go_quiet (fail)
            go_wp2
            go_ret
            exact ⟨rfl, (hk.drewN _).drewN _⟩
theorem crossEnds_walk (v : Value) (n : Nat) (Z : Nat → Int) (room : Int) (w : World) (hv : IV w v n Z) (hn : n ≤ 17592186043904) :
    Calls Try.prog 12 #[v, .int .i64 room] w fun e w' => e = .returned (.bool true) ∧ Kept w w' := by
  obtain ⟨sl, cap, rfl⟩ := hv.shape
  exact crossEnds_main sl n cap Z _ rfl room w hv hn
end Go.Proofs.Ytkncagphlfpafaa
