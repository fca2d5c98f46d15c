/- Layer 12: of margins of one sign the greatest or the least is left. -/
import Derived.Test.YtkncagphlfpafaaMargRef
import Derived.Test.YtkncagphlfpafaaOnes
import Derived.Test.YtkncagphlfpafaaMask
namespace Go.Proofs.Ytkncagphlfpafaa
open Go.RowKit
set_option linter.unusedSimpArgs false
set_option linter.unusedVariables false
/-- a number's twelve low bits -/
def low (z : Int) : Int := bits .and .i64 z 4095
theorem low_bounds (z : Int) : 0 ≤ low z ∧ low z ≤ 4095 := by
  obtain ⟨x, hx, h1, h2⟩ := masked z 12 4095 (by decide) (by decide)
  unfold low; rw [hx]; omega
theorem mx_signs {Z : Nat → Int} (h : ∀ i, 0 ≤ Z i ∧ Z i ≤ 4095) (k : Nat) : (0 ≤ mxS Z k ∧ mxS Z k ≤ 4095) ∧ mnS Z k = 0 := by
  induction k with
  | zero => unfold mxS mnS; omega
  | succ k ih => have := h k; unfold mxS mnS; omega
theorem mn_signs {Z : Nat → Int} (h : ∀ i, -4095 ≤ Z i ∧ Z i ≤ 0) (k : Nat) : (-4095 ≤ mnS Z k ∧ mnS Z k ≤ 0) ∧ mxS Z k = 0 := by
  induction k with
  | zero => unfold mxS mnS; omega
  | succ k ih => have := h k; unfold mxS mnS; omega
set_option maxRecDepth 20000 in
set_option maxHeartbeats 1000000 in
theorem marginSigns_above (sl : Option Addr) (n cap : Nat) (Z Y : Nat → Int) (hYdef : Y = fun i => low (Z i)) (w : World) (hv : IV w (.slice sl n cap) n Z) (hn : n ≤ 17592186043904) :
    Calls Try.prog 7 #[.slice sl n cap, .bool false] w fun e w' => e = .returned (.bool true) ∧ Kept w w' := by
  obtain ⟨i0, hi, hz0, hz1, hz2⟩ := info_parts intInfo1
  have hY : ∀ i, 0 ≤ Y i ∧ Y i ≤ 4095 := fun i => by have := low_bounds (Z i); rw [hYdef]; show 0 ≤ low (Z i) ∧ low (Z i) ≤ 4095; omega
  have HYd := Lib.hid hYdef
  have hall : ∀ k, allM Y k = true := fun k => allM_of fun i _ => by have := hY i; omega
  have HF := Lib.hid (fun k => mx_signs (Z := Y) hY k)
  have hres : ∀ k, k ≤ 20 → allR k Y = (mxS Y k, 0) := fun k hk => by
    rw [allR_may (mayM_true.2 ⟨by omega, hall k⟩)]
    have := HF.out k
    congr 1; omega
  have HR := Lib.hid hres
  have hcol : ∀ k, colS (mxS Y k) (Y k) = mxS Y (k + 1) := fun k => by
    have h1 := HF.out k
    have h2 := hY k
    have h3 := HF.out (k + 1)
    rw [colS_eq, cnt_may (mayB_true.2 (by omega)), cnt_may (mayB_true.2 (by omega)), show mxS Y (k + 1) = max (mxS Y k) (Y k) from rfl]
    omega
  have HCOL := Lib.hid hcol
  have HY := Lib.hid hY
  clear hall hres hcol hY hYdef
  have hk : Kept w w := Kept.refl w
  go_enter Try.func7, Try.ntmps7
  go_wp2_with fail
  refine (awake12_any _).mono ?_
  rintro e w1 ⟨rfl, hn⟩
  replace hk := hk.trans hn
  clear hn
  go_wp2
  go_loopw [5, 6, 7, 8] (fun v s i _ wx => ∃ k : Nat, k ≤ n ∧ k ≤ 20 ∧ i = .int .i64 k ∧ s = .int .i64 (mxS Y k) ∧ wx.ownsRow w.heap.size 3 1 v k (ones Y k) ∧ Kept w wx) (fun _ _ i _ _ => n - (intOf i).toNat)
  case atStart => exact ⟨0, Nat.zero_le _, by decide, rfl, rfl, World.ownsRow_nil _ _ _ _, hk⟩
  case round =>
    clear hk
    obtain ⟨k, hkn, hk20, rfl, rfl, hown, hk⟩ := hrel
    have hsz := hk.size
    by_cases hlt : k < n ∧ k < 20
    · obtain ⟨hl1, hl2⟩ := hlt
      rcases hv.kept hk with ⟨h0, _⟩ | ⟨b, off, c2, hvv, _, hcc, hz⟩
      · omega
      injection hvv with e1 e2 e3
      subst e1 e3
      have c0 := hz k hl1
      have hb := low_bounds (Z k)
      have hyk : Y k = low (Z k) := by rw [HYd.out]
      have hp := HF.out k
      have e1 : mxS Y (k + 1) = max (mxS Y k) (Y k) := rfl
      have e2 : ones Y (k + 1) = ones Y k ++ [.int .i64 (Y k)] := rfl
      rw [hyk] at e1 e2
      replace hyk := Lib.hid hyk
      obtain ⟨l, hl⟩ : ∃ l, low (Z k) = l := ⟨_, rfl⟩
      have hlow : bits .and .i64 (Z k) 4095 = l := hl
      rw [hl] at e1 e2 hb
      replace e1 := Lib.hid e1
      replace e2 := Lib.hid e2
      generalize mxS Y k = p at *
      generalize Z k = z at *
      clear hl hv
      have H := Lib.hid hown
      rcases Int.lt_trichotomy p (l) with h1 | h1 | h1
      all_goals
        go_wp2_with (at_builtin; refine wpList_append_own _ rfl _ _ 22 rfl w.heap.size 3 i0 (.int .i64 0) 1 8 Try.underlying22 hi hz0 hz1 hz2 rfl (by decide) _ _ _ rfl (hown.alloc _) ⟨wr.heap.size, 0, none⟩ 1 1 [.int .i64 (l)] rfl rfl (lit_cells wr #[.int .i64 (l)] 3) (by simp [Value.oneCell']) (by unfold maxLen; omega) (by omega) (by simp; omega) ?_; intro v2 w2 hown2 hg2 _)
        exact ⟨⟨k + 1, by omega, by omega, by go_num, by rw [e1.out]; congr 1; omega, by rw [e2.out]; exact hown2, (hk.alloc _).grown hg2 (row_ge hown)⟩, by simp [intOf]; omega⟩
    · have hcase : n ≤ k ∨ k < n ∧ 20 ≤ k := by omega
      have hv2 := newOnes_of hown
      have HA := Lib.hid (fun u wx (hu : IV wx u k Y) => (show Calls Try.prog 14 #[u] wx fun e w' => e = .returned (.tuple #[.int .i64 (mxS Y k), .int .i64 0]) ∧ Kept wx w' from by
        have := margAll_any u k Y wx hu (by omega)
        rw [HR.out k hk20] at this
        exact this))
      have hp := HF.out k
      clear hown hv HR HYd
      rcases hv2 with ⟨h0, o, c, rfl, _⟩ | ⟨b, c, cur, rfl, h2, h3, h4, h5, h6, h7, h8⟩
      · subst h0
        have h00 : mxS Y 0 = 0 := rfl
        rcases hcase with hcn | ⟨hcn, hc20⟩
        · skip
          go_wp2_with fail
          refine (HA.out _ _ (.inl ⟨rfl, o, c, rfl⟩)).mono ?_
          rintro e w1 ⟨rfl, hn⟩
          replace hk := hk.trans hn
          clear hn
          go_wp2
          refine wp_loop_rounds 1 ?_
          rw [rounds_succ]
          go_wp2_with fail
          refine (num_any _ _).mono ?_
          rintro e w1 ⟨rfl, rfl⟩
          go_wp2
          go_ret
          exact ⟨rfl, hk⟩
        · omega
      · have hiv : IV wr (.slice (some ⟨b, 0, none⟩) k c) k Y := iv_of h6 h2 h3 h8
        rcases hcase with hcn | ⟨hcn, hc20⟩
        all_goals
          go_wp2_with fail
          refine (HA.out _ _ hiv).mono ?_
          rintro e w1 ⟨rfl, hn⟩
          replace hk := hk.trans hn
          replace h6 := h6.kept hn
          clear hn
          go_wp2
          clear hiv hp
          go_loopw [11, 12] (fun f i wx => ∃ j : Nat, j ≤ k ∧ i = .int .i64 j ∧ f = .int .i64 (mxS Y j) ∧ Kept w wx ∧ Own wx b 3 cur) (fun _ i _ => k - (intOf i).toNat)
          case atStart => exact ⟨0, Nat.zero_le _, rfl, rfl, hk, h6⟩
          case round =>
            clear hk h6
            obtain ⟨j, hj, rfl, rfl, hk, h6⟩ := hrel
            by_cases hjk : j < k
            · have c0 : wr.cell? ⟨b, j, none⟩ = some (.int .i64 (Y j)) := (h6.cell _).trans (h8 j hjk)
              have hc := HCOL.out j
              go_wp2_with fail
              refine (margCollapse_any _ _ _).mono ?_
              rintro e w1 ⟨rfl, hn⟩
              replace hk := hk.trans hn
              replace h6 := h6.kept hn
              clear hn
              go_wp2
              go_roundw
              case rel => exact ⟨j + 1, by omega, by go_num, rfl, hk, h6⟩
              case measure => simp [intOf]; omega
            · obtain rfl : j = k := by omega
              go_wp2_with fail
              refine (num_any _ _).mono ?_
              rintro e w1 ⟨rfl, rfl⟩
              go_wp2
              go_ret
              exact ⟨rfl, hk⟩
set_option maxRecDepth 20000 in
set_option maxHeartbeats 1000000 in
theorem marginSigns_below (sl : Option Addr) (n cap : Nat) (Z Y : Nat → Int) (hYdef : Y = fun i => -(low (Z i))) (w : World) (hv : IV w (.slice sl n cap) n Z) (hn : n ≤ 17592186043904) :
    Calls Try.prog 7 #[.slice sl n cap, .bool true] w fun e w' => e = .returned (.bool true) ∧ Kept w w' := by
  obtain ⟨i0, hi, hz0, hz1, hz2⟩ := info_parts intInfo1
  have hY : ∀ i, -4095 ≤ Y i ∧ Y i ≤ 0 := fun i => by have := low_bounds (Z i); rw [hYdef]; show -4095 ≤ -(low (Z i)) ∧ -(low (Z i)) ≤ 0; omega
  have HYd := Lib.hid hYdef
  have hall : ∀ k, allM Y k = true := fun k => allM_of fun i _ => by have := hY i; omega
  have HF := Lib.hid (fun k => mn_signs (Z := Y) hY k)
  have hres : ∀ k, k ≤ 20 → allR k Y = (mnS Y k, 0) := fun k hk => by
    rw [allR_may (mayM_true.2 ⟨by omega, hall k⟩)]
    have := HF.out k
    congr 1; omega
  have HR := Lib.hid hres
  have hcol : ∀ k, colS (mnS Y k) (Y k) = mnS Y (k + 1) := fun k => by
    have h1 := HF.out k
    have h2 := hY k
    have h3 := HF.out (k + 1)
    rw [colS_eq, cnt_may (mayB_true.2 (by omega)), cnt_may (mayB_true.2 (by omega)), show mnS Y (k + 1) = min (mnS Y k) (Y k) from rfl]
    omega
  have HCOL := Lib.hid hcol
  have HY := Lib.hid hY
  clear hall hres hcol hY hYdef
  have hk : Kept w w := Kept.refl w
  go_enter Try.func7, Try.ntmps7
  go_wp2_with fail
  refine (awake12_any _).mono ?_
  rintro e w1 ⟨rfl, hn⟩
  replace hk := hk.trans hn
  clear hn
  go_wp2
  go_loopw [5, 6, 7, 8] (fun v s i _ wx => ∃ k : Nat, k ≤ n ∧ k ≤ 20 ∧ i = .int .i64 k ∧ s = .int .i64 (mnS Y k) ∧ wx.ownsRow w.heap.size 3 1 v k (ones Y k) ∧ Kept w wx) (fun _ _ i _ _ => n - (intOf i).toNat)
  case atStart => exact ⟨0, Nat.zero_le _, by decide, rfl, rfl, World.ownsRow_nil _ _ _ _, hk⟩
  case round =>
    clear hk
    obtain ⟨k, hkn, hk20, rfl, rfl, hown, hk⟩ := hrel
    have hsz := hk.size
    by_cases hlt : k < n ∧ k < 20
    · obtain ⟨hl1, hl2⟩ := hlt
      rcases hv.kept hk with ⟨h0, _⟩ | ⟨b, off, c2, hvv, _, hcc, hz⟩
      · omega
      injection hvv with e1 e2 e3
      subst e1 e3
      have c0 := hz k hl1
      have hb := low_bounds (Z k)
      have hyk : Y k = -(low (Z k)) := by rw [HYd.out]
      have hp := HF.out k
      have e1 : mnS Y (k + 1) = min (mnS Y k) (Y k) := rfl
      have e2 : ones Y (k + 1) = ones Y k ++ [.int .i64 (Y k)] := rfl
      rw [hyk] at e1 e2
      replace hyk := Lib.hid hyk
      obtain ⟨l, hl⟩ : ∃ l, low (Z k) = l := ⟨_, rfl⟩
      have hlow : bits .and .i64 (Z k) 4095 = l := hl
      rw [hl] at e1 e2 hb
      replace e1 := Lib.hid e1
      replace e2 := Lib.hid e2
      generalize mnS Y k = p at *
      generalize Z k = z at *
      clear hl hv
      have H := Lib.hid hown
      rcases Int.lt_trichotomy p (-l) with h1 | h1 | h1
      all_goals
        go_wp2_with (at_builtin; refine wpList_append_own _ rfl _ _ 22 rfl w.heap.size 3 i0 (.int .i64 0) 1 8 Try.underlying22 hi hz0 hz1 hz2 rfl (by decide) _ _ _ rfl (hown.alloc _) ⟨wr.heap.size, 0, none⟩ 1 1 [.int .i64 (-l)] rfl rfl (lit_cells wr #[.int .i64 (-l)] 3) (by simp [Value.oneCell']) (by unfold maxLen; omega) (by omega) (by simp; omega) ?_; intro v2 w2 hown2 hg2 _)
        exact ⟨⟨k + 1, by omega, by omega, by go_num, by rw [e1.out]; congr 1; omega, by rw [e2.out]; exact hown2, (hk.alloc _).grown hg2 (row_ge hown)⟩, by simp [intOf]; omega⟩
    · have hcase : n ≤ k ∨ k < n ∧ 20 ≤ k := by omega
      have hv2 := newOnes_of hown
      have HA := Lib.hid (fun u wx (hu : IV wx u k Y) => (show Calls Try.prog 14 #[u] wx fun e w' => e = .returned (.tuple #[.int .i64 (mnS Y k), .int .i64 0]) ∧ Kept wx w' from by
        have := margAll_any u k Y wx hu (by omega)
        rw [HR.out k hk20] at this
        exact this))
      have hp := HF.out k
      clear hown hv HR HYd
      rcases hv2 with ⟨h0, o, c, rfl, _⟩ | ⟨b, c, cur, rfl, h2, h3, h4, h5, h6, h7, h8⟩
      · subst h0
        have h00 : mnS Y 0 = 0 := rfl
        rcases hcase with hcn | ⟨hcn, hc20⟩
        · skip
          go_wp2_with fail
          refine (HA.out _ _ (.inl ⟨rfl, o, c, rfl⟩)).mono ?_
          rintro e w1 ⟨rfl, hn⟩
          replace hk := hk.trans hn
          clear hn
          go_wp2
          refine wp_loop_rounds 1 ?_
          rw [rounds_succ]
          go_wp2_with fail
          refine (num_any _ _).mono ?_
          rintro e w1 ⟨rfl, rfl⟩
          go_wp2
          go_ret
          exact ⟨rfl, hk⟩
        · omega
      · have hiv : IV wr (.slice (some ⟨b, 0, none⟩) k c) k Y := iv_of h6 h2 h3 h8
        rcases hcase with hcn | ⟨hcn, hc20⟩
        all_goals
          go_wp2_with fail
          refine (HA.out _ _ hiv).mono ?_
          rintro e w1 ⟨rfl, hn⟩
          replace hk := hk.trans hn
          replace h6 := h6.kept hn
          clear hn
          go_wp2
          clear hiv hp
          go_loopw [11, 12] (fun f i wx => ∃ j : Nat, j ≤ k ∧ i = .int .i64 j ∧ f = .int .i64 (mnS Y j) ∧ Kept w wx ∧ Own wx b 3 cur) (fun _ i _ => k - (intOf i).toNat)
          case atStart => exact ⟨0, Nat.zero_le _, rfl, rfl, hk, h6⟩
          case round =>
            clear hk h6
            obtain ⟨j, hj, rfl, rfl, hk, h6⟩ := hrel
            by_cases hjk : j < k
            · have c0 : wr.cell? ⟨b, j, none⟩ = some (.int .i64 (Y j)) := (h6.cell _).trans (h8 j hjk)
              have hc := HCOL.out j
              go_wp2_with fail
              refine (margCollapse_any _ _ _).mono ?_
              rintro e w1 ⟨rfl, hn⟩
              replace hk := hk.trans hn
              replace h6 := h6.kept hn
              clear hn
              go_wp2
              go_roundw
              case rel => exact ⟨j + 1, by omega, by go_num, rfl, hk, h6⟩
              case measure => simp [intOf]; omega
            · obtain rfl : j = k := by omega
              go_wp2_with fail
              refine (num_any _ _).mono ?_
              rintro e w1 ⟨rfl, rfl⟩
              go_wp2
              go_ret
              exact ⟨rfl, hk⟩
theorem marginSigns_walk (v : Value) (n : Nat) (Z : Nat → Int) (below : Bool) (w : World) (hv : IV w v n Z) (hn : n ≤ 17592186043904) :
    Calls Try.prog 7 #[v, .bool below] w fun e w' => e = .returned (.bool true) ∧ Kept w w' := by
  obtain ⟨sl, cap, rfl⟩ := hv.shape
  cases below
  · exact marginSigns_above sl n cap Z _ rfl w hv hn
  · exact marginSigns_below sl n cap Z _ rfl w hv hn
end Go.Proofs.Ytkncagphlfpafaa
