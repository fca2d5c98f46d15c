/- Layer 12: all of a row collapse to the greatest and the least one together, in whatever row. -/
import Derived.Test.YtkncagphlfpafaaLaw12Signs
namespace Go.Proofs.Ytkncagphlfpafaa
open Go.RowKit
set_option linter.unusedSimpArgs false
set_option linter.unusedVariables false
theorem mx_le {Z : Nat → Int} {c : Int} (m : Nat) : mxS Z m ≤ c ↔ 0 ≤ c ∧ ∀ i, i < m → Z i ≤ c := by
  induction m with
  | zero => exact ⟨fun h => ⟨h, fun i hi => by omega⟩, fun h => h.1⟩
  | succ m ih =>
    have e : mxS Z (m + 1) = max (mxS Z m) (Z m) := rfl
    rw [e]
    constructor
    · intro h
      obtain ⟨h0, h1⟩ := ih.1 (by omega)
      exact ⟨h0, fun i hi => by
        rcases Nat.lt_or_ge i m with h2 | h2
        · exact h1 i h2
        · obtain rfl : i = m := by omega
          omega⟩
    · intro ⟨h0, h1⟩
      have := ih.2 ⟨h0, fun i hi => h1 i (by omega)⟩
      have := h1 m (by omega)
      omega
theorem mn_ge {Z : Nat → Int} {c : Int} (m : Nat) : c ≤ mnS Z m ↔ c ≤ 0 ∧ ∀ i, i < m → c ≤ Z i := by
  induction m with
  | zero => exact ⟨fun h => ⟨h, fun i hi => by omega⟩, fun h => h.1⟩
  | succ m ih =>
    have e : mnS Z (m + 1) = min (mnS Z m) (Z m) := rfl
    rw [e]
    constructor
    · intro h
      obtain ⟨h0, h1⟩ := ih.1 (by omega)
      exact ⟨h0, fun i hi => by
        rcases Nat.lt_or_ge i m with h2 | h2
        · exact h1 i h2
        · obtain rfl : i = m := by omega
          omega⟩
    · intro ⟨h0, h1⟩
      have := ih.2 ⟨h0, fun i hi => h1 i (by omega)⟩
      have := h1 m (by omega)
      omega
/-- the row the other way round -/
def rev (Y : Nat → Int) (m j : Nat) : Int := Y (m - 1 - j)
theorem mx_rev (Y : Nat → Int) (m : Nat) : mxS (rev Y m) m = mxS Y m ∧ mnS (rev Y m) m = mnS Y m := by
  have a := (mx_le (Z := Y) (c := mxS Y m) m).1 (Int.le_refl _)
  have b := (mx_le (Z := rev Y m) (c := mxS (rev Y m) m) m).1 (Int.le_refl _)
  have c := (mn_ge (Z := Y) (c := mnS Y m) m).1 (Int.le_refl _)
  have d := (mn_ge (Z := rev Y m) (c := mnS (rev Y m) m) m).1 (Int.le_refl _)
  refine ⟨Int.le_antisymm ((mx_le m).2 ⟨a.1, fun i hi => a.2 _ (by omega)⟩) ((mx_le m).2 ⟨b.1, fun i hi => ?_⟩), Int.le_antisymm ((mn_ge m).2 ⟨d.1, fun i hi => ?_⟩) ((mn_ge m).2 ⟨c.1, fun i hi => c.2 _ (by omega)⟩)⟩
  · have := b.2 (m - 1 - i) (by omega)
    rwa [show rev Y m (m - 1 - i) = Y i from congrArg Y (by omega)] at this
  · have := d.2 (m - 1 - i) (by omega)
    rwa [show rev Y m (m - 1 - i) = Y i from congrArg Y (by omega)] at this
theorem Own.grown2 {w w' : World} {b : Nat} {t : TypeId} {cs : Array Value} (h : Own w b t cs) {row : Option Nat} (hg : w.grownBy w' row) (hne : ∀ k, row = some k → b < k) : Own w' b t cs :=
  ⟨(hg.block b h.lt (fun e => by have := hne b e.symm; omega)).trans h.whole⟩
theorem mm_bounds {Z : Nat → Int} (h : ∀ i, -2048 ≤ Z i ∧ Z i ≤ 2047) (k : Nat) : (0 ≤ mxS Z k ∧ mxS Z k ≤ 2047) ∧ -2048 ≤ mnS Z k ∧ mnS Z k ≤ 0 := by
  induction k with
  | zero => unfold mxS mnS; omega
  | succ k ih => have := h k; unfold mxS mnS; omega
set_option maxRecDepth 20000 in
set_option maxHeartbeats 2000000 in
theorem marginRow_main (sl : Option Addr) (n cap : Nat) (Z Y : Nat → Int) (hYdef : Y = fun i => low (Z i) - 2048) (w : World) (hv : IV w (.slice sl n cap) n Z) (hn : n ≤ 17592186043904) :
    Calls Try.prog 6 #[.slice sl n cap] w fun e w' => e = .returned (.bool true) ∧ Kept w w' := by
  obtain ⟨i0, hi, hz0, hz1, hz2⟩ := info_parts intInfo1
  have hY : ∀ i, -2048 ≤ Y i ∧ Y i ≤ 2047 := fun i => by have := low_bounds (Z i); rw [hYdef]; show -2048 ≤ low (Z i) - 2048 ∧ low (Z i) - 2048 ≤ 2047; omega
  have HYd := Lib.hid hYdef
  have HF := Lib.hid (fun k => mm_bounds hY k)
  have HR := Lib.hid (show ∀ k, k ≤ 20 → allR k Y = (mxS Y k + mnS Y k, 0) from fun k hk => allR_may (mayM_true.2 ⟨by omega, allM_of fun i _ => by have := hY i; omega⟩))
  have HR2 := Lib.hid (show ∀ k, k ≤ 20 → allR k (rev Y k) = (mxS Y k + mnS Y k, 0) from fun k hk => by
    rw [allR_may (mayM_true.2 ⟨by omega, allM_of fun i _ => by have := hY (k - 1 - i); show -1073741824 ≤ Y (k - 1 - i) ∧ Y (k - 1 - i) ≤ 1073741824; omega⟩), (mx_rev Y k).1, (mx_rev Y k).2])
  clear hY hYdef
  have hk : Kept w w := Kept.refl w
  go_enter Try.func6, Try.ntmps6
  go_wp2_with fail
  refine (awake12_any _).mono ?_
  rintro e w1 ⟨rfl, hn⟩
  replace hk := hk.trans hn
  clear hn
  go_wp2
  go_loopw [3, 5, 6, 7, 8] (fun v p q i _ wx => ∃ k : Nat, k ≤ n ∧ k ≤ 20 ∧ i = .int .i64 k ∧ p = .int .i64 (mxS Y k) ∧ q = .int .i64 (mnS Y k) ∧ wx.ownsRow w.heap.size 3 1 v k (ones Y k) ∧ Kept w wx) (fun _ _ _ i _ _ => n - (intOf i).toNat)
  case atStart => exact ⟨0, Nat.zero_le _, by decide, rfl, rfl, rfl, World.ownsRow_nil _ _ _ _, hk⟩
  case round =>
    clear hk
    obtain ⟨k, hkn, hk20, rfl, rfl, rfl, hown, hk⟩ := hrel
    have hsz := hk.size
    by_cases hlt : k < n ∧ k < 20
    · obtain ⟨hl1, hl2⟩ := hlt
      rcases hv.kept hk with ⟨h0, _⟩ | ⟨b, off, c2, hvv, _, hcc, hz⟩
      · omega
      injection hvv with e1 e2 e3
      subst e1 e3
      have c0 := hz k hl1
      have hb := low_bounds (Z k)
      have hyk : Y k = low (Z k) - 2048 := by rw [HYd.out]
      have hp := HF.out k
      have e1 : mxS Y (k + 1) = max (mxS Y k) (Y k) := rfl
      have e2 : ones Y (k + 1) = ones Y k ++ [.int .i64 (Y k)] := rfl
      have e3 : mnS Y (k + 1) = min (mnS Y k) (Y k) := rfl
      obtain ⟨l, hl⟩ : ∃ l, low (Z k) = l := ⟨_, rfl⟩
      obtain ⟨y, hy⟩ : ∃ y, l - 2048 = y := ⟨_, rfl⟩
      rw [hl, hy] at hyk
      rw [hyk] at e1 e2 e3
      have hlow : bits .and .i64 (Z k) 4095 = l := hl
      rw [hl] at hb
      have hyb : -2048 ≤ y ∧ y ≤ 2047 := by omega
      replace e1 := Lib.hid e1
      replace e2 := Lib.hid e2
      replace e3 := Lib.hid e3
      generalize mxS Y k = p at *
      generalize mnS Y k = q at *
      generalize Z k = z at *
      clear hl hv hyk
      rcases Int.lt_trichotomy p y with h1 | h1 | h1 <;> rcases Int.lt_trichotomy q y with h2 | h2 | h2 <;> try omega
      all_goals
        go_wp2_with (at_builtin; refine wpList_append_own _ rfl _ _ 22 rfl w.heap.size 3 i0 (.int .i64 0) 1 8 Try.underlying22 hi hz0 hz1 hz2 rfl (by decide) _ _ _ rfl (hown.alloc _) ⟨wr.heap.size, 0, none⟩ 1 1 [.int .i64 y] rfl rfl (lit_cells wr #[.int .i64 y] 3) (by simp [Value.oneCell']) (by unfold maxLen; omega) (by omega) (by simp; omega) ?_; intro v2 w2 hown2 hg2 _)
        exact ⟨⟨k + 1, by omega, by omega, by go_num, by rw [e1.out]; congr 1; omega, by rw [e3.out]; congr 1; omega, by rw [e2.out]; exact hown2, (hk.alloc _).grown hg2 (row_ge hown)⟩, by simp [intOf]; omega⟩
    · have hcase : n ≤ k ∨ k < n ∧ 20 ≤ k := by omega
      have hv2 := newOnes_of hown
      have HA := Lib.hid (fun u wx (hu : IV wx u k Y) => (show Calls Try.prog 14 #[u] wx fun e w' => e = .returned (.tuple #[.int .i64 (mxS Y k + mnS Y k), .int .i64 0]) ∧ Kept wx w' from by
        have := margAll_any u k Y wx hu (by omega)
        rw [HR.out k hk20] at this
        exact this))
      have HB := Lib.hid (fun u wx (hu : IV wx u k (rev Y k)) => (show Calls Try.prog 14 #[u] wx fun e w' => e = .returned (.tuple #[.int .i64 (mxS Y k + mnS Y k), .int .i64 0]) ∧ Kept wx w' from by
        have := margAll_any u k (rev Y k) wx hu (by omega)
        rw [HR2.out k hk20] at this
        exact this))
      have hp := HF.out k
      clear hown hv HR HR2 HYd
      rcases hv2 with ⟨h0, o, c, rfl, _⟩ | ⟨b, c, cur, rfl, h2, h3, h4, h5, h6, h7, h8⟩
      · subst h0
        have h00 : mxS Y 0 = 0 := rfl
        have h01 : mnS Y 0 = 0 := rfl
        rw [h00, h01] at HA HB
        rcases hcase with hcn | ⟨hcn, hc20⟩
        · skip
          go_wp2
          refine wp_loop_rounds 1 ?_
          rw [rounds_succ]
          go_wp2_with fail
          refine (HA.out _ _ (.inl ⟨rfl, o, c, rfl⟩)).mono ?_
          rintro e w1 ⟨rfl, hn⟩
          replace hk := hk.trans hn
          clear hn
          go_wp2_with fail
          refine (HB.out _ _ (.inl ⟨rfl, none, 0, rfl⟩)).mono ?_
          rintro e w1 ⟨rfl, hn⟩
          replace hk := hk.trans hn
          clear hn
          go_wp2_with fail
          refine (num_any _ _).mono ?_
          rintro e w1 ⟨rfl, rfl⟩
          go_wp2_with fail
          refine (num_any _ _).mono ?_
          rintro e w1 ⟨rfl, rfl⟩
          go_wp2
          go_ret
          exact ⟨rfl, hk⟩
        · omega
      · rcases hcase with hcn | ⟨hcn, hc20⟩
        all_goals
          go_wp2
          have hbw : b < wr.heap.size := h6.lt
          have hwz : w.heap.size ≤ wr.heap.size := hk.size
          obtain ⟨W0, rfl⟩ : ∃ W0 : World, W0 = wr := ⟨_, rfl⟩
          go_loopw [4, 9] (fun u i wx => ∃ (t r : Nat) (z : Int), t + r = k ∧ z = (r : Int) - 1 ∧ i = .int .i64 z ∧ Kept w wx ∧ W0.heap.size ≤ wx.heap.size ∧ Own wx b 3 cur ∧ wx.ownsRow W0.heap.size 3 1 u t (ones (rev Y k) t)) (fun _ i _ => (intOf i + 1).toNat)
          case atStart => exact ⟨0, k, _, by omega, rfl, by go_num, hk, Nat.le_refl _, h6, World.ownsRow_nil _ _ _ _⟩
          case round =>
            clear hk h6
            obtain ⟨t, r, z, htr, hzr, rfl, hk, hsz2, h6, hown⟩ := hrel
            cases r with
            | zero =>
              obtain rfl : z = -1 := by omega
              obtain rfl : k = t := by omega
              have hz2 := newOnes_of hown
              have hiv1 : IV wr (.slice (some ⟨b, 0, none⟩) k c) k Y := iv_of h6 h2 h3 h8
              clear hzr htr hown
              go_wp2_with fail
              refine (HA.out _ _ hiv1).mono ?_
              rintro e w1 ⟨rfl, hn⟩
              replace hk := hk.trans hn
              replace hz2 := hz2.kept hn
              clear hn
              go_wp2_with fail
              refine (HB.out _ _ hz2.iv).mono ?_
              rintro e w1 ⟨rfl, hn⟩
              replace hk := hk.trans hn
              replace hz2 := hz2.kept hn
              clear hn
              go_wp2_with fail
              refine (num_any _ _).mono ?_
              rintro e w1 ⟨rfl, rfl⟩
              go_wp2_with fail
              refine (num_any _ _).mono ?_
              rintro e w1 ⟨rfl, rfl⟩
              go_wp2
              go_ret
              exact ⟨rfl, hk⟩
            | succ j =>
              obtain rfl : z = (j : Int) := by omega
              have hjk : j < k := by omega
              have c0 : wr.cell? ⟨b, j, none⟩ = some (.int .i64 (Y j)) := (h6.cell _).trans (h8 j hjk)
              have e2 : ones (rev Y k) (t + 1) = ones (rev Y k) t ++ [.int .i64 (Y j)] := by
                show ones (rev Y k) t ++ [.int .i64 (rev Y k t)] = _
                rw [show rev Y k t = Y j from congrArg Y (by omega)]
              have hyb := HF.out
              replace e2 := Lib.hid e2
              have HT := Lib.hid htr
              have htk : t ≤ 20 := by omega
              have hbl : b < wr.heap.size := h6.lt
              clear hzr htr hyb
              generalize Y j = y at *
              have H6 := Lib.hid h6
              go_wp2_with (at_builtin; refine wpList_append_own _ rfl _ _ 22 rfl W0.heap.size 3 i0 (.int .i64 0) 1 8 Try.underlying22 hi hz0 hz1 hz2 rfl (by decide) _ _ _ rfl (hown.alloc _) ⟨wr.heap.size, 0, none⟩ 1 1 [.int .i64 y] rfl rfl (lit_cells wr #[.int .i64 y] 3) (by simp [Value.oneCell']) (by unfold maxLen; omega) (by omega) (by simp; omega) ?_; intro v2 w2 hown2 hg2 _)
              refine ⟨⟨t + 1, j, _, by have := HT.out; omega, rfl, by go_num, (hk.alloc _).grown hg2 (fun q hq => Nat.le_trans hwz (row_ge hown q hq)), ?_, (H6.out.alloc _).grown2 hg2 (fun q hq => Nat.lt_of_lt_of_le hbw (row_ge hown q hq)), by rw [e2.out]; exact hown2⟩, by first | (simp [intOf]; done) | (simp [intOf]; omega)⟩
              have := hg2.size
              simp at this
              omega
theorem marginRow_walk (v : Value) (n : Nat) (Z : Nat → Int) (w : World) (hv : IV w v n Z) (hn : n ≤ 17592186043904) :
    Calls Try.prog 6 #[v] w fun e w' => e = .returned (.bool true) ∧ Kept w w' := by
  obtain ⟨sl, cap, rfl⟩ := hv.shape
  exact marginRow_main sl n cap Z _ rfl w hv hn
end Go.Proofs.Ytkncagphlfpafaa
