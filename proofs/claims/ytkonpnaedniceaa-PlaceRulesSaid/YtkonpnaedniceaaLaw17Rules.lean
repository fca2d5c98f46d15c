/- Layer 17: floats that are placed one behind the other do not meet. -/
import Derived.Test.YtkonpnaedniceaaRules
import Derived.Test.YtkonpnaedniceaaMask
import Derived.Test.YtkonpnaedniceaaStore
import Derived.Test.YtkonpnaedniceaaMarg
import Derived.RegionTactic
import Derived.BigRegion
namespace Go.Proofs.Ytkonpnaedniceaa
open Go.RowKit Go.Deep
set_option linter.unusedSimpArgs false
set_option linter.unusedVariables false
set_option maxRecDepth 20000 in
set_option maxHeartbeats 8000000 in
theorem placeRules_main (sl : Option Addr) (n cap : Nat) (S : Nat → Int) (room r : Int) (hr : 100 + bits .and .i64 room 1023 = r) (hr2 : 100 ≤ r ∧ r ≤ 1123) (w : World) (hv : IV w (.slice sl n cap) n S) (hn : n ≤ 17592186043904) :
    Calls Try.prog 4 #[.slice sl n cap, .int .i64 room] w fun e w' => e = .returned (.bool true) ∧ Kept w w' := by
  obtain ⟨i0, hi0, hz0, hz1, hz2⟩ := info_parts exclusionsInfo
  have hk : Kept w w := Kept.refl w
  go_enter Try.func4, Try.ntmps4
  go_wp2_with fail
  refine (awake17_any _).mono ?_
  rintro e w1 ⟨rfl, hn⟩
  replace hk := hk.trans hn
  clear hn
  go_wp2
  go_loopw [6, 7, 8, 9, 10, 11, 12, 13, 14, 15, 16, 17] (fun v y i _ _ _ _ _ _ _ _ _ wx => ∃ (k : Nat) (Z : Nat → Nat → Int) (yy : Int), k ≤ n ∧ k ≤ 14 ∧ i = .int .i64 k ∧ y = .int .i64 yy ∧ (0 ≤ yy ∧ yy ≤ 3 * (k : Int)) ∧ Hid (GoodR Z k) ∧ OR wx w.heap.size 43 5 v k (flat 5 (intC Z) k) ∧ Kept w wx) (fun _ _ i _ _ _ _ _ _ _ _ _ _ => n - (intOf i).toNat)
  case atStart => exact ⟨0, fun _ _ => 0, 0, Nat.zero_le _, by decide, rfl, rfl, by decide, Lib.hid fun i hi => by omega, ⟨World.ownsRow_nil _ _ _ _⟩, hk⟩
  case round =>
    clear hk
    obtain ⟨k, Z, yy, hkn, hk14, rfl, rfl, hyy, hgood, hown, hk⟩ := hrel
    by_cases hlt : k < n ∧ k < 14
    · obtain ⟨hl1, hl2⟩ := hlt
      have hi1 : (k : Int) < (n : Int) := by omega
      have hi2 : (k : Int) < 14 := by omega
      rcases hv.kept hk with ⟨h0, _⟩ | ⟨b, off, c2, hvv, _, hcc, hz⟩
      · omega
      injection hvv with e1 e2 e3
      subst e1 e3
      have c0 := hz k hl1
      have hbl := World.block_lt_of_cell? wr _ c0
      clear hz
      generalize S k = z at *
      obtain ⟨sd, hsd, sd0, sd1⟩ := masked z 1 1 (by decide) (by decide)
      obtain ⟨p, hp, p0, p1⟩ := masked (z / 2) 9 511 (by decide) (by decide)
      obtain ⟨q, hq, q0, q1⟩ := masked (z / 16) 7 127 (by decide) (by decide)
      obtain ⟨e, he, ee0, ee1⟩ := masked (z / 8) 2 3 (by decide) (by decide)
      obtain ⟨side0, hside⟩ : ∃ side0, 1 + sd = side0 := ⟨_, rfl⟩
      obtain ⟨si0, hsi⟩ : ∃ si0, 1 + p = si0 := ⟨_, rfl⟩
      obtain ⟨sb0, hsb⟩ : ∃ sb0, 1 + q = sb0 := ⟨_, rfl⟩
      obtain ⟨cc, hcl⟩ : ∃ cc, bits .and .i64 z 30720 = cc := ⟨_, rfl⟩
      have hrv := (newRow_of hown.own).rv
      obtain ⟨so, sc, hso⟩ := hrv.shape
      subst hso
      have hwsi : IntKind.i64.wrap (1 + p) = si0 := by rw [IntWalk.i64_in _ (by omega)]; exact hsi
      have hwsb : IntKind.i64.wrap (1 + q) = sb0 := by rw [IntWalk.i64_in _ (by omega)]; exact hsb
      have hcases : cc = 30720 ∨ cc ≠ 30720 := by omega
      rcases hcases with hc3 | hc3
      · obtain ⟨x, hx⟩ := rules_step hgood.out (by omega) hr2 (y := yy + e) (by omega) (side := side0) (by omega) (clear := 3) (.inr rfl) (si := si0) (by omega) (sb := sb0) (by omega)
        have HR := Lib.hid hx.is
        have HG := Lib.hid hx.good
        have HE := Lib.hid hx.each
        have hlow := hx.low
        have hroom := hx.room
        have hgx := hx.good
        obtain ⟨c5, c3, c4⟩ := hx.cells
        clear hx
        obtain ⟨ai, ab, si, sb, side⟩ := x
        dsimp only at c5 c3 c4 HE hlow hroom
        obtain rfl := c5
        obtain rfl := c3
        obtain rfl := c4
        obtain ⟨_, _, _, _, _, ab0, ab1, ai0, ai1⟩ := hgx
        dsimp only at ab0 ab1 ai0 ai1
        subst hc3
        go_wp2
        go_region
        clear hwsi hwsb
        go_wp2_with fail
        refine with_boxes1d ?_
        intro X hX s
        have hsz := hk.size
        replace hk := hk.trans hX
        replace hrv := hrv.kept hX
        replace hown := hown.kept hX
        clear hX
        replace s_l := s.lt
        replace s_0 := s.at 0 _ rfl
        replace s_1 := s.at 1 _ rfl
        refine (placePlace_is _ k Z r (yy + e) side 3 si sb _ 0 _ hrv (by omega) HR.out).mono ?_
        rintro e w1 ⟨rfl, hn⟩
        replace hk := hk.trans hn
        replace hrv := hrv.kept hn
        replace hown := hown.kept hn
        replace s := s.kept hn
        clear hn
        replace s_l := s.lt
        replace s_0 := s.at 0 _ rfl
        replace s_1 := s.at 1 _ rfl
        go_wp2_with fail
        refine with_boxes1 ?_
        intro X hX a
        have hsz := hk.size
        replace hk := hk.trans hX
        replace hrv := hrv.kept hX
        replace hown := hown.kept hX
        replace s := s.kept hX
        clear hX
        replace s_l := s.lt
        replace s_0 := s.at 0 _ rfl
        replace s_1 := s.at 1 _ rfl
        replace a_l := a.lt
        replace a_0 := a.at 0 _ rfl
        replace a_1 := a.at 1 _ rfl
        replace a_2 := a.at 2 _ rfl
        replace a_3 := a.at 3 _ rfl
        replace a_4 := a.at 4 _ rfl
        refine (num_any _ _).mono ?_
        rintro e w1 ⟨rfl, rfl⟩
        go_wp2
        refine code_boxes1 ?_
        intro X hX x
        have hsz := hk.size
        replace hk := hk.trans hX
        replace hrv := hrv.kept hX
        replace hown := hown.kept hX
        replace s := s.kept hX
        replace a := a.kept hX
        clear hX
        replace s_l := s.lt
        replace s_0 := s.at 0 _ rfl
        replace s_1 := s.at 1 _ rfl
        replace a_l := a.lt
        replace a_0 := a.at 0 _ rfl
        replace a_1 := a.at 1 _ rfl
        replace a_2 := a.at 2 _ rfl
        replace a_3 := a.at 3 _ rfl
        replace a_4 := a.at 4 _ rfl
        replace x_l := x.lt
        replace x_0 := x.at 0 _ rfl
        replace x_1 := x.at 1 _ rfl
        replace x_2 := x.at 2 _ rfl
        replace x_3 := x.at 3 _ rfl
        obtain ⟨W0, hW0⟩ : ∃ W0 : World, W0 = X := ⟨_, rfl⟩
        subst hW0
        have H0 := Lib.hid (And.intro hk (And.intro s (And.intro a (And.intro x (And.intro hrv hown)))))
        clear hk s a x hrv hown s_0 s_1 s_l a_0 a_1 a_2 a_3 a_4 a_l x_0 x_1 x_2 x_3 x_l
        go_loopw [15, 16, 17] (fun i _ _ wx => ∃ j : Nat, j ≤ k ∧ i = .int .i64 j ∧ Kept W0 wx) (fun i _ _ _ => k - (intOf i).toNat)
        case atStart => exact ⟨0, Nat.zero_le _, rfl, Kept.refl _⟩
        case round =>
          obtain ⟨j, hjk, rfl, hk0⟩ := hrel
          obtain ⟨hk, s, a, x, hrv, hown⟩ := H0.out
          replace hk := hk.trans hk0
          replace s := s.kept hk0
          replace a := a.kept hk0
          replace x := x.kept hk0
          replace hrv := hrv.kept hk0
          replace hown := hown.kept hk0
          have s_0 := s.at 0 _ rfl
          have s_1 := s.at 1 _ rfl
          have s_l := s.lt
          have a_0 := a.at 0 _ rfl
          have a_1 := a.at 1 _ rfl
          have a_2 := a.at 2 _ rfl
          have a_3 := a.at 3 _ rfl
          have a_4 := a.at 4 _ rfl
          have a_l := a.lt
          have x_0 := x.at 0 _ rfl
          have x_1 := x.at 1 _ rfl
          have x_2 := x.at 2 _ rfl
          have x_3 := x.at 3 _ rfl
          have x_l := x.lt
          have hsz3 := hk.size
          clear s a x
          by_cases hlj : j < k
          · have hj1 : (j : Int) < (k : Int) := by omega
            clear hown
            obtain ⟨bb, oo, rfl, _, hw⟩ := hrv.row (by omega)
            have d0 : wr.cell? ⟨bb, oo + j * 5, none⟩ = some (.int .i64 (excOf Z j).ai) := hw j 0 hlj (by decide)
            have d1 : wr.cell? ⟨bb, oo + j * 5 + 1, none⟩ = some (.int .i64 (excOf Z j).ab) := hw j 1 hlj (by decide)
            have d2 : wr.cell? ⟨bb, oo + j * 5 + 2, none⟩ = some (.int .i64 (excOf Z j).si) := hw j 2 hlj (by decide)
            have d3 : wr.cell? ⟨bb, oo + j * 5 + 3, none⟩ = some (.int .i64 (excOf Z j).sb) := hw j 3 hlj (by decide)
            have hbb := World.block_lt_of_cell? wr _ d0
            obtain ⟨f1, f2, f3⟩ := HE.out j hlj
            obtain ⟨q0, q1, q2, q3, q4, q5, q6, q7, q8⟩ := hgood.out j hlj
            clear hw hrv q0 HE hgood HR HG hk
            have h1 := f2 (by first | exact trivial | rfl)
            clear f2
            generalize (excOf Z j).ai = e0 at *
            generalize (excOf Z j).ab = e1 at *
            generalize (excOf Z j).si = e2 at *
            generalize (excOf Z j).sb = e3 at *
            skip
            all_goals
              clear f3
              go_wp2
              go_roundw
              case rel => exact ⟨j + 1, by omega, by go_num, hk0.alloc _⟩
              case measure => simp [intOf]; omega
          · obtain rfl : j = k := by omega
            clear hrv HE HR
            rcases (by omega : si ≤ r ∨ r < si) with hsr | hsr
            · obtain ⟨f3, f4⟩ := hroom hsr
              clear hroom
              go_wp2_with (at_builtin; refine wpList_append_own _ rfl _ _ 37 rfl w.heap.size 43 i0 (.agg #[.int .i64 0, .int .i64 0, .int .i64 0, .int .i64 0, .int .i64 0]) 5 40 Try.underlying37 hi0 hz0 hz1 hz2 rfl (by decide) _ _ _ rfl (hown.own.alloc _) ⟨wr.heap.size, 0, none⟩ 1 1 [.int .i64 ai, .int .i64 ab, .int .i64 si, .int .i64 sb, .int .i64 side] rfl rfl (lit_cells wr #[.int .i64 ai, .int .i64 ab, .int .i64 si, .int .i64 sb, .int .i64 side] 43) (by simp [Value.oneCell']) (by unfold maxLen; omega) (by omega) (by simp; omega) ?_; intro v2 w2 hown2 hg2 _)
              go_roundw
              case rel => exact ⟨j + 1, _, yy + e, by omega, by omega, by go_num, rfl, by omega, Lib.hid (plus_good hgood.out HG.out), ⟨by rw [plus_flat]; exact hown2⟩, (hk.alloc _).grown hg2 (row_ge hown.own)⟩
              case measure => simp [intOf]; omega
            · clear hroom
              go_wp2_with (at_builtin; refine wpList_append_own _ rfl _ _ 37 rfl w.heap.size 43 i0 (.agg #[.int .i64 0, .int .i64 0, .int .i64 0, .int .i64 0, .int .i64 0]) 5 40 Try.underlying37 hi0 hz0 hz1 hz2 rfl (by decide) _ _ _ rfl (hown.own.alloc _) ⟨wr.heap.size, 0, none⟩ 1 1 [.int .i64 ai, .int .i64 ab, .int .i64 si, .int .i64 sb, .int .i64 side] rfl rfl (lit_cells wr #[.int .i64 ai, .int .i64 ab, .int .i64 si, .int .i64 sb, .int .i64 side] 43) (by simp [Value.oneCell']) (by unfold maxLen; omega) (by omega) (by simp; omega) ?_; intro v2 w2 hown2 hg2 _)
              go_roundw
              case rel => exact ⟨j + 1, _, yy + e, by omega, by omega, by go_num, rfl, by omega, Lib.hid (plus_good hgood.out HG.out), ⟨by rw [plus_flat]; exact hown2⟩, (hk.alloc _).grown hg2 (row_ge hown.own)⟩
              case measure => simp [intOf]; omega
      · skip
        obtain ⟨x, hx⟩ := rules_step hgood.out (by omega) hr2 (y := yy + e) (by omega) (side := side0) (by omega) (clear := 0) (.inl rfl) (si := si0) (by omega) (sb := sb0) (by omega)
        have HR := Lib.hid hx.is
        have HG := Lib.hid hx.good
        have HE := Lib.hid hx.each
        have hlow := hx.low
        have hroom := hx.room
        have hgx := hx.good
        obtain ⟨c5, c3, c4⟩ := hx.cells
        clear hx
        obtain ⟨ai, ab, si, sb, side⟩ := x
        dsimp only at c5 c3 c4 HE hlow hroom
        obtain rfl := c5
        obtain rfl := c3
        obtain rfl := c4
        obtain ⟨_, _, _, _, _, ab0, ab1, ai0, ai1⟩ := hgx
        dsimp only at ab0 ab1 ai0 ai1
        have hc3' : (cc == 30720) = false := by simpa using hc3
        clear hc3
        go_wp2
        go_region
        clear hwsi hwsb
        go_wp2_with fail
        refine with_boxes1d ?_
        intro X hX s
        have hsz := hk.size
        replace hk := hk.trans hX
        replace hrv := hrv.kept hX
        replace hown := hown.kept hX
        clear hX
        replace s_l := s.lt
        replace s_0 := s.at 0 _ rfl
        replace s_1 := s.at 1 _ rfl
        refine (placePlace_is _ k Z r (yy + e) side 0 si sb _ 0 _ hrv (by omega) HR.out).mono ?_
        rintro e w1 ⟨rfl, hn⟩
        replace hk := hk.trans hn
        replace hrv := hrv.kept hn
        replace hown := hown.kept hn
        replace s := s.kept hn
        clear hn
        replace s_l := s.lt
        replace s_0 := s.at 0 _ rfl
        replace s_1 := s.at 1 _ rfl
        go_wp2_with fail
        refine with_boxes1 ?_
        intro X hX a
        have hsz := hk.size
        replace hk := hk.trans hX
        replace hrv := hrv.kept hX
        replace hown := hown.kept hX
        replace s := s.kept hX
        clear hX
        replace s_l := s.lt
        replace s_0 := s.at 0 _ rfl
        replace s_1 := s.at 1 _ rfl
        replace a_l := a.lt
        replace a_0 := a.at 0 _ rfl
        replace a_1 := a.at 1 _ rfl
        replace a_2 := a.at 2 _ rfl
        replace a_3 := a.at 3 _ rfl
        replace a_4 := a.at 4 _ rfl
        refine (num_any _ _).mono ?_
        rintro e w1 ⟨rfl, rfl⟩
        go_wp2
        refine code_boxes1 ?_
        intro X hX x
        have hsz := hk.size
        replace hk := hk.trans hX
        replace hrv := hrv.kept hX
        replace hown := hown.kept hX
        replace s := s.kept hX
        replace a := a.kept hX
        clear hX
        replace s_l := s.lt
        replace s_0 := s.at 0 _ rfl
        replace s_1 := s.at 1 _ rfl
        replace a_l := a.lt
        replace a_0 := a.at 0 _ rfl
        replace a_1 := a.at 1 _ rfl
        replace a_2 := a.at 2 _ rfl
        replace a_3 := a.at 3 _ rfl
        replace a_4 := a.at 4 _ rfl
        replace x_l := x.lt
        replace x_0 := x.at 0 _ rfl
        replace x_1 := x.at 1 _ rfl
        replace x_2 := x.at 2 _ rfl
        replace x_3 := x.at 3 _ rfl
        obtain ⟨W0, hW0⟩ : ∃ W0 : World, W0 = X := ⟨_, rfl⟩
        subst hW0
        have H0 := Lib.hid (And.intro hk (And.intro s (And.intro a (And.intro x (And.intro hrv hown)))))
        clear hk s a x hrv hown s_0 s_1 s_l a_0 a_1 a_2 a_3 a_4 a_l x_0 x_1 x_2 x_3 x_l
        go_loopw [15, 16, 17] (fun i _ _ wx => ∃ j : Nat, j ≤ k ∧ i = .int .i64 j ∧ Kept W0 wx) (fun i _ _ _ => k - (intOf i).toNat)
        case atStart => exact ⟨0, Nat.zero_le _, rfl, Kept.refl _⟩
        case round =>
          obtain ⟨j, hjk, rfl, hk0⟩ := hrel
          obtain ⟨hk, s, a, x, hrv, hown⟩ := H0.out
          replace hk := hk.trans hk0
          replace s := s.kept hk0
          replace a := a.kept hk0
          replace x := x.kept hk0
          replace hrv := hrv.kept hk0
          replace hown := hown.kept hk0
          have s_0 := s.at 0 _ rfl
          have s_1 := s.at 1 _ rfl
          have s_l := s.lt
          have a_0 := a.at 0 _ rfl
          have a_1 := a.at 1 _ rfl
          have a_2 := a.at 2 _ rfl
          have a_3 := a.at 3 _ rfl
          have a_4 := a.at 4 _ rfl
          have a_l := a.lt
          have x_0 := x.at 0 _ rfl
          have x_1 := x.at 1 _ rfl
          have x_2 := x.at 2 _ rfl
          have x_3 := x.at 3 _ rfl
          have x_l := x.lt
          have hsz3 := hk.size
          clear s a x
          by_cases hlj : j < k
          · have hj1 : (j : Int) < (k : Int) := by omega
            clear hown
            obtain ⟨bb, oo, rfl, _, hw⟩ := hrv.row (by omega)
            have d0 : wr.cell? ⟨bb, oo + j * 5, none⟩ = some (.int .i64 (excOf Z j).ai) := hw j 0 hlj (by decide)
            have d1 : wr.cell? ⟨bb, oo + j * 5 + 1, none⟩ = some (.int .i64 (excOf Z j).ab) := hw j 1 hlj (by decide)
            have d2 : wr.cell? ⟨bb, oo + j * 5 + 2, none⟩ = some (.int .i64 (excOf Z j).si) := hw j 2 hlj (by decide)
            have d3 : wr.cell? ⟨bb, oo + j * 5 + 3, none⟩ = some (.int .i64 (excOf Z j).sb) := hw j 3 hlj (by decide)
            have hbb := World.block_lt_of_cell? wr _ d0
            obtain ⟨f1, f2, f3⟩ := HE.out j hlj
            obtain ⟨q0, q1, q2, q3, q4, q5, q6, q7, q8⟩ := hgood.out j hlj
            clear hw hrv q0 HE hgood HR HG hk
            clear f2
            generalize (excOf Z j).ai = e0 at *
            generalize (excOf Z j).ab = e1 at *
            generalize (excOf Z j).si = e2 at *
            generalize (excOf Z j).sb = e3 at *
            rcases (by omega : e1 + e3 ≤ ab ∨ (ab < e1 + e3 ∧ e0 + e2 ≤ ai) ∨ (ab < e1 + e3 ∧ ai < e0 + e2 ∧ ai + si ≤ e0)) with h1 | ⟨h1, h2⟩ | ⟨h1, h2, h3⟩
            all_goals
              clear f3
              go_wp2
              go_roundw
              case rel => exact ⟨j + 1, by omega, by go_num, hk0.alloc _⟩
              case measure => simp [intOf]; omega
          · obtain rfl : j = k := by omega
            clear hrv HE HR
            rcases (by omega : si ≤ r ∨ r < si) with hsr | hsr
            · obtain ⟨f3, f4⟩ := hroom hsr
              clear hroom
              go_wp2_with (at_builtin; refine wpList_append_own _ rfl _ _ 37 rfl w.heap.size 43 i0 (.agg #[.int .i64 0, .int .i64 0, .int .i64 0, .int .i64 0, .int .i64 0]) 5 40 Try.underlying37 hi0 hz0 hz1 hz2 rfl (by decide) _ _ _ rfl (hown.own.alloc _) ⟨wr.heap.size, 0, none⟩ 1 1 [.int .i64 ai, .int .i64 ab, .int .i64 si, .int .i64 sb, .int .i64 side] rfl rfl (lit_cells wr #[.int .i64 ai, .int .i64 ab, .int .i64 si, .int .i64 sb, .int .i64 side] 43) (by simp [Value.oneCell']) (by unfold maxLen; omega) (by omega) (by simp; omega) ?_; intro v2 w2 hown2 hg2 _)
              go_roundw
              case rel => exact ⟨j + 1, _, yy + e, by omega, by omega, by go_num, rfl, by omega, Lib.hid (plus_good hgood.out HG.out), ⟨by rw [plus_flat]; exact hown2⟩, (hk.alloc _).grown hg2 (row_ge hown.own)⟩
              case measure => simp [intOf]; omega
            · clear hroom
              go_wp2_with (at_builtin; refine wpList_append_own _ rfl _ _ 37 rfl w.heap.size 43 i0 (.agg #[.int .i64 0, .int .i64 0, .int .i64 0, .int .i64 0, .int .i64 0]) 5 40 Try.underlying37 hi0 hz0 hz1 hz2 rfl (by decide) _ _ _ rfl (hown.own.alloc _) ⟨wr.heap.size, 0, none⟩ 1 1 [.int .i64 ai, .int .i64 ab, .int .i64 si, .int .i64 sb, .int .i64 side] rfl rfl (lit_cells wr #[.int .i64 ai, .int .i64 ab, .int .i64 si, .int .i64 sb, .int .i64 side] 43) (by simp [Value.oneCell']) (by unfold maxLen; omega) (by omega) (by simp; omega) ?_; intro v2 w2 hown2 hg2 _)
              go_roundw
              case rel => exact ⟨j + 1, _, yy + e, by omega, by omega, by go_num, rfl, by omega, Lib.hid (plus_good hgood.out HG.out), ⟨by rw [plus_flat]; exact hown2⟩, (hk.alloc _).grown hg2 (row_ge hown.own)⟩
              case measure => simp [intOf]; omega
    · have hcase : n ≤ k ∨ k < n ∧ 14 ≤ k := by omega
      rcases hcase with hcn | ⟨hcn, hc14⟩
      all_goals
        go_wp2
        go_ret
        exact ⟨rfl, hk⟩
theorem placeRules_walk (v : Value) (n : Nat) (S : Nat → Int) (room : Int) (w : World) (hv : IV w v n S) (hn : n ≤ 17592186043904) :
    Calls Try.prog 4 #[v, .int .i64 room] w fun e w' => e = .returned (.bool true) ∧ Kept w w' := by
  obtain ⟨sl, cap, rfl⟩ := hv.shape
  obtain ⟨a, ha, a0, a1⟩ := masked room 10 1023 (by decide) (by decide)
  exact placeRules_main sl n cap S room (100 + a) (by rw [ha]) (by omega) w hv hn
end Go.Proofs.Ytkonpnaedniceaa
