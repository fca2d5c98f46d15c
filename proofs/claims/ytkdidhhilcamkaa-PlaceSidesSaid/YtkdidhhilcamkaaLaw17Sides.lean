/- Layer 17: floats of one side stand beside one another as long as they fit, then below. -/
import Derived.Test.YtkdidhhilcamkaaSides
import Derived.Test.YtkdidhhilcamkaaMask
import Derived.Test.YtkdidhhilcamkaaStore
import Derived.RegionTactic
import Derived.BigRegion
namespace Go.Proofs.Ytkdidhhilcamkaa
open Go.RowKit Go.Deep
set_option linter.unusedSimpArgs false
set_option linter.unusedVariables false
set_option maxRecDepth 20000 in
set_option maxHeartbeats 8000000 in
theorem placeSides_main (width many g : Int) (F M : Nat) (hg : 1 + bits .and .i64 width 127 = g) (hf : Fit g F) (hFe : 400 / g = (F : Int)) (hF4 : F ≤ 400) (hM : 1 + bits .and .i64 many 15 = (M : Int)) (hM16 : M ≤ 16) (en : Bool) (side : Int) (hside : side = if en = true then 2 else 1) (w : World) :
    Calls Try.prog 6 #[.int .i64 width, .int .i64 many, .bool en] w fun e w' => e = .returned (.bool true) ∧ Kept w w' := by
  obtain ⟨i0, hi0, hz0, hz1, hz2⟩ := info_parts exclusionsInfo
  have hs12 : side = 1 ∨ side = 2 := by rw [hside]; split <;> simp
  have HS := Lib.hid (fun j (hj : j ≤ 32) => sides_step hf hs12 hj)
  have HI := Lib.hid (fun r (hr : r < F) => hf.rest hr)
  have hF0 : 0 < F := by have := hf.three; omega
  obtain ⟨g1, g2, _, _, _⟩ := hf
  clear hs12
  rcases (by cases en; exact .inl ⟨rfl, hside⟩; exact .inr ⟨rfl, hside⟩ : (en = false ∧ side = 1) ∨ (en = true ∧ side = 2)) with ⟨rfl, rfl⟩ | ⟨rfl, rfl⟩
  · skip
    clear hside
    have hk : Kept w w := Kept.refl w
    go_enter Try.func6, Try.ntmps6
    go_wp2_with fail
    refine (awake17_any _).mono ?_
    rintro e w1 ⟨rfl, hn⟩
    replace hk := hk.trans hn
    clear hn
    go_wp2
    simp only [hFe]
    go_loopw [10, 11, 12, 13, 14] (fun v i _ _ _ wx => ∃ j : Nat, j ≤ M ∧ i = .int .i64 j ∧ OR wx w.heap.size 29 5 v j (flat 5 (intC (sideZ g F 1)) j) ∧ Kept w wx) (fun _ i _ _ _ _ => M - (intOf i).toNat)
    case atStart => exact ⟨0, Nat.zero_le _, rfl, ⟨World.ownsRow_nil _ _ _ _⟩, hk⟩
    case round =>
      clear hk
      obtain ⟨j, hj, rfl, hown, hk⟩ := hrel
      by_cases hlt : j < M
      · have hi1 : (j : Int) < (M : Int) := by omega
        have hst := HS.out j (by omega)
        have hrv := (newRow_of hown.own).rv
        have HP := Lib.hid (fun wx u (hx : RV 5 wx u j (intC (sideZ g F 1))) => placePlace_is u j (sideZ g F 1) 400 0 1 0 g 10 _ 0 wx hx (by omega) hst)
        have hx : excOf (sideZ g F 1) j = ⟨sideI g F 1 j, 10 * ((j / F : Nat) : Int), g, 10, 1⟩ := rfl
        rw [hx] at HP
        clear hst hx
        obtain ⟨r, hr⟩ : ∃ r, sideI g F 1 j = r := ⟨_, rfl⟩
        rw [hr] at HP
        have hri : g * ((j % F : Nat) : Int) = r := by rw [← hr]; rfl
        have Hr := Lib.hid hr
        clear hr
        have hq : (j : Int) / (F : Int) = ((j / F : Nat) : Int) := (Int.natCast_ediv j F).symm
        have hm : (j : Int) % (F : Int) = ((j % F : Nat) : Int) := (Int.natCast_emod j F).symm
        have hmr := HI.out (j % F) (Nat.mod_lt _ hF0)
        have hmlt : j % F ≤ j := Nat.mod_le _ _
        have hqle : j / F ≤ j := Nat.div_le_self _ _
        generalize j % F = m at *
        obtain ⟨q, hqe⟩ : ∃ q, j / F = q := ⟨_, rfl⟩
        rw [hqe] at hq hqle HP
        have HQ := Lib.hid hqe
        clear hqe
        go_wp2_with fail
        refine (HP.out _ _ hrv).mono ?_
        rintro e w1 ⟨rfl, hn⟩
        replace hk := hk.trans hn
        replace hrv := hrv.kept hn
        replace hown := hown.kept hn
        clear hn
        go_wp2_with fail
        refine code_boxes1 ?_
        intro X hX a
        have hsz := hk.size
        replace hk := hk.trans hX
        replace hrv := hrv.kept hX
        replace hown := hown.kept hX
        clear hX
        replace a_l := a.lt
        replace a_0 := a.at 0 _ rfl
        replace a_1 := a.at 1 _ rfl
        replace a_2 := a.at 2 _ rfl
        replace a_3 := a.at 3 _ rfl
        replace a_4 := a.at 4 _ rfl
        clear HP hrv
        go_region
        clear hq hm
        have hsz2 := hk.size
        go_wp2_with fail
        refine with_boxes1d ?_
        intro X hX t
        have hsz := hk.size
        replace hk := hk.trans hX
        replace hown := hown.kept hX
        replace a := a.kept hX
        clear hX
        replace a_l := a.lt
        replace a_0 := a.at 0 _ rfl
        replace a_1 := a.at 1 _ rfl
        replace a_2 := a.at 2 _ rfl
        replace a_3 := a.at 3 _ rfl
        replace a_4 := a.at 4 _ rfl
        replace t_l := t.lt
        replace t_0 := t.at 0 _ rfl
        replace t_1 := t.at 1 _ rfl
        refine (num_any _ _).mono ?_
        rintro e w1 ⟨rfl, rfl⟩
        have e2 : flat 5 (intC (sideZ g F 1)) (j + 1) = flat 5 (intC (sideZ g F 1)) j ++ [.int .i64 r, .int .i64 (10 * (q : Int)), .int .i64 g, .int .i64 10, .int .i64 1] := by
          have : flat 5 (intC (sideZ g F 1)) (j + 1) = flat 5 (intC (sideZ g F 1)) j ++ [.int .i64 (sideI g F 1 j), .int .i64 (10 * ((j / F : Nat) : Int)), .int .i64 g, .int .i64 10, .int .i64 1] := rfl
          rw [this, Hr.out, HQ.out]
        replace e2 := Lib.hid e2
        clear Hr HQ
        go_wp2_with (at_builtin; refine wpList_append_own _ rfl _ _ 22 rfl w.heap.size 29 i0 (.agg #[.int .i64 0, .int .i64 0, .int .i64 0, .int .i64 0, .int .i64 0]) 5 40 Try.underlying22 hi0 hz0 hz1 hz2 rfl (by decide) _ _ _ rfl (hown.own.alloc _) ⟨X.heap.size, 0, none⟩ 1 1 [.int .i64 r, .int .i64 (10 * (q : Int)), .int .i64 g, .int .i64 10, .int .i64 1] rfl rfl (lit_cells X #[.int .i64 r, .int .i64 (10 * (q : Int)), .int .i64 g, .int .i64 10, .int .i64 1] 29) (by simp [Value.oneCell']) (by unfold maxLen; omega) (by omega) (by simp; omega) ?_; intro v2 w2 hown2 hg2 _)
        go_roundw
        case rel => exact ⟨j + 1, by omega, by go_num, ⟨by rw [e2.out]; exact hown2⟩, (hk.alloc _).grown hg2 (row_ge hown.own)⟩
        case measure => simp [intOf]; omega
      · obtain rfl : j = M := by omega
        go_wp2
        go_ret
        exact ⟨rfl, hk⟩
  · skip
    clear hside
    have hk : Kept w w := Kept.refl w
    go_enter Try.func6, Try.ntmps6
    go_wp2_with fail
    refine (awake17_any _).mono ?_
    rintro e w1 ⟨rfl, hn⟩
    replace hk := hk.trans hn
    clear hn
    go_wp2
    simp only [hFe]
    go_loopw [10, 11, 12, 13, 14] (fun v i _ _ _ wx => ∃ j : Nat, j ≤ M ∧ i = .int .i64 j ∧ OR wx w.heap.size 29 5 v j (flat 5 (intC (sideZ g F 2)) j) ∧ Kept w wx) (fun _ i _ _ _ _ => M - (intOf i).toNat)
    case atStart => exact ⟨0, Nat.zero_le _, rfl, ⟨World.ownsRow_nil _ _ _ _⟩, hk⟩
    case round =>
      clear hk
      obtain ⟨j, hj, rfl, hown, hk⟩ := hrel
      by_cases hlt : j < M
      · have hi1 : (j : Int) < (M : Int) := by omega
        have hst := HS.out j (by omega)
        have hrv := (newRow_of hown.own).rv
        have HP := Lib.hid (fun wx u (hx : RV 5 wx u j (intC (sideZ g F 2))) => placePlace_is u j (sideZ g F 2) 400 0 2 0 g 10 _ 0 wx hx (by omega) hst)
        have hx : excOf (sideZ g F 2) j = ⟨sideI g F 2 j, 10 * ((j / F : Nat) : Int), g, 10, 2⟩ := rfl
        rw [hx] at HP
        clear hst hx
        obtain ⟨r, hr⟩ : ∃ r, sideI g F 2 j = r := ⟨_, rfl⟩
        rw [hr] at HP
        have hri : 400 - g - g * ((j % F : Nat) : Int) = r := by rw [← hr]; rfl
        have Hr := Lib.hid hr
        clear hr
        have hq : (j : Int) / (F : Int) = ((j / F : Nat) : Int) := (Int.natCast_ediv j F).symm
        have hm : (j : Int) % (F : Int) = ((j % F : Nat) : Int) := (Int.natCast_emod j F).symm
        have hmr := HI.out (j % F) (Nat.mod_lt _ hF0)
        have hmlt : j % F ≤ j := Nat.mod_le _ _
        have hqle : j / F ≤ j := Nat.div_le_self _ _
        generalize j % F = m at *
        obtain ⟨q, hqe⟩ : ∃ q, j / F = q := ⟨_, rfl⟩
        rw [hqe] at hq hqle HP
        have HQ := Lib.hid hqe
        clear hqe
        go_wp2_with fail
        refine (HP.out _ _ hrv).mono ?_
        rintro e w1 ⟨rfl, hn⟩
        replace hk := hk.trans hn
        replace hrv := hrv.kept hn
        replace hown := hown.kept hn
        clear hn
        go_wp2_with fail
        refine code_boxes1 ?_
        intro X hX a
        have hsz := hk.size
        replace hk := hk.trans hX
        replace hrv := hrv.kept hX
        replace hown := hown.kept hX
        clear hX
        replace a_l := a.lt
        replace a_0 := a.at 0 _ rfl
        replace a_1 := a.at 1 _ rfl
        replace a_2 := a.at 2 _ rfl
        replace a_3 := a.at 3 _ rfl
        replace a_4 := a.at 4 _ rfl
        clear HP hrv
        go_region
        clear hq hm
        have hsz2 := hk.size
        go_wp2_with fail
        refine with_boxes1d ?_
        intro X hX t
        have hsz := hk.size
        replace hk := hk.trans hX
        replace hown := hown.kept hX
        replace a := a.kept hX
        clear hX
        replace a_l := a.lt
        replace a_0 := a.at 0 _ rfl
        replace a_1 := a.at 1 _ rfl
        replace a_2 := a.at 2 _ rfl
        replace a_3 := a.at 3 _ rfl
        replace a_4 := a.at 4 _ rfl
        replace t_l := t.lt
        replace t_0 := t.at 0 _ rfl
        replace t_1 := t.at 1 _ rfl
        refine (num_any _ _).mono ?_
        rintro e w1 ⟨rfl, rfl⟩
        have e2 : flat 5 (intC (sideZ g F 2)) (j + 1) = flat 5 (intC (sideZ g F 2)) j ++ [.int .i64 r, .int .i64 (10 * (q : Int)), .int .i64 g, .int .i64 10, .int .i64 2] := by
          have : flat 5 (intC (sideZ g F 2)) (j + 1) = flat 5 (intC (sideZ g F 2)) j ++ [.int .i64 (sideI g F 2 j), .int .i64 (10 * ((j / F : Nat) : Int)), .int .i64 g, .int .i64 10, .int .i64 2] := rfl
          rw [this, Hr.out, HQ.out]
        replace e2 := Lib.hid e2
        clear Hr HQ
        go_wp2_with (at_builtin; refine wpList_append_own _ rfl _ _ 22 rfl w.heap.size 29 i0 (.agg #[.int .i64 0, .int .i64 0, .int .i64 0, .int .i64 0, .int .i64 0]) 5 40 Try.underlying22 hi0 hz0 hz1 hz2 rfl (by decide) _ _ _ rfl (hown.own.alloc _) ⟨X.heap.size, 0, none⟩ 1 1 [.int .i64 r, .int .i64 (10 * (q : Int)), .int .i64 g, .int .i64 10, .int .i64 2] rfl rfl (lit_cells X #[.int .i64 r, .int .i64 (10 * (q : Int)), .int .i64 g, .int .i64 10, .int .i64 2] 29) (by simp [Value.oneCell']) (by unfold maxLen; omega) (by omega) (by simp; omega) ?_; intro v2 w2 hown2 hg2 _)
        go_roundw
        case rel => exact ⟨j + 1, by omega, by go_num, ⟨by rw [e2.out]; exact hown2⟩, (hk.alloc _).grown hg2 (row_ge hown.own)⟩
        case measure => simp [intOf]; omega
      · obtain rfl : j = M := by omega
        go_wp2
        go_ret
        exact ⟨rfl, hk⟩
theorem placeSides_walk (width many : Int) (en : Bool) (w : World) :
    Calls Try.prog 6 #[.int .i64 width, .int .i64 many, .bool en] w fun e w' => e = .returned (.bool true) ∧ Kept w w' := by
  obtain ⟨a, ha, a0, a1⟩ := masked width 7 127 (by decide) (by decide)
  obtain ⟨b, hb, b0, b1⟩ := masked many 4 15 (by decide) (by decide)
  obtain ⟨F, hF⟩ := Int.eq_ofNat_of_zero_le (show 0 ≤ 400 / (1 + a) from Int.ediv_nonneg (by omega) (by omega))
  have hF4 : 400 / (1 + a) ≤ 400 := Int.ediv_le_self _ (by omega)
  exact placeSides_main width many (1 + a) F (1 + b).toNat (by rw [ha]) (fit_of (by omega) (by omega) F hF) hF (by omega) (by rw [hb]; omega) (by omega) en _ rfl w
end Go.Proofs.Ytkdidhhilcamkaa
