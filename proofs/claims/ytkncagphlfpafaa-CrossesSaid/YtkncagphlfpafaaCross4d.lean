/- Layer 21: the document's rows; any numbers: every call; they stay. -/
import Derived.Test.YtkncagphlfpafaaCross4
import Derived.Deep.CutRange
namespace Go.Proofs.Ytkncagphlfpafaa
open Go.RowKit
set_option linter.unusedSimpArgs false
set_option linter.unusedVariables false
set_option maxRecDepth 20000 in
set_option maxHeartbeats 2000000 in
theorem refMain_single (room : Int) (b off n cap : Nat) (Z : Nat → Int) (w : World) (hz : IntsAt w b off n Z) (hp : 0 < n) (h2 : inB 0 4194304 room = true) (hn : n ≤ 32) (ha : allX Z n = true) (hcond : n ≤ 1) :
    Calls Try.prog 22 #[.int .i64 3, .int .i64 room, .slice (some ⟨b, off, none⟩) n cap] w fun e w' => ∃ u, e = .returned (.tuple #[u, .int .i64 0]) ∧ NewOnes 3 w w' u n (placeS 3 room n Z) ∧ Kept w w' := by
  obtain ⟨i0, hi, hz0, hz1, hz2⟩ := info_parts intInfo1
  have h1 : inB 0 3 3 = true := by decide
  have hr := inB_true.1 h2
  have HA := Lib.hid ha
  have HCO := Lib.hid hcond
  clear ha hcond
  have hk : Kept w w := Kept.refl w
  go_enter Try.func22, Try.ntmps22
  go_wp2_with fail
  refine (refUp11_any _ _ _).mono ?_
  rintro e w1 ⟨rfl, rfl⟩
  go_wp2_with fail
  refine (refRoom11_any _ _).mono ?_
  rintro e w1 ⟨rfl, rfl⟩
  go_wp2
  go_loop [8, 9] (fun l i => ∃ k : Nat, k ≤ n ∧ i = .int .i64 k ∧ l = .int .i64 (room - sumS Z k)) (fun _ i => n - (intOf i).toNat)
  case atStart => exact ⟨0, Nat.zero_le _, rfl, by simp [sumS]⟩
  case round =>
    obtain ⟨k, hkn, rfl, rfl⟩ := hrel
    have hb := sumS_bounds HA.out k hkn
    by_cases hlt : k < n
    · have c0 := hz k hlt
      have hx := allX_yes HA.out k hlt
      have e1 : sumS Z (k + 1) = sumS Z k + Z k := rfl
      replace e1 := Lib.hid e1
      generalize sumS Z k = p at *
      generalize Z k = x at *
      go_wp2
      go_round
      case rel => exact ⟨k + 1, by omega, by go_num, by rw [e1.out]; congr 1; omega⟩
      case measure => simp [intOf]; omega
    · obtain rfl : k = n := by omega
      have hL := left_bounds HA.out hn hr
      have hLe : leftZ room Z k = max 0 (room - sumS Z k) := rfl
      obtain ⟨L, hLL⟩ : ∃ L, leftZ room Z k = L := ⟨_, rfl⟩
      rw [hLL] at hL hLe
      have HPL := Lib.hid (show ∀ i, placeS 3 room k Z i = sumS Z i + aheadS 3 L i k from fun i => by unfold placeS; rw [hLL])
      clear hLL
      generalize sumS Z k = S at *
      obtain ⟨D, hD⟩ : ∃ D, room - S = D := ⟨_, rfl⟩
      rw [hD] at hLe
      have hDb : -200000000 ≤ D ∧ D ≤ 200000000 := by omega
      have hLc : 0 < D ∧ L = D ∨ D = 0 ∧ L = 0 ∨ D < 0 ∧ L = 0 := by omega
      clear hLe hb
      have HZ := Lib.hid hz
      have HLC := Lib.hid hLc
      clear hLc

      go_upto_region 10 with fail
      go_cut [8] from 52 to 53 (fun l wx => l = .int .i64 L ∧ w = wx)
      case first =>
        rcases HLC.out with ⟨h5, h6⟩ | ⟨h5, h6⟩ | ⟨h5, h6⟩
        all_goals
          have H6 := Lib.hid h6
          clear h6
          go_wp2_with fail
          go_meet
          exact ⟨by have := H6.out; congr 1; omega, rfl⟩
      case rest =>
        obtain ⟨rfl, hwc⟩ := hcut
        subst hwc
        clear hD hDb
        go_wp2
        go_loopw [10, 11, 12, 13] (fun a v i _ wx => ∃ j : Nat, j ≤ k ∧ i = .int .i64 j ∧ a = .int .i64 (sumS Z j) ∧ Kept w wx ∧ wx.ownsRow w.heap.size 3 1 v j (ones (placeS 3 room k Z) j)) (fun _ _ i _ _ => k - (intOf i).toNat)
        case atStart => exact ⟨0, Nat.zero_le _, rfl, by simp [sumS], hk, World.ownsRow_nil _ _ _ _⟩
        case round =>
          clear hk
          obtain ⟨j, hj, rfl, rfl, hk, hown⟩ := hrel
          have hsz := hk.size
          have hbs := sumS_bounds HA.out j hj
          by_cases hjk : j < k
          · have c0 := (HZ.out.kept hk) j hjk
            have CX := Lib.hid (fun wx (hx : Kept w wx) => (HZ.out.kept hx) j hjk)
            have hx := allX_yes HA.out j hjk
            have e1 : sumS Z (j + 1) = sumS Z j + Z j := rfl
            have HPJ := HPL.out j
            have hk1 : k ≤ 1 := HCO.out
            have h8 : ¬ (1 : Int) < (k : Int) := by omega
            replace HPJ : placeS 3 room k Z j = sumS Z j := by rw [HPJ, show aheadS 3 L j k = 0 from by unfold aheadS; simp; omega]; omega
            have e2 : ones (placeS 3 room k Z) (j + 1) = ones (placeS 3 room k Z) j ++ [.int .i64 (placeS 3 room k Z j)] := rfl
            rw [HPJ] at e2
            replace e1 := Lib.hid e1
            replace e2 := Lib.hid e2
            clear HPJ
            generalize sumS Z j = p at *
            generalize Z j = x at *
            go_wp2_with (at_builtin; refine wpList_append_own _ rfl _ _ 22 rfl w.heap.size 3 i0 (.int .i64 0) 1 8 Try.underlying22 hi hz0 hz1 hz2 rfl (by decide) _ _ _ rfl (hown.alloc _) ⟨wr.heap.size, 0, none⟩ 1 1 [.int .i64 (p)] rfl rfl (lit_cells wr #[.int .i64 (p)] 3) (by simp [Value.oneCell']) (by unfold maxLen; omega) (by omega) (by simp; omega) ?_; intro v2 w2 hown2 hg2 _; have c2 := CX.out w2 ((hk.alloc _).grown hg2 (row_ge hown)))
            exact ⟨⟨j + 1, by omega, by go_num, by first | (rw [e1.out]; done) | (rw [e1.out]; congr 1; omega), (hk.alloc _).grown hg2 (row_ge hown), by rw [e2.out]; exact hown2⟩, by simp [intOf]; omega⟩
          · obtain rfl : k = j := by omega
            go_wp2
            go_ret2
            exact ⟨_, rfl, newOnes_of hown, hk⟩
end Go.Proofs.Ytkncagphlfpafaa
