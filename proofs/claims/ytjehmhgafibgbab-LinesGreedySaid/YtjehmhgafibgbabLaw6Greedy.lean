/- Layer 6: lines take all words in their row, as many as fit. -/
import Derived.Test.YtjehmhgafibgbabAwake6
import Derived.Test.YtjehmhgafibgbabMask
import Derived.Deep.QuietTactic
import Derived.BigQuiet
namespace Go.Proofs.Ytjehmhgafibgbab
open Go.RowKit
set_option linter.unusedSimpArgs false
set_option linter.unusedVariables false
theorem lineN_pos {A : Nat → Int} {n : Nat} {r : Int} (h : 0 < n) : 0 < lineN A n r := by
  rcases Nat.eq_zero_or_pos (lineN A n r) with h0 | h0
  · have := lineN_at A n r
    rw [h0] at this
    have : (0 : Nat) = n := this
    omega
  · exact h0
theorem break_main (v : Value) (n : Nat) (S : Nat → ByteArray) (A G : Nat → Int) (w : World) (h : WV w v n S A G) (room : Int) (h1 : mayW n A = true) (h2 : mayB room = true) (hn : 0 < n) :
    Calls Try.prog 8 #[v, .int .i64 room] w fun e w' => ∃ g cp, e = .returned (.tuple #[.slice (some ⟨g, 0, none⟩) (lineN A n room) cp, .int .i64 0]) ∧ ThreeAt w' g (lineN A n room) (lf A n room) (lt A n room) (lw A n room) ∧ Kept w w' :=
  (linesBreak_good v n S A G w h room h1 h2).mono fun e w' ⟨u, he, hu, hk⟩ => by
    rcases hu with ⟨h0, _⟩ | ⟨g, cp, cur, hv, h3, h4, h5, h6, h7, h8, h9⟩
    · have := lineN_pos (A := A) (r := room) hn; omega
    · exact ⟨g, cp, by rw [he, hv], threeAt_of h7 h9, hk⟩
theorem linesGreedy_no (v : Value) (n : Nat) (S : Nat → ByteArray) (A G : Nat → Int) (room : Int) (w : World) (hv : WV w v n S A G) (h1 : mayW n A = false) :
    Calls Try.prog 3 #[v, .int .i64 room] w fun e w' => e = .returned (.bool true) ∧ Kept w w' := by
  have hk : Kept w w := Kept.refl w
  go_enter Try.func3, Try.ntmps3
  go_wp2_with fail
  refine (awake6_any _).mono ?_
  rintro e w1 ⟨rfl, hn⟩
  replace hk := hk.trans hn
  clear hn
  go_wp2_with fail
  refine (linesBreak_wrong _ n S A G _ (hv.kept hk) _ (.inl h1)).mono ?_
  rintro e w1 ⟨rfl, hn⟩
  replace hk := hk.trans hn
  clear hn
  go_wp2_with fail
  refine (num_any _ _).mono ?_
  rintro e w1 ⟨rfl, rfl⟩
  go_wp2_with fail
  refine (linesMay_any _ n S A G _ (hv.kept hk)).mono ?_
  rintro e w1 ⟨rfl, hn⟩
  replace hk := hk.trans hn
  clear hn
  go_wp2
  go_ret
  exact ⟨rfl, hk⟩
theorem break_none (o : Option Addr) (cap : Nat) (room : Int) (h2 : mayB room = true) (w : World) :
    Calls Try.prog 8 #[.slice o 0 cap, .int .i64 room] w fun e w' => ∃ sl cp, e = .returned (.tuple #[.slice sl 0 cp, .int .i64 0]) ∧ Kept w w' :=
  (linesBreak_good _ 0 S0 G0 G0 w (.inl ⟨rfl, o, cap, rfl⟩) room rfl h2).mono fun e w' ⟨u, he, hu, hk⟩ => by
    rcases hu with ⟨h0, o, cp, hv, _⟩ | ⟨g, cp, cur, hv, h3, _⟩
    · exact ⟨o, cp, by rw [he, hv], hk⟩
    · have := lineN_le G0 0 room; omega
theorem linesGreedy_none (o : Option Addr) (cap : Nat) (room : Int) (w : World) :
    Calls Try.prog 3 #[.slice o 0 cap, .int .i64 room] w fun e w' => e = .returned (.bool true) ∧ Kept w w' := by
  obtain ⟨r, hr, r1, r2⟩ := masked room 14 16383 (by decide) (by decide)
  have hrm : mayB r = true := mayB_true.2 ⟨by omega, by omega⟩
  have HB := Lib.hid (fun wx => break_none o cap r hrm wx)
  clear hrm
  have hk : Kept w w := Kept.refl w
  go_enter Try.func3, Try.ntmps3
  go_wp2_with fail
  refine (awake6_any _).mono ?_
  rintro e w1 ⟨rfl, hn⟩
  replace hk := hk.trans hn
  clear hn
  go_wp2_with fail
  refine (HB.out _).mono ?_
  rintro e w1 ⟨sl, cp, rfl, hn⟩
  replace hk := hk.trans hn
  clear hn
  go_wp2_with fail
  refine (num_any _ _).mono ?_
  rintro e w1 ⟨rfl, rfl⟩
  go_wp2
  refine wp_loop_rounds 1 ?_
  rw [rounds_succ]
  go_wp2
  go_ret
  exact ⟨rfl, hk⟩
set_option maxRecDepth 20000 in
set_option maxHeartbeats 4000000 in
theorem linesGreedy_some (b off n cap : Nat) (S : Nat → ByteArray) (A G : Nat → Int) (room : Int) (w : World) (hw : WordsAt w b off n S A G) (hn0 : 0 < n) (hcap : n ≤ cap) (h1 : mayW n A = true) :
    Calls Try.prog 3 #[.slice (some ⟨b, off, none⟩) n cap, .int .i64 room] w fun e w' => e = .returned (.bool true) ∧ Kept w w' := by
  have h8 : n ≤ 80 := (mayW_true.1 h1).1
  have HA := Lib.hid (mayW_true.1 h1).2
  obtain ⟨r, hr, r1, r2⟩ := masked room 14 16383 (by decide) (by decide)
  have hrm : mayB r = true := mayB_true.2 ⟨by omega, by omega⟩
  have HB := Lib.hid (fun wx (hx : Kept w wx) => break_main _ n S A G wx (.inr ⟨b, off, cap, rfl, hn0, hcap, hw.kept hx⟩) r h1 hrm hn0)
  have hmn := lineN_le A n r
  clear hrm h1
  obtain ⟨m, hm⟩ : ∃ m, lineN A n r = m := ⟨_, rfl⟩
  rw [hm] at HB hmn
  have HM := Lib.hid hm
  clear hm
  have hk : Kept w w := Kept.refl w
  go_enter Try.func3, Try.ntmps3
  go_wp2_with fail
  refine (awake6_any _).mono ?_
  rintro e w1 ⟨rfl, hn⟩
  replace hk := hk.trans hn
  clear hn
  go_wp2_with fail
  refine (HB.out _ hk).mono ?_
  rintro e w1 ⟨g, cp, rfl, t3, hn⟩
  replace hk := hk.trans hn
  clear hn
  go_wp2_with fail
  refine (num_any _ _).mono ?_
  rintro e w1 ⟨rfl, rfl⟩
  go_wp2
  go_loopw [8, 9, 10, 11, 12] (fun at_ i _ _ _ wx => ∃ k : Nat, k ≤ m ∧ i = .int .i64 k ∧ at_ = .int .i64 (lineAt A n r k) ∧ Kept w wx ∧ ThreeAt wx g m (lf A n r) (lt A n r) (lw A n r)) (fun _ i _ _ _ _ => m - (intOf i).toNat)
  case atStart => exact ⟨0, Nat.zero_le _, rfl, rfl, hk, t3⟩
  case round =>
    clear hk t3
    obtain ⟨k, hkm, rfl, rfl, hk, t3⟩ := hrel
    by_cases hlt : k < m
    · have hL : lineAt A n r k < n := lineN_lt A n r k (by rw [HM.out]; exact hlt)
      have hnx := lineAt_next hL
      have hK := kS_is A r hL
      have hKn := hK.le
      have hD : lineW A n r k = wid A (lineAt A n r k) (kS A n r (lineAt A n r k)) := rfl
      have c0 : wr.cell? ⟨g, k * 3, none⟩ = some (.int .i64 (lineAt A n r k)) := t3.c0 k hlt
      have c1 : wr.cell? ⟨g, k * 3 + 1, none⟩ = some (.int .i64 (lineAt A n r (k + 1))) := t3.c1 k hlt
      have c2 : wr.cell? ⟨g, k * 3 + 2, none⟩ = some (.int .i64 (lineW A n r k)) := t3.c2 k hlt
      generalize kS A n r (lineAt A n r k) = K at *
      generalize lineW A n r k = D at *
      obtain ⟨T, hT⟩ : ∃ T, lineAt A n r (k + 1) = T := ⟨_, rfl⟩
      rw [hT] at hnx c1
      replace hT := Lib.hid hT
      generalize lineAt A n r k = F at *
      subst hD
      have ca := (hw.kept hk).adv F hL
      have bl := (hw.kept hk).lt hn0
      replace hnx : F + K + 1 = T := hnx.symm
      have hfirst : wid A F 0 = A F := rfl
      go_wp2_with fail
      refine code_boxes1 ?_
      intro X hX x
      have hsz := hk.size
      replace hk := hk.trans hX
      replace t3 := t3.kept hX
      clear hX
      replace x_l := x.lt
      replace x_0 := x.at 0 _ rfl
      replace x_1 := x.at 1 _ rfl
      replace x_2 := x.at 2 _ rfl
      have hw' := Lib.hid (hw.kept hk)
      clear ca c0 c1 c2 hfirst
      go_loop [11, 12] (fun sm jj => ∃ d q : Nat, F + d + 1 = q ∧ d ≤ K ∧ sm = .int .i64 (wid A F d) ∧ jj = .int .i64 q) (fun _ jj => n + 1 - (intOf jj).toNat)
      case atStart => exact ⟨0, F + 1, rfl, Nat.zero_le _, rfl, by go_num⟩
      case round =>
        obtain ⟨d, q, hq, hdK, rfl, rfl⟩ := hrel
        by_cases hdk : d < K
        · have cq := hw'.out.adv q (by omega)
          have hs : wid A F (d + 1) = wid A F d + 256 + A q := by rw [← hq]; rfl
          have b1 := wid_bounds HA.out d (f := F) (by omega)
          have b2 := allB_yes HA.out q (by omega)
          replace hs := Lib.hid hs
          generalize wid A F d = p at *
          generalize A q = y at *
          go_wp2
          go_round
          case rel => exact ⟨d + 1, q + 1, by omega, by omega, by rw [hs.out], by go_num⟩
          case measure => simp [intOf]; omega
        · obtain rfl : d = K := by omega
          obtain rfl : q = T := by omega
          have b1 := wid_bounds HA.out d (f := F) (by omega)
          by_cases hTn : q < n
          · have cT := hw'.out.adv q hTn
            have hst : r < wid A F d + 256 + A q := by
              have := hK.stop (by omega)
              rw [show wid A F (d + 1) = wid A F d + 256 + A (F + d + 1) from rfl, hq] at this
              exact this
            have b2 := allB_yes HA.out q hTn
            generalize A q = y at *
            by_cases hK0 : d = 0
            · subst hK0
              generalize wid A F 0 = p at *
              have hgt : (q : Int) = (F : Int) + 1 := by omega
              obtain rfl : q = F + 1 := by omega
              clear hK hnx hKn hq hdK hdk hgt
              go_wp2
              go_roundw
              case rel => exact ⟨k + 1, by omega, by go_num, by first | (rw [hT.out]; done) | (rw [hT.out]; go_num), hk, t3⟩
              case measure => simp [intOf]; omega
            · have hft : wid A F d ≤ r := by
                have := hK.fits (d - 1) (by omega)
                rwa [show d - 1 + 1 = d by omega] at this
              generalize wid A F d = p at *
              have hgt : (F : Int) + 1 < (q : Int) := by omega
              clear hK hnx hKn hq hK0 hdK hdk
              go_wp2
              go_roundw
              case rel => exact ⟨k + 1, by omega, by go_num, by first | (rw [hT.out]; done) | (rw [hT.out]; go_num), hk, t3⟩
              case measure => simp [intOf]; omega
          · obtain rfl : q = n := by omega
            by_cases hK0 : d = 0
            · subst hK0
              generalize wid A F 0 = p at *
              obtain rfl : q = F + 1 := by omega
              clear hK hnx hKn hq hdK hdk
              go_wp2
              go_roundw
              case rel => exact ⟨k + 1, by omega, by go_num, by first | (rw [hT.out]; done) | (rw [hT.out]; go_num), hk, t3⟩
              case measure => simp [intOf]; omega
            · have hft : wid A F d ≤ r := by
                have := hK.fits (d - 1) (by omega)
                rwa [show d - 1 + 1 = d by omega] at this
              generalize wid A F d = p at *
              have hgt : (F : Int) + 1 < (q : Int) := by omega
              clear hK hnx hKn hq hK0 hdK hdk
              go_wp2
              go_roundw
              case rel => exact ⟨k + 1, by omega, by go_num, by first | (rw [hT.out]; done) | (rw [hT.out]; go_num), hk, t3⟩
              case measure => simp [intOf]; omega
    · obtain rfl : k = m := by omega
      have hend := lineN_at A n r
      rw [HM.out] at hend
      go_wp2
      go_ret
      exact ⟨rfl, hk⟩
theorem linesGreedy_walk (v : Value) (n : Nat) (S : Nat → ByteArray) (A G : Nat → Int) (room : Int) (w : World) (hv : WV w v n S A G) (_hf : Fair n S A G) (_hn : n ≤ 4398046511103) :
    Calls Try.prog 3 #[v, .int .i64 room] w fun e w' => e = .returned (.bool true) ∧ Kept w w' := by
  cases h1 : mayW n A with
  | false => exact linesGreedy_no v n S A G room w hv h1
  | true =>
    rcases hv with ⟨rfl, o, cap, rfl⟩ | ⟨b, off, cap, rfl, h2, h3, hw⟩
    · exact linesGreedy_none o cap room w
    · exact linesGreedy_some b off n cap S A G room w hw h2 h3 h1
end Go.Proofs.Ytjehmhgafibgbab
