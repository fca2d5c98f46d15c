/- Layer 6: with more room there are no more lines. -/
import Derived.Test.YtjehmhgafibgbabAwake6
import Derived.Test.YtjehmhgafibgbabMask
namespace Go.Proofs.Ytjehmhgafibgbab
open Go.RowKit
set_option linter.unusedSimpArgs false
set_option linter.unusedVariables false
theorem wid_less {A : Nat → Int} {n f : Nat} (h : allB A n = true) (d : Nat) : ∀ j, f + d + j < n → wid A (f + d) j ≤ wid A f (d + j) := by
  intro j
  induction j with
  | zero =>
    intro hj
    cases d with
    | zero => exact Int.le_refl _
    | succ d =>
      have := wid_bounds h d (f := f) (by omega)
      show A (f + (d + 1)) ≤ wid A f d + 256 + A (f + d + 1)
      rw [show f + (d + 1) = f + d + 1 by omega]
      omega
  | succ j ih =>
    intro hj
    have := ih (by omega)
    show wid A (f + d) j + 256 + A (f + d + j + 1) ≤ wid A f (d + j) + 256 + A (f + (d + j) + 1)
    rw [show f + (d + j) + 1 = f + d + j + 1 by omega]
    omega
theorem next_mono {A : Nat → Int} {n f g : Nat} {r s : Int} (h : allB A n = true) (hrs : r ≤ s) (hfg : f ≤ g) (hg : g < n) : f + kS A n r f + 1 ≤ g + kS A n s g + 1 := by
  have h1 := kS_is A r (show f < n by omega)
  have h2 := kS_is A s hg
  generalize kS A n r f = K at *
  generalize kS A n s g = L at *
  rcases Nat.lt_or_ge (g + L + 1) (f + K + 1) with hlt | hge
  · exfalso
    obtain ⟨d, rfl⟩ : ∃ d, g = f + d := ⟨g - f, by omega⟩
    have h3 := h2.stop (by have := h1.le; omega)
    have h4 := wid_less (f := f) h d (L + 1) (by have := h1.le; omega)
    have h5 := h1.fits (d + L) (by omega)
    rw [show d + L + 1 = d + (L + 1) by omega] at h5
    omega
  · exact hge
theorem lineAt_mono {A : Nat → Int} {n : Nat} {r s : Int} (h : allB A n = true) (hrs : r ≤ s) (i : Nat) : lineAt A n r i ≤ lineAt A n s i := by
  induction i with
  | zero => exact Nat.le_refl _
  | succ i ih =>
    by_cases hs : lineAt A n s i < n
    · rw [lineAt_next (show lineAt A n r i < n by omega), lineAt_next hs]
      exact next_mono h hrs ih hs
    · have h1 := lineAt_le A n r (i + 1)
      have h2 : lineAt A n s (i + 1) = lineAt A n s i := by
        rw [show lineAt A n s (i + 1) = if lineAt A n s i < n then lineAt A n s i + kS A n s (lineAt A n s i) + 1 else lineAt A n s i from rfl, if_neg hs]
      omega
theorem lineN_mono {A : Nat → Int} {n : Nat} {r s : Int} (h : allB A n = true) (hrs : r ≤ s) : lineN A n s ≤ lineN A n r := by
  rcases Nat.lt_or_ge (lineN A n r) (lineN A n s) with hlt | hge
  · exfalso
    have h1 := lineN_lt A n s _ hlt
    have h2 := lineAt_mono h hrs (lineN A n r)
    rw [lineN_at A n r] at h2
    omega
  · exact hge
/-- the first words, each with its space -/
def tot (A : Nat → Int) : Nat → Int
  | 0 => 0
  | k + 1 => tot A k + A k + 256
theorem tot_bounds {A : Nat → Int} {n : Nat} (h : allB A n = true) : ∀ k, k ≤ n → 0 ≤ tot A k ∧ tot A k ≤ 4194560 * (k : Int) := by
  intro k
  induction k with
  | zero => intro _; unfold tot; omega
  | succ k ih =>
    intro hk
    have h1 := ih (by omega)
    have h2 := allB_yes h k (by omega)
    unfold tot
    omega
theorem tot_mono {A : Nat → Int} {n : Nat} (h : allB A n = true) : ∀ j k, j ≤ k → k ≤ n → tot A j ≤ tot A k := by
  intro j k hjk
  induction k with
  | zero => intro _; obtain rfl : j = 0 := by omega
            exact Int.le_refl _
  | succ k ih =>
    intro hk
    rcases Nat.eq_or_lt_of_le hjk with rfl | hlt
    · exact Int.le_refl _
    · have h1 := ih (by omega) (by omega)
      have h2 := allB_yes h k (by omega)
      rw [show tot A (k + 1) = tot A k + A k + 256 from rfl]
      omega
theorem wid_tot (A : Nat → Int) : ∀ k, wid A 0 k = tot A (k + 1) - 256 := by
  intro k
  induction k with
  | zero => show A 0 = 0 + A 0 + 256 - 256; omega
  | succ k ih =>
    show wid A 0 k + 256 + A (0 + k + 1) = tot A (k + 1) + A (k + 1) + 256 - 256
    rw [ih, Nat.zero_add]; omega
theorem lineN_one {A : Nat → Int} {n : Nat} (h : allB A n = true) (hn : 0 < n) : lineN A n (tot A n) = 1 := by
  have hK : IsK A n (tot A n) 0 (n - 1) := ⟨fun j hj => by
    rw [wid_tot]
    have := tot_mono h (j + 1 + 1) n (by omega) (Nat.le_refl _)
    omega, by omega, fun hs => by omega⟩
  have h1 := (kS_is A (tot A n) hn).unique hK
  have h2 : lineAt A n (tot A n) 1 = n := by
    rw [lineAt_next (show lineAt A n (tot A n) 0 < n from hn), show lineAt A n (tot A n) 0 = 0 from rfl, h1]; omega
  rcases Nat.lt_trichotomy (lineN A n (tot A n)) 1 with h3 | h3 | h3
  · have := lineN_at A n (tot A n)
    rw [show lineN A n (tot A n) = 0 by omega] at this
    have : (0 : Nat) = n := this
    omega
  · exact h3
  · have := lineN_lt A n (tot A n) 1 h3
    omega
theorem break_len (v : Value) (n : Nat) (S : Nat → ByteArray) (A G : Nat → Int) (w : World) (h : WV w v n S A G) (room : Int) (h1 : mayW n A = true) (h2 : mayB room = true) (m : Nat) (hm : lineN A n room = m) :
    Calls Try.prog 8 #[v, .int .i64 room] w fun e w' => ∃ sl cp, e = .returned (.tuple #[.slice sl m cp, .int .i64 0]) ∧ Kept w w' :=
  (linesBreak_good v n S A G w h room h1 h2).mono fun e w' ⟨u, he, hu, hk⟩ => by
    subst hm
    rcases hu with ⟨h0, o, cp, hv, _⟩ | ⟨g, cp, cur, hv, h3, h4, h5, h6, h7, h8, h9⟩
    · exact ⟨o, cp, by rw [he, hv, h0], hk⟩
    · exact ⟨_, cp, by rw [he, hv], hk⟩
theorem linesWide_no (v : Value) (n : Nat) (S : Nat → ByteArray) (A G : Nat → Int) (room more : Int) (w : World) (hv : WV w v n S A G) (h1 : mayW n A = false) :
    Calls Try.prog 5 #[v, .int .i64 room, .int .i64 more] w fun e w' => e = .returned (.bool true) ∧ Kept w w' := by
  have hk : Kept w w := Kept.refl w
  go_enter Try.func5, Try.ntmps5
  go_wp2_with fail
  refine (awake6_any _).mono ?_
  rintro e w1 ⟨rfl, hn⟩
  replace hk := hk.trans hn
  clear hn
  go_wp2_with fail
  refine (linesMay_any _ n S A G _ (hv.kept hk)).mono ?_
  rintro e w1 ⟨rfl, hn⟩
  replace hk := hk.trans hn
  clear hn
  go_wp2
  go_ret
  exact ⟨rfl, hk⟩
set_option maxHeartbeats 1000000 in
theorem linesWide_none (o : Option Addr) (cap : Nat) (room more : Int) (w : World) :
    Calls Try.prog 5 #[.slice o 0 cap, .int .i64 room, .int .i64 more] w fun e w' => e = .returned (.bool true) ∧ Kept w w' := by
  have hm : mayW 0 G0 = true := rfl
  obtain ⟨r, hr, r1, r2⟩ := masked room 13 8191 (by decide) (by decide)
  obtain ⟨q, hq, q1, q2⟩ := masked more 12 4095 (by decide) (by decide)
  have HB := Lib.hid (fun wx x (hx : mayB x = true) => break_len (.slice o 0 cap) 0 S0 G0 G0 wx (.inl ⟨rfl, o, cap, rfl⟩) x rfl hx 0 (by have := lineN_le G0 0 x; omega))
  have HM := Lib.hid (fun wx => linesMay_none o cap G0 wx)
  have hk : Kept w w := Kept.refl w
  go_enter Try.func5, Try.ntmps5
  go_wp2_with fail
  refine (awake6_any _).mono ?_
  rintro e w1 ⟨rfl, hn⟩
  replace hk := hk.trans hn
  clear hn
  go_wp2_with fail
  refine (HM.out _).mono ?_
  rintro e w1 ⟨rfl, hn⟩
  replace hk := hk.trans hn
  clear hn
  go_wp2_with fail
  refine (HB.out _ r (mayB_true.2 ⟨by omega, by omega⟩)).mono ?_
  rintro e w1 ⟨s1, c1, rfl, hn⟩
  replace hk := hk.trans hn
  clear hn
  go_wp2_with fail
  refine (HB.out _ (r + q) (mayB_true.2 ⟨by omega, by omega⟩)).mono ?_
  rintro e w1 ⟨s2, c2, rfl, hn⟩
  replace hk := hk.trans hn
  clear hn
  go_wp2
  refine wp_loop_rounds 1 ?_
  rw [rounds_succ]
  go_wp2_with fail
  refine (HB.out _ 0 (by decide)).mono ?_
  rintro e w1 ⟨s3, c3, rfl, hn⟩
  replace hk := hk.trans hn
  clear hn
  go_wp2_with fail
  refine (num_any _ _).mono ?_
  rintro e w1 ⟨rfl, rfl⟩
  go_wp2_with fail
  refine (num_any _ _).mono ?_
  rintro e w1 ⟨rfl, rfl⟩
  go_wp2_with fail
  refine (num_any _ _).mono ?_
  rintro e w1 ⟨rfl, rfl⟩
  go_wp2
  go_ret
  exact ⟨rfl, hk⟩
set_option maxHeartbeats 2000000 in
theorem linesWide_some (b off n cap : Nat) (S : Nat → ByteArray) (A G : Nat → Int) (room more : Int) (w : World) (hw : WordsAt w b off n S A G) (hn0 : 0 < n) (hcap : n ≤ cap) (h1 : mayW n A = true) :
    Calls Try.prog 5 #[.slice (some ⟨b, off, none⟩) n cap, .int .i64 room, .int .i64 more] w fun e w' => e = .returned (.bool true) ∧ Kept w w' := by
  have h8 : n ≤ 80 := (mayW_true.1 h1).1
  have hA := (mayW_true.1 h1).2
  obtain ⟨r, hr, r1, r2⟩ := masked room 13 8191 (by decide) (by decide)
  obtain ⟨q, hq, q1, q2⟩ := masked more 12 4095 (by decide) (by decide)
  have hle := lineN_mono hA (show r ≤ r + q by omega)
  have hone := lineN_one hA hn0
  have htb := tot_bounds hA n (Nat.le_refl _)
  have HA := Lib.hid hA
  obtain ⟨t, ht⟩ : ∃ t, tot A n = t := ⟨_, rfl⟩
  rw [ht] at hone htb
  have HT := Lib.hid ht
  have HB := Lib.hid (fun wx (hx : Kept w wx) x (hx2 : mayB x = true) => break_len _ n S A G wx (.inr ⟨b, off, cap, rfl, hn0, hcap, hw.kept hx⟩) x h1 hx2)
  have HM := Lib.hid (fun wx (hx : Kept w wx) => linesMay_some b off n cap S A G wx (hw.kept hx))
  obtain ⟨m1, hm1⟩ : ∃ m, lineN A n r = m := ⟨_, rfl⟩
  obtain ⟨m2, hm2⟩ : ∃ m, lineN A n (r + q) = m := ⟨_, rfl⟩
  rw [hm1, hm2] at hle
  replace hm1 := Lib.hid hm1
  replace hm2 := Lib.hid hm2
  replace hone := Lib.hid hone
  clear ht hA
  have hk : Kept w w := Kept.refl w
  go_enter Try.func5, Try.ntmps5
  go_wp2_with fail
  refine (awake6_any _).mono ?_
  rintro e w1 ⟨rfl, hn⟩
  replace hk := hk.trans hn
  clear hn
  go_wp2_with fail
  refine (HM.out _ hk).mono ?_
  rintro e w1 ⟨rfl, hn⟩
  replace hk := hk.trans hn
  clear hn
  go_wp2_with fail
  refine (HB.out _ hk r (mayB_true.2 ⟨by omega, by omega⟩) m1 hm1.out).mono ?_
  rintro e w1 ⟨s1, c1, rfl, hn⟩
  replace hk := hk.trans hn
  clear hn
  go_wp2_with fail
  refine (HB.out _ hk (r + q) (mayB_true.2 ⟨by omega, by omega⟩) m2 hm2.out).mono ?_
  rintro e w1 ⟨s2, c2, rfl, hn⟩
  replace hk := hk.trans hn
  clear hn
  go_wp2
  have hw' := Lib.hid (hw.kept hk)
  clear h1
  go_loop [12, 13] (fun s i => ∃ k : Nat, k ≤ n ∧ i = .int .i64 k ∧ s = .int .i64 (tot A k)) (fun _ i => n - (intOf i).toNat)
  case atStart => exact ⟨0, Nat.zero_le _, rfl, rfl⟩
  case round =>
    obtain ⟨k, hkn, rfl, rfl⟩ := hrel
    by_cases hlt : k < n
    · have ca := hw'.out.adv k hlt
      have b1 := tot_bounds HA.out k hkn
      have b2 := allB_yes HA.out k hlt
      have hs : tot A (k + 1) = tot A k + A k + 256 := rfl
      replace hs := Lib.hid hs
      generalize tot A k = p at *
      generalize A k = y at *
      go_wp2
      go_round
      case rel => exact ⟨k + 1, by omega, by go_num, by rw [hs.out]⟩
      case measure => simp [intOf]; omega
    · obtain rfl : k = n := by omega
      rw [HT.out]
      have ht2 : t < 1073741824 := by omega
      go_wp2_with fail
      refine (HB.out _ hk t (mayB_true.2 ⟨by omega, by omega⟩) 1 hone.out).mono ?_
      rintro e w1 ⟨s3, c3, rfl, hn⟩
      replace hk := hk.trans hn
      clear hn
      go_wp2_with fail
      refine (num_any _ _).mono ?_
      rintro e w1 ⟨rfl, rfl⟩
      go_wp2_with fail
      refine (num_any _ _).mono ?_
      rintro e w1 ⟨rfl, rfl⟩
      go_wp2_with fail
      refine (num_any _ _).mono ?_
      rintro e w1 ⟨rfl, rfl⟩
      rcases (by omega : k = 1 ∨ 1 < k) with rfl | hk1
      · go_wp2
        go_ret
        exact ⟨rfl, hk⟩
      · go_wp2
        go_ret
        exact ⟨rfl, hk⟩
theorem linesWide_walk (v : Value) (n : Nat) (S : Nat → ByteArray) (A G : Nat → Int) (room more : Int) (w : World) (hv : WV w v n S A G) (_hf : Fair n S A G) (_hn : n ≤ 4398046511103) :
    Calls Try.prog 5 #[v, .int .i64 room, .int .i64 more] w fun e w' => e = .returned (.bool true) ∧ Kept w w' := by
  cases h1 : mayW n A with
  | false => exact linesWide_no v n S A G room more w hv h1
  | true =>
    rcases hv with ⟨rfl, o, cap, rfl⟩ | ⟨b, off, cap, rfl, h2, h3, hw⟩
    · exact linesWide_none o cap room more w
    · exact linesWide_some b off n cap S A G room more w hw h2 h3 h1
end Go.Proofs.Ytjehmhgafibgbab
