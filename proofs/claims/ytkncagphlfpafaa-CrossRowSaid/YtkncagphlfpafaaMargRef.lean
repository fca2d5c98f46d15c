/- Layer 12: the document's collapsing; what every program answers. -/
import Derived.Test.YtkncagphlfpafaaMarg
import Derived.WalkLawsBesides
namespace Go.Proofs.Ytkncagphlfpafaa
open Go.RowKit
set_option linter.unusedSimpArgs false
set_option linter.unusedVariables false
theorem refMayM_any (x : Int) (w : World) :
    Calls Try.prog 33 #[.int .i64 x] w fun e w' => e = .returned (.bool (mayB x)) ∧ Kept w w' := by
  by_cases h1 : -1073741824 ≤ x
  · skip
    go_enter Try.func33, Try.ntmps33
    go_wp2
    go_ret
    exact ⟨ret_bool (by unfold mayB; simp [h1]), Kept.refl _⟩
  · have h2 : x < -1073741824 := by omega
    go_enter Try.func33, Try.ntmps33
    go_wp2
    go_ret
    exact ⟨ret_bool (by unfold mayB; simp; omega), Kept.refl _⟩
set_option maxHeartbeats 2000000 in
theorem refColAll_none (o : Option Addr) (cap : Nat) (w : World) :
    Calls Try.prog 15 #[.slice o 0 cap] w fun e w' => e = .returned (.tuple #[.int .i64 0, .int .i64 0]) ∧ Kept w w' := by
  go_enter Try.func15, Try.ntmps15
  go_wp2
  refine wp_loop_rounds 1 ?_
  rw [rounds_succ]
  go_wp2
  go_ret2
  exact ⟨rfl, Kept.refl _⟩
set_option maxHeartbeats 2000000 in
theorem refColAll_some (b off n cap : Nat) (Z : Nat → Int) (w : World) (hz : IntsAt w b off n Z) :
    Calls Try.prog 15 #[.slice (some ⟨b, off, none⟩) n cap] w fun e w' => e = .returned (.tuple #[.int .i64 (allR n Z).1, .int .i64 (allR n Z).2]) ∧ Kept w w' := by
  by_cases h32 : n ≤ 32
  · have hmay : mayM n Z = allM Z n := by unfold mayM; rw [decide_eq_true h32, Bool.true_and]
    have HMAY := Lib.hid hmay
    clear hmay
    go_enter Try.func15, Try.ntmps15
    go_wp2
    go_loopw [4, 5, 6] (fun p q i wx => ∃ k : Nat, k ≤ n ∧ i = .int .i64 k ∧ Kept w wx ∧ p = .int .i64 (mxS Z k) ∧ q = .int .i64 (mnS Z k) ∧ allM Z k = true) (fun _ _ i _ => n - (intOf i).toNat)
    case atStart => exact ⟨0, Nat.zero_le _, rfl, Kept.refl _, rfl, rfl, rfl⟩
    case round =>
      obtain ⟨k, hkn, rfl, hk, rfl, rfl, hal⟩ := hrel
      have hb := mx_bounds hal k (Nat.le_refl _)
      have HAL := Lib.hid hal
      clear hal
      by_cases hlt : k < n
      · have c0 := (hz.kept hk) k hlt
        cases hmb : mayB (Z k)
        · have HR := Lib.hid (show allR n Z = (0, 1200) from allR_no (by rw [HMAY.out]; exact allM_no hlt hmb))
          generalize mxS Z k = p at *
          generalize mnS Z k = q at *
          generalize Z k = x at *
          go_wp2_with fail
          refine (refMayM_any _ _).mono ?_
          rintro e w1 ⟨rfl, hn⟩
          replace hk := hk.trans hn
          clear hn
          go_wp2
          go_ret2
          exact ⟨by rw [HR.out]; rfl, hk⟩
        · have hx := mayB_true.1 hmb
          have HA2 := Lib.hid (show allM Z (k + 1) = true by unfold allM; rw [HAL.out, hmb]; rfl)
          have cx := Lib.hid (fun wx (hx : Kept w wx) => (hz.kept hx) k hlt)
          have e1 : mxS Z (k + 1) = max (mxS Z k) (Z k) := rfl
          have e2 : mnS Z (k + 1) = min (mnS Z k) (Z k) := rfl
          replace e1 := Lib.hid e1
          replace e2 := Lib.hid e2
          generalize mxS Z k = p at *
          generalize mnS Z k = q at *
          generalize Z k = x at *
          go_wp2_with fail
          refine (refMayM_any _ _).mono ?_
          rintro e w1 ⟨rfl, hn⟩
          replace hk := hk.trans hn
          clear hn
          have c1 := cx.out _ hk
          rcases Int.lt_trichotomy p x with h1 | h1 | h1 <;> rcases Int.lt_trichotomy q x with h2 | h2 | h2 <;> try omega
          all_goals
            go_wp2
            go_roundw
            case rel => exact ⟨k + 1, by omega, by go_num, hk, by rw [e1.out]; congr 1; omega, by rw [e2.out]; congr 1; omega, HA2.out⟩
            case measure => simp [intOf]; omega
      · obtain rfl : k = n := by omega
        have HR := Lib.hid (show allR k Z = (mxS Z k + mnS Z k, 0) from allR_may (by rw [HMAY.out]; exact HAL.out))
        go_wp2
        go_ret2
        exact ⟨by rw [HR.out]; rfl, hk⟩
  · have HR := Lib.hid (show allR n Z = (0, 1200) from allR_no (by unfold mayM; rw [decide_eq_false h32, Bool.false_and]))
    go_enter Try.func15, Try.ntmps15
    go_wp2
    go_ret2
    exact ⟨by rw [HR.out]; rfl, Kept.refl _⟩
theorem refColAll_any (v : Value) (n : Nat) (Z : Nat → Int) (w : World) (hz : IV w v n Z) :
    Calls Try.prog 15 #[v] w fun e w' => e = .returned (.tuple #[.int .i64 (allR n Z).1, .int .i64 (allR n Z).2]) ∧ Kept w w' := by
  rcases hz with ⟨rfl, o, cap, rfl⟩ | ⟨b, off, cap, rfl, h2, h3, h4⟩
  · exact refColAll_none o cap w
  · exact refColAll_some b off n cap Z w h4
set_option maxHeartbeats 2000000 in
theorem refCol_may (a b c : Int) (w : World) (a1 : -1073741824 ≤ a ∧ a ≤ 1073741824) (b1 : -1073741824 ≤ b ∧ b ≤ 1073741824) (hab : mayB a = true) (hbb : mayB b = true) (hc : max (max 0 a) b + min (min 0 a) b = c) :
    Calls Try.prog 17 #[.int .i64 a, .int .i64 b] w fun e w' => e = .returned (.int .i64 c) ∧ Kept w w' := by
  rcases Int.lt_trichotomy 0 a with h1 | h1 | h1 <;> rcases Int.lt_trichotomy 0 b with h2 | h2 | h2 <;> rcases Int.lt_trichotomy a b with h3 | h3 | h3 <;> try omega
  all_goals
    have hk : Kept w w := Kept.refl w
    go_enter Try.func17, Try.ntmps17
    go_wp2_with fail
    refine (refMayM_any _ _).mono ?_
    rintro e w1 ⟨rfl, hn⟩
    replace hk := hk.trans hn
    clear hn
    go_wp2_with fail
    refine (refMayM_any _ _).mono ?_
    rintro e w1 ⟨rfl, hn⟩
    replace hk := hk.trans hn
    clear hn
    go_wp2
    go_ret
    exact ⟨ret_int (by omega), hk⟩
set_option maxHeartbeats 2000000 in
theorem refCol_left (a b c : Int) (w : World) (b1 : -1073741824 ≤ b ∧ b ≤ 1073741824) (hab : mayB a = false) (hbb : mayB b = true) (hc : max (max 0 0) b + min (min 0 0) b = c) :
    Calls Try.prog 17 #[.int .i64 a, .int .i64 b] w fun e w' => e = .returned (.int .i64 c) ∧ Kept w w' := by
  rcases Int.lt_trichotomy 0 b with h2 | h2 | h2
  all_goals
    have hk : Kept w w := Kept.refl w
    go_enter Try.func17, Try.ntmps17
    go_wp2_with fail
    refine (refMayM_any _ _).mono ?_
    rintro e w1 ⟨rfl, hn⟩
    replace hk := hk.trans hn
    clear hn
    go_wp2_with fail
    refine (refMayM_any _ _).mono ?_
    rintro e w1 ⟨rfl, hn⟩
    replace hk := hk.trans hn
    clear hn
    go_wp2
    go_ret
    exact ⟨ret_int (by omega), hk⟩
set_option maxHeartbeats 2000000 in
theorem refCol_right (a b c : Int) (w : World) (a1 : -1073741824 ≤ a ∧ a ≤ 1073741824) (hab : mayB a = true) (hbb : mayB b = false) (hc : max (max 0 a) 0 + min (min 0 a) 0 = c) :
    Calls Try.prog 17 #[.int .i64 a, .int .i64 b] w fun e w' => e = .returned (.int .i64 c) ∧ Kept w w' := by
  rcases Int.lt_trichotomy 0 a with h2 | h2 | h2
  all_goals
    have hk : Kept w w := Kept.refl w
    go_enter Try.func17, Try.ntmps17
    go_wp2_with fail
    refine (refMayM_any _ _).mono ?_
    rintro e w1 ⟨rfl, hn⟩
    replace hk := hk.trans hn
    clear hn
    go_wp2_with fail
    refine (refMayM_any _ _).mono ?_
    rintro e w1 ⟨rfl, hn⟩
    replace hk := hk.trans hn
    clear hn
    go_wp2
    go_ret
    exact ⟨ret_int (by omega), hk⟩
theorem refCol_both (a b : Int) (w : World) (hab : mayB a = false) (hbb : mayB b = false) :
    Calls Try.prog 17 #[.int .i64 a, .int .i64 b] w fun e w' => e = .returned (.int .i64 0) ∧ Kept w w' := by
  have hk : Kept w w := Kept.refl w
  go_enter Try.func17, Try.ntmps17
  go_wp2_with fail
  refine (refMayM_any _ _).mono ?_
  rintro e w1 ⟨rfl, hn⟩
  replace hk := hk.trans hn
  clear hn
  go_wp2_with fail
  refine (refMayM_any _ _).mono ?_
  rintro e w1 ⟨rfl, hn⟩
  replace hk := hk.trans hn
  clear hn
  go_wp2
  go_ret
  exact ⟨rfl, hk⟩
theorem cnt_may {x : Int} (h : mayB x = true) : cnt x = x := by unfold cnt; rw [h]; rfl
theorem cnt_no {x : Int} (h : mayB x = false) : cnt x = 0 := by unfold cnt; rw [h]; rfl
theorem refCol_any (a b : Int) (w : World) :
    Calls Try.prog 17 #[.int .i64 a, .int .i64 b] w fun e w' => e = .returned (.int .i64 (colS a b)) ∧ Kept w w' := by
  cases ha : mayB a with
  | false =>
    cases hb : mayB b with
    | false => rw [colS_eq, cnt_no ha, cnt_no hb]; exact refCol_both a b w ha hb
    | true => exact refCol_left a b _ w (mayB_true.1 hb) ha hb (by rw [colS_eq, cnt_no ha, cnt_may hb])
  | true =>
    cases hb : mayB b with
    | false => exact refCol_right a b _ w (mayB_true.1 ha) ha hb (by rw [colS_eq, cnt_may ha, cnt_no hb])
    | true => exact refCol_may a b _ w (mayB_true.1 ha) (mayB_true.1 hb) ha hb (by rw [colS_eq, cnt_may ha, cnt_may hb])
set_option maxHeartbeats 1000000 in
theorem awake12_any (w : World) :
    Calls Try.prog 20 #[] w fun e w' => e = .returned (.bool true) ∧ Kept w w' := by
  have e1 : allR 4 (intL [3, -2, 7, -5]) = (2, 0) := by decide
  have e2 : allR 1 (intL [1073741825]) = (0, 1200) := by decide
  have e3 : colS 3 7 = 7 := by decide
  have e4 : colS (-3) (-7) = -7 := by decide
  have e5 : colS 3 (-7) = -4 := by decide
  have hk : Kept w w := Kept.refl w
  go_enter Try.func20, Try.ntmps20
  go_wp2_with fail
  refine with_boxes1 ?_
  intro X hX a
  have hsz := hk.size
  replace hk := hk.trans hX
  clear hX
  refine (margAll_any _ 4 _ _ (iv_four a) (by decide)).mono ?_
  rintro e w1 ⟨rfl, hn⟩
  replace hk := hk.trans hn
  replace a := a.kept hn
  clear hn
  go_wp2_with fail
  refine with_boxes1 ?_
  intro X hX b
  have hsz := hk.size
  replace hk := hk.trans hX
  replace a := a.kept hX
  clear hX
  refine (margAll_any _ 1 _ _ (iv_one b) (by decide)).mono ?_
  rintro e w1 ⟨rfl, hn⟩
  replace hk := hk.trans hn
  replace a := a.kept hn
  replace b := b.kept hn
  clear hn
  go_wp2_with fail
  refine (margCollapse_any _ _ _).mono ?_
  rintro e w1 ⟨rfl, hn⟩
  replace hk := hk.trans hn
  replace a := a.kept hn
  replace b := b.kept hn
  clear hn
  go_wp2_with fail
  refine (margCollapse_any _ _ _).mono ?_
  rintro e w1 ⟨rfl, hn⟩
  replace hk := hk.trans hn
  replace a := a.kept hn
  replace b := b.kept hn
  clear hn
  go_wp2_with fail
  refine (margCollapse_any _ _ _).mono ?_
  rintro e w1 ⟨rfl, hn⟩
  replace hk := hk.trans hn
  replace a := a.kept hn
  replace b := b.kept hn
  clear hn
  go_wp2_with fail
  refine (num_any _ _).mono ?_
  rintro e w1 ⟨rfl, rfl⟩
  go_wp2_with fail
  refine (num_any _ _).mono ?_
  rintro e w1 ⟨rfl, rfl⟩
  go_wp2
  go_ret
  exact ⟨rfl, hk⟩
end Go.Proofs.Ytkncagphlfpafaa
