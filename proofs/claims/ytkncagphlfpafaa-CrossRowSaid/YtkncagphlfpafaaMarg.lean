/- Layer 12: margins that meet. -/
import Derived.Test.YtkncagphlfpafaaBoxes
import Derived.Test.YtkncagphlfpafaaUnit
import Derived.Test.YtkncagphlfpafaaNum
import Derived.Test.YtkncagphlfpafaaEach
namespace Go.Proofs.Ytkncagphlfpafaa
open Go.RowKit
set_option linter.unusedSimpArgs false
set_option linter.unusedVariables false
/-- numbers that lie in a row -/
def IntsAt (w : World) (b off n : Nat) (Z : Nat → Int) : Prop := ∀ i, i < n → w.cell? ⟨b, off + i, none⟩ = some (.int .i64 (Z i))
theorem IntsAt.kept {w w' : World} {b off n : Nat} {Z : Nat → Int} (h : IntsAt w b off n Z) (k : Kept w w') : IntsAt w' b off n Z :=
  fun i hi => (k.cell (World.block_lt_of_cell? w _ (h i hi))).trans (h i hi)
/-- v is a slice of n numbers -/
def IV (w : World) (v : Value) (n : Nat) (Z : Nat → Int) : Prop :=
  (n = 0 ∧ ∃ o cap, v = .slice o 0 cap) ∨ ∃ b off cap, v = .slice (some ⟨b, off, none⟩) n cap ∧ 0 < n ∧ n ≤ cap ∧ IntsAt w b off n Z
theorem IV.kept {w w' : World} {v : Value} {n : Nat} {Z : Nat → Int} (h : IV w v n Z) (k : Kept w w') : IV w' v n Z := by
  rcases h with h | ⟨b, off, cap, h1, h2, h3, h4⟩
  · exact .inl h
  · exact .inr ⟨b, off, cap, h1, h2, h3, h4.kept k⟩
theorem IV.shape {w : World} {v : Value} {n : Nat} {Z : Nat → Int} (h : IV w v n Z) : ∃ o cap, v = .slice o n cap := by
  rcases h with ⟨rfl, o, cap, rfl⟩ | ⟨b, off, cap, rfl, _⟩
  · exact ⟨o, cap, rfl⟩
  · exact ⟨_, cap, rfl⟩
theorem plain_add1 (b off n : Nat) : ((⟨b, off, none⟩ : Addr).add n) = ⟨b, off + n, none⟩ := by
  unfold Addr.add
  by_cases h : n = 0
  · subst h; rfl
  · rw [if_neg h]
theorem spot_none1 {w : World} {b off : Nat} {sp : Option Nat} {v : Value} (h : w.cell? ⟨b, off, sp⟩ = some v) : sp = none := by
  cases sp with
  | none => rfl
  | some k =>
    exfalso
    unfold World.cell? at h
    split at h
    · simp at h
    · simp at h
def intL (l : List Int) (i : Nat) : Int := l.getD i 0
theorem iv_of {w : World} {b n cap : Nat} {t : TypeId} {cs : Array Value} {Z : Nat → Int} (h : Own w b t cs) (hp : 0 < n) (hcap : n ≤ cap) (hc : ∀ i, i < n → cs[i]? = some (.int .i64 (Z i))) : IV w (.slice (some ⟨b, 0, none⟩) n cap) n Z :=
  .inr ⟨b, 0, cap, rfl, hp, hcap, fun i hi => by rw [Nat.zero_add]; exact (h.cell _).trans (hc i hi)⟩
theorem iv_two {w : World} {b : Nat} {t : TypeId} {x y : Int} (h : Own w b t #[.int .i64 x, .int .i64 y]) : IV w (.slice (some ⟨b, 0, none⟩) 2 2) 2 (intL [x, y]) :=
  iv_of h (by decide) (by decide) fun i hi => by
    match i, hi with
    | 0, _ => rfl
    | 1, _ => rfl
theorem iv_one {w : World} {b : Nat} {t : TypeId} {x : Int} (h : Own w b t #[.int .i64 x]) : IV w (.slice (some ⟨b, 0, none⟩) 1 1) 1 (intL [x]) :=
  iv_of h (by decide) (by decide) fun i hi => by
    match i, hi with
    | 0, _ => rfl
theorem iv_four {w : World} {b : Nat} {t : TypeId} {x y z u : Int} (h : Own w b t #[.int .i64 x, .int .i64 y, .int .i64 z, .int .i64 u]) : IV w (.slice (some ⟨b, 0, none⟩) 4 4) 4 (intL [x, y, z, u]) :=
  iv_of h (by decide) (by decide) fun i hi => by
    match i, hi with
    | 0, _ => rfl
    | 1, _ => rfl
    | 2, _ => rfl
    | 3, _ => rfl
/-- the greatest one, and 0; the least one, and 0 -/
def mxS (Z : Nat → Int) : Nat → Int
  | 0 => 0
  | k + 1 => max (mxS Z k) (Z k)
def mnS (Z : Nat → Int) : Nat → Int
  | 0 => 0
  | k + 1 => min (mnS Z k) (Z k)
def allM (Z : Nat → Int) : Nat → Bool
  | 0 => true
  | n + 1 => allM Z n && mayB (Z n)
theorem allM_no {Z : Nat → Int} {k n : Nat} (h : k < n) (hk : mayB (Z k) = false) : allM Z n = false := by
  induction n with
  | zero => omega
  | succ n ih =>
    unfold allM
    rcases Nat.lt_or_ge k n with h1 | h1
    · rw [ih h1]; rfl
    · obtain rfl : k = n := by omega
      rw [hk, Bool.and_false]
theorem allM_yes {Z : Nat → Int} {n : Nat} (h : allM Z n = true) : ∀ k, k < n → -1073741824 ≤ Z k ∧ Z k ≤ 1073741824 := by
  intro k hk
  cases hb : mayB (Z k) with
  | true => exact mayB_true.1 hb
  | false => rw [allM_no hk hb] at h; cases h
theorem allM_of {Z : Nat → Int} {n : Nat} (h : ∀ k, k < n → -1073741824 ≤ Z k ∧ Z k ≤ 1073741824) : allM Z n = true := by
  induction n with
  | zero => rfl
  | succ n ih =>
    unfold allM
    rw [ih fun k hk => h k (by omega), mayB_true.2 (h n (by omega))]; rfl
theorem mx_bounds {Z : Nat → Int} {n : Nat} (h : allM Z n = true) : ∀ k, k ≤ n → (0 ≤ mxS Z k ∧ mxS Z k ≤ 1073741824) ∧ -1073741824 ≤ mnS Z k ∧ mnS Z k ≤ 0 := by
  intro k
  induction k with
  | zero => intro _; unfold mxS mnS; omega
  | succ k ih =>
    intro hk
    have h1 := ih (by omega)
    have h2 := allM_yes h k (by omega)
    unfold mxS mnS
    omega
def mayM (n : Nat) (Z : Nat → Int) : Bool := decide (n ≤ 32) && allM Z n
theorem mayM_true {n : Nat} {Z : Nat → Int} : mayM n Z = true ↔ n ≤ 32 ∧ allM Z n = true := by unfold mayM; rw [Bool.and_eq_true, decide_eq_true_eq]
/-- what numbers collapse to -/
def allR (n : Nat) (Z : Nat → Int) : Int × Int := if mayM n Z = true then (mxS Z n + mnS Z n, 0) else (0, 1200)
theorem margOdd_any (x : Int) (w : World) :
    Calls Try.prog 29 #[.int .i64 x] w fun e w' => e = .returned (.bool !(mayB x)) ∧ Kept w w' := by
  have hk : Kept w w := Kept.refl w
  go_enter Try.func29, Try.ntmps29
  go_wp2_with fail
  refine (unitMay_any _ _).mono ?_
  rintro e w1 ⟨rfl, hn⟩
  replace hk := hk.trans hn
  clear hn
  go_wp2
  go_ret
  exact ⟨rfl, hk⟩
theorem margMeet_none (o : Option Addr) (cap : Nat) (w : World) :
    Calls Try.prog 32 #[.slice o 0 cap] w fun e w' => e = .returned (.int .i64 0) ∧ Kept w w' := by
  go_enter Try.func32, Try.ntmps32
  go_wp2
  refine wp_loop_rounds 1 ?_
  rw [rounds_succ]
  go_wp2
  go_ret
  exact ⟨rfl, Kept.refl _⟩
set_option maxHeartbeats 1000000 in
theorem margMeet_some (b off n cap : Nat) (Z : Nat → Int) (w : World) (hz : IntsAt w b off n Z) (hn : n ≤ 32) (hm : allM Z n = true) :
    Calls Try.prog 32 #[.slice (some ⟨b, off, none⟩) n cap] w fun e w' => e = .returned (.int .i64 (mxS Z n + mnS Z n)) ∧ Kept w w' := by
  have HM := Lib.hid hm
  clear hm
  go_enter Try.func32, Try.ntmps32
  go_wp2
  go_loop [3, 4, 6, 9] (fun p q _ i => ∃ k : Nat, k ≤ n ∧ i = .int .i64 k ∧ p = .int .i64 (mxS Z k) ∧ q = .int .i64 (mnS Z k)) (fun _ _ _ i => n - (intOf i).toNat)
  case atStart => exact ⟨0, Nat.zero_le _, rfl, rfl, rfl⟩
  case round =>
    obtain ⟨k, hkn, rfl, rfl, rfl⟩ := hrel
    have hb := mx_bounds HM.out k hkn
    by_cases hlt : k < n
    · have c0 := hz k hlt
      have hx := allM_yes HM.out k hlt
      have e1 : mxS Z (k + 1) = max (mxS Z k) (Z k) := rfl
      have e2 : mnS Z (k + 1) = min (mnS Z k) (Z k) := rfl
      replace e1 := Lib.hid e1
      replace e2 := Lib.hid e2
      generalize mxS Z k = p at *
      generalize mnS Z k = q at *
      generalize Z k = x at *
      rcases Int.lt_trichotomy p x with h1 | h1 | h1 <;> rcases Int.lt_trichotomy q x with h2 | h2 | h2 <;> try omega
      all_goals
        go_wp2
        go_round
        case rel => exact ⟨k + 1, by omega, by go_num, by rw [e1.out]; congr 1; omega, by rw [e2.out]; congr 1; omega⟩
        case measure => simp [intOf]; omega
    · obtain rfl : k = n := by omega
      go_wp2
      go_ret
      exact ⟨rfl, Kept.refl _⟩
theorem allR_may {n : Nat} {Z : Nat → Int} (h : mayM n Z = true) : allR n Z = (mxS Z n + mnS Z n, 0) := if_pos h
theorem allR_no {n : Nat} {Z : Nat → Int} (h : mayM n Z = false) : allR n Z = (0, 1200) := if_neg (by simp [h])
abbrev oddF : Value := .func (.func 29) #[] #[]
/-- where the first one is: -1 or a place -/
def IdxR (b : Bool) (r : Int) : Prop := if b = true then r = -1 else 0 ≤ r
theorem margIndex_none (o : Option Addr) (cap : Nat) (w : World) :
    Calls Try.prog 41 #[.slice o 0 cap, oddF] w fun e w' => e = .returned (.int .i64 (-1)) ∧ Kept w w' := by
  go_enter Try.func41, Try.ntmps41
  go_wp2
  refine wp_loop_rounds 1 ?_
  rw [rounds_succ]
  go_wp2
  go_ret
  exact ⟨rfl, Kept.refl _⟩
set_option maxHeartbeats 1000000 in
theorem margIndex_some (b off n cap : Nat) (Z : Nat → Int) (w : World) (hz : IntsAt w b off n Z) (hn : n ≤ 17592186043904) :
    Calls Try.prog 41 #[.slice (some ⟨b, off, none⟩) n cap, oddF] w fun e w' => ∃ r : Int, e = .returned (.int .i64 r) ∧ IdxR (allM Z n) r ∧ Kept w w' := by
  go_enter Try.func41, Try.ntmps41
  go_wp2
  go_loopw [5, 8] (fun _ i wx => ∃ k : Nat, k ≤ n ∧ i = .int .i64 k ∧ Kept w wx ∧ allM Z k = true) (fun _ i _ => n - (intOf i).toNat)
  case atStart => exact ⟨0, Nat.zero_le _, rfl, Kept.refl _, rfl⟩
  case round =>
    obtain ⟨k, hk4, rfl, hk, hal⟩ := hrel
    have hal' := Lib.hid hal
    clear hal
    by_cases hlt : k < n
    · have c1 := (hz.kept hk) k hlt
      cases hb : mayB (Z k)
      · have hno := Lib.hid (allM_no hlt hb)
        generalize Z k = x at *
        go_wp2_with fail
        refine (margOdd_any _ _).mono ?_
        rintro e w1 ⟨rfl, hn⟩
        replace hk := hk.trans hn
        clear hn
        go_wp2
        go_ret
        exact ⟨_, rfl, by rw [hno.out]; show (0 : Int) ≤ k; omega, hk⟩
      · have hyes := Lib.hid (show allM Z (k + 1) = true by unfold allM; rw [hal'.out, hb]; rfl)
        generalize Z k = x at *
        go_wp2_with fail
        refine (margOdd_any _ _).mono ?_
        rintro e w1 ⟨rfl, hn⟩
        replace hk := hk.trans hn
        clear hn
        go_wp2
        go_roundw
        case rel => exact ⟨k + 1, by omega, by go_num, hk, hyes.out⟩
        case measure => simp [intOf]; omega
    · obtain rfl : k = n := by omega
      go_wp2
      go_ret
      exact ⟨_, rfl, by rw [hal'.out]; exact rfl, hk⟩
theorem margContains_any (v : Value) (n : Nat) (Z : Nat → Int) (w : World) (hz : IV w v n Z) (hn : n ≤ 17592186043904) :
    Calls Try.prog 31 #[v, oddF] w fun e w' => e = .returned (.bool !(allM Z n)) ∧ Kept w w' := by
  rcases hz with ⟨rfl, o, cap, rfl⟩ | ⟨b, off, cap, rfl, h2, h3, h4⟩
  · skip
    have hk : Kept w w := Kept.refl w
    go_enter Try.func31, Try.ntmps31
    go_wp2_with fail
    refine (margIndex_none _ _ _).mono ?_
    rintro e w1 ⟨rfl, hn⟩
    replace hk := hk.trans hn
    clear hn
    go_wp2
    go_ret
    exact ⟨rfl, hk⟩
  · cases ha : allM Z n
    · skip
      have hk : Kept w w := Kept.refl w
      go_enter Try.func31, Try.ntmps31
      go_wp2_with fail
      refine (margIndex_some b off n cap Z _ (h4.kept hk) hn).mono ?_
      rintro e w1 ⟨r, rfl, hr, hn⟩
      replace hk := hk.trans hn
      clear hn
      rw [ha] at hr
      have hr' : 0 ≤ r := hr
      clear hr
      go_wp2
      go_ret
      exact ⟨rfl, hk⟩
    · skip
      have hk : Kept w w := Kept.refl w
      go_enter Try.func31, Try.ntmps31
      go_wp2_with fail
      refine (margIndex_some b off n cap Z _ (h4.kept hk) hn).mono ?_
      rintro e w1 ⟨r, rfl, hr, hn⟩
      replace hk := hk.trans hn
      clear hn
      rw [ha] at hr
      obtain rfl : r = -1 := hr
      go_wp2
      go_ret
      exact ⟨rfl, hk⟩
theorem margAll_any (v : Value) (n : Nat) (Z : Nat → Int) (w : World) (hz : IV w v n Z) (hn : n ≤ 17592186043904) :
    Calls Try.prog 14 #[v] w fun e w' => e = .returned (.tuple #[.int .i64 (allR n Z).1, .int .i64 (allR n Z).2]) ∧ Kept w w' := by
  by_cases h32 : n ≤ 32
  · cases ha : allM Z n
    · rw [allR_no (by unfold mayM; rw [ha, Bool.and_false])]
      obtain ⟨o, cap, rfl⟩ := hz.shape
      have hk : Kept w w := Kept.refl w
      go_enter Try.func14, Try.ntmps14
      go_wp2_with fail
      refine (margContains_any _ n Z _ (hz.kept hk) hn).mono ?_
      rintro e w1 ⟨rfl, hn⟩
      replace hk := hk.trans hn
      clear hn
      go_wp2
      go_ret2
      exact ⟨rfl, hk⟩
    · rw [allR_may (mayM_true.2 ⟨h32, ha⟩)]
      rcases hz with ⟨rfl, o, cap, rfl⟩ | ⟨b, off, cap, rfl, h2, h3, h4⟩
      · skip
        have hk : Kept w w := Kept.refl w
        go_enter Try.func14, Try.ntmps14
        go_wp2_with fail
        refine (margContains_any _ 0 Z _ (.inl ⟨rfl, o, cap, rfl⟩) (by omega)).mono ?_
        rintro e w1 ⟨rfl, hn⟩
        replace hk := hk.trans hn
        clear hn
        go_wp2_with fail
        refine (margMeet_none _ _ _).mono ?_
        rintro e w1 ⟨rfl, hn⟩
        replace hk := hk.trans hn
        clear hn
        go_wp2
        go_ret2
        exact ⟨rfl, hk⟩
      · skip
        have hk : Kept w w := Kept.refl w
        go_enter Try.func14, Try.ntmps14
        go_wp2_with fail
        refine (margContains_any _ n Z _ (.inr ⟨b, off, cap, rfl, h2, h3, h4.kept hk⟩) hn).mono ?_
        rintro e w1 ⟨rfl, hn⟩
        replace hk := hk.trans hn
        clear hn
        go_wp2_with fail
        refine (margMeet_some b off n cap Z _ (h4.kept hk) h32 ha).mono ?_
        rintro e w1 ⟨rfl, hn⟩
        replace hk := hk.trans hn
        clear hn
        go_wp2
        go_ret2
        exact ⟨rfl, hk⟩
  · rw [allR_no (by unfold mayM; rw [decide_eq_false h32, Bool.false_and])]
    obtain ⟨o, cap, rfl⟩ := hz.shape
    have hk : Kept w w := Kept.refl w
    go_enter Try.func14, Try.ntmps14
    go_wp2
    go_ret2
    exact ⟨rfl, hk⟩
/-- a number that counts -/
def cnt (x : Int) : Int := if mayB x = true then x else 0
theorem cnt_bounds (x : Int) : -1073741824 ≤ cnt x ∧ cnt x ≤ 1073741824 := by
  unfold cnt
  cases h : mayB x
  · simp
  · have := mayB_true.1 h; simpa using this
theorem margCounted_any (x : Int) (w : World) :
    Calls Try.prog 34 #[.int .i64 x] w fun e w' => e = .returned (.int .i64 (cnt x)) ∧ Kept w w' := by
  cases h : mayB x
  · have hc : cnt x = 0 := by unfold cnt; rw [h]; rfl
    have Hc := Lib.hid hc
    clear hc
    have hk : Kept w w := Kept.refl w
    go_enter Try.func34, Try.ntmps34
    go_wp2_with fail
    refine (unitMay_any _ _).mono ?_
    rintro e w1 ⟨rfl, hn⟩
    replace hk := hk.trans hn
    clear hn
    go_wp2
    go_ret
    exact ⟨ret_int (by rw [Hc.out]), hk⟩
  · have hc : cnt x = x := by unfold cnt; rw [h]; rfl
    have Hc := Lib.hid hc
    clear hc
    have hk : Kept w w := Kept.refl w
    go_enter Try.func34, Try.ntmps34
    go_wp2_with fail
    refine (unitMay_any _ _).mono ?_
    rintro e w1 ⟨rfl, hn⟩
    replace hk := hk.trans hn
    clear hn
    go_wp2
    go_ret
    exact ⟨ret_int (by rw [Hc.out]), hk⟩
/-- what two collapse to -/
def colS (a b : Int) : Int := mxS (intL [cnt a, cnt b]) 2 + mnS (intL [cnt a, cnt b]) 2
theorem colS_eq (a b : Int) : colS a b = max (max 0 (cnt a)) (cnt b) + min (min 0 (cnt a)) (cnt b) := rfl
theorem margCollapse_any (a b : Int) (w : World) :
    Calls Try.prog 16 #[.int .i64 a, .int .i64 b] w fun e w' => e = .returned (.int .i64 (colS a b)) ∧ Kept w w' := by
  have h1 := cnt_bounds a
  have h2 := cnt_bounds b
  have hm : allM (intL [cnt a, cnt b]) 2 = true := allM_of fun k hk => by
    match k, hk with
    | 0, _ => exact h1
    | 1, _ => exact h2
  have hk : Kept w w := Kept.refl w
  go_enter Try.func16, Try.ntmps16
  go_wp2_with fail
  refine (margCounted_any _ _).mono ?_
  rintro e w1 ⟨rfl, hn⟩
  replace hk := hk.trans hn
  clear hn
  go_wp2_with fail
  refine (margCounted_any _ _).mono ?_
  rintro e w1 ⟨rfl, hn⟩
  replace hk := hk.trans hn
  clear hn
  go_wp2_with fail
  refine with_boxes1 ?_
  intro X hX c
  have hsz := hk.size
  replace hk := hk.trans hX
  clear hX
  obtain ⟨b', o', c', hv, h0, h4, h5⟩ : ∃ b' o' c', (Value.slice (some ⟨w1.heap.size, 0, none⟩) 2 2) = .slice (some ⟨b', o', none⟩) 2 c' ∧ 0 < 2 ∧ 2 ≤ c' ∧ IntsAt X b' o' 2 (intL [cnt a, cnt b]) := by
    rcases iv_two c with ⟨h, _⟩ | ⟨b', o', c', h1, h2, h3, h4⟩
    · omega
    · exact ⟨b', o', c', h1, h2, h3, h4⟩
  rw [hv]
  go_wp2_with fail
  refine (margMeet_some _ _ _ _ _ _ h5 (by decide) hm).mono ?_
  rintro e w1 ⟨rfl, hn⟩
  replace hk := hk.trans hn
  replace c := c.kept hn
  clear hn
  go_wp2
  go_ret
  exact ⟨rfl, hk⟩
end Go.Proofs.Ytkncagphlfpafaa
