/- Layer 21: where items stand along the lines. -/
import Derived.Test.YtkncagphlfpafaaMargRef
import Derived.Test.YtkncagphlfpafaaOnes
import Derived.Deep.OwnRows
namespace Go.Proofs.Ytkncagphlfpafaa
open Go.RowKit
set_option linter.unusedSimpArgs false
set_option linter.unusedVariables false
def inX (x : Int) : Bool := inB (-4194304) 4194304 x
theorem inX_true {x : Int} : inX x = true ↔ -4194304 ≤ x ∧ x ≤ 4194304 := inB_true
def allX (Z : Nat → Int) : Nat → Bool
  | 0 => true
  | n + 1 => allX Z n && inX (Z n)
theorem allX_no {Z : Nat → Int} {k n : Nat} (h : k < n) (hk : inX (Z k) = false) : allX Z n = false := by
  induction n with
  | zero => omega
  | succ n ih =>
    unfold allX
    rcases Nat.lt_or_ge k n with h1 | h1
    · rw [ih h1]; rfl
    · obtain rfl : k = n := by omega
      rw [hk, Bool.and_false]
theorem allX_yes {Z : Nat → Int} {n : Nat} (h : allX Z n = true) : ∀ k, k < n → -4194304 ≤ Z k ∧ Z k ≤ 4194304 := by
  intro k hk
  cases hb : inX (Z k) with
  | true => exact inX_true.1 hb
  | false => rw [allX_no hk hb] at h; cases h
theorem allX_of {Z : Nat → Int} {n : Nat} (h : ∀ k, k < n → -4194304 ≤ Z k ∧ Z k ≤ 4194304) : allX Z n = true := by
  induction n with
  | zero => rfl
  | succ n ih =>
    unfold allX
    rw [ih fun k hk => h k (by omega), inX_true.2 (h n (by omega))]; rfl
theorem crossOdd_any (x : Int) (w : World) :
    Calls Try.prog 35 #[.int .i64 x] w fun e w' => e = .returned (.bool !(inX x)) ∧ Kept w w' := by
  have hs : inX x = inB (-4194304) 4194304 x := rfl
  have hk : Kept w w := Kept.refl w
  go_enter Try.func35, Try.ntmps35
  go_wp2_with fail
  refine with_boxes1 ?_
  intro X hX p
  have hsz := hk.size
  replace hk := hk.trans hX
  clear hX
  replace p_l := p.lt
  replace p_0 := p.at 0 _ rfl
  refine (each1_any _ _ _ _ _ p_0).mono ?_
  rintro e w1 ⟨rfl, rfl⟩
  go_wp2
  go_ret
  exact ⟨rfl, (by first | ((repeat (first | with_reducible exact hk | with_reducible refine Kept.alloc ?_ _ | with_reducible refine Kept.drew ?_ | with_reducible refine Kept.drewN ?_ _ | with_reducible refine Kept.set ?_ (by first | (simp; done) | (simp; omega) | omega) _)); done) | exact hk | exact (hk.alloc _) | exact ((hk.alloc _).alloc _) | exact (((hk.alloc _).alloc _).alloc _) | exact ((((hk.alloc _).alloc _).alloc _).alloc _) | exact (((((hk.alloc _).alloc _).alloc _).alloc _).alloc _) | exact ((((((hk.alloc _).alloc _).alloc _).alloc _).alloc _).alloc _) | (repeat (first | exact hk | refine Kept.alloc ?_ _ | refine Kept.drew ?_ | refine Kept.drewN ?_ _ | refine Kept.set ?_ (by first | (simp; done) | (simp; omega) | omega) _)))⟩
abbrev oddX : Value := .func (.func 35) #[] #[]
theorem crossIndex_none (o : Option Addr) (cap : Nat) (w : World) :
    Calls Try.prog 41 #[.slice o 0 cap, oddX] w fun e w' => e = .returned (.int .i64 (-1)) ∧ Kept w w' := by
  go_enter Try.func41, Try.ntmps41
  go_wp2
  refine wp_loop_rounds 1 ?_
  rw [rounds_succ]
  go_wp2
  go_ret
  exact ⟨rfl, Kept.refl _⟩
set_option maxHeartbeats 1000000 in
theorem crossIndex_some (b off n cap : Nat) (Z : Nat → Int) (w : World) (hz : IntsAt w b off n Z) (hn : n ≤ 17592186043904) :
    Calls Try.prog 41 #[.slice (some ⟨b, off, none⟩) n cap, oddX] w fun e w' => ∃ r : Int, e = .returned (.int .i64 r) ∧ IdxR (allX Z n) r ∧ Kept w w' := by
  go_enter Try.func41, Try.ntmps41
  go_wp2
  go_loopw [5, 8] (fun _ i wx => ∃ k : Nat, k ≤ n ∧ i = .int .i64 k ∧ Kept w wx ∧ allX Z k = true) (fun _ i _ => n - (intOf i).toNat)
  case atStart => exact ⟨0, Nat.zero_le _, rfl, Kept.refl _, rfl⟩
  case round =>
    obtain ⟨k, hk4, rfl, hk, hal⟩ := hrel
    have hal' := Lib.hid hal
    clear hal
    by_cases hlt : k < n
    · have c1 := (hz.kept hk) k hlt
      cases hb : inX (Z k)
      · have hno := Lib.hid (allX_no hlt hb)
        generalize Z k = x at *
        go_wp2_with fail
        refine (crossOdd_any _ _).mono ?_
        rintro e w1 ⟨rfl, hn⟩
        replace hk := hk.trans hn
        clear hn
        go_wp2
        go_ret
        exact ⟨_, rfl, by rw [hno.out]; show (0 : Int) ≤ k; omega, hk⟩
      · have hyes := Lib.hid (show allX Z (k + 1) = true by unfold allX; rw [hal'.out, hb]; rfl)
        generalize Z k = x at *
        go_wp2_with fail
        refine (crossOdd_any _ _).mono ?_
        rintro e w1 ⟨rfl, hn⟩
        replace hk := hk.trans hn
        clear hn
        go_wp2
        go_roundw
        case rel => exact ⟨k + 1, by omega, by go_num, hk, hyes.out⟩
        case measure => simp [intOf]; omega
    · obtain rfl : k = n := by omega
      go_wp2
      go_ret
      exact ⟨_, rfl, by rw [hal'.out]; exact rfl, hk⟩
theorem crossContains_any (v : Value) (n : Nat) (Z : Nat → Int) (w : World) (hz : IV w v n Z) (hn : n ≤ 17592186043904) :
    Calls Try.prog 31 #[v, oddX] w fun e w' => e = .returned (.bool !(allX Z n)) ∧ Kept w w' := by
  rcases hz with ⟨rfl, o, cap, rfl⟩ | ⟨b, off, cap, rfl, h2, h3, h4⟩
  · skip
    have hk : Kept w w := Kept.refl w
    go_enter Try.func31, Try.ntmps31
    go_wp2_with fail
    refine (crossIndex_none _ _ _).mono ?_
    rintro e w1 ⟨rfl, hn⟩
    replace hk := hk.trans hn
    clear hn
    go_wp2
    go_ret
    exact ⟨rfl, hk⟩
  · cases ha : allX Z n
    · skip
      have hk : Kept w w := Kept.refl w
      go_enter Try.func31, Try.ntmps31
      go_wp2_with fail
      refine (crossIndex_some b off n cap Z _ (h4.kept hk) hn).mono ?_
      rintro e w1 ⟨r, rfl, hr, hn⟩
      replace hk := hk.trans hn
      clear hn
      rw [ha] at hr
      have hr' : 0 ≤ r := hr
      clear hr
      go_wp2
      go_ret
      exact ⟨rfl, hk⟩
    · skip
      have hk : Kept w w := Kept.refl w
      go_enter Try.func31, Try.ntmps31
      go_wp2_with fail
      refine (crossIndex_some b off n cap Z _ (h4.kept hk) hn).mono ?_
      rintro e w1 ⟨r, rfl, hr, hn⟩
      replace hk := hk.trans hn
      clear hn
      rw [ha] at hr
      obtain rfl : r = -1 := hr
      go_wp2
      go_ret
      exact ⟨rfl, hk⟩
/-- the first ones together -/
def sumS (Z : Nat → Int) : Nat → Int
  | 0 => 0
  | k + 1 => sumS Z k + Z k
theorem sumS_bounds {Z : Nat → Int} {n : Nat} (h : allX Z n = true) : ∀ k, k ≤ n → -4194304 * (k : Int) ≤ sumS Z k ∧ sumS Z k ≤ 4194304 * (k : Int) := by
  intro k
  induction k with
  | zero => intro _; unfold sumS; omega
  | succ k ih =>
    intro hk
    have h1 := ih (by omega)
    have h2 := allX_yes h k (by omega)
    unfold sumS
    omega
def leftZ (room : Int) (Z : Nat → Int) (n : Nat) : Int := max 0 (room - sumS Z n)
def aheadS (just left : Int) (i n : Nat) : Int := if just = 1 then left else if just = 2 then left / 2 else if just = 3 ∧ 1 < n then (left * (i : Int)).tdiv ((n : Int) - 1) else 0
theorem prod_bounds {left : Int} {i : Nat} (h : 0 ≤ left ∧ left ≤ 200000000) (hi : i ≤ 32) : 0 ≤ left * (i : Int) ∧ left * (i : Int) ≤ 6400000000 := by
  have h1 : left * (i : Int) ≤ left * 32 := Int.mul_le_mul_of_nonneg_left (by omega) h.1
  have h2 : 0 ≤ left * (i : Int) := Int.mul_nonneg h.1 (by omega)
  omega
theorem tdiv_bounds {a b : Int} (ha : 0 ≤ a) (hb : 1 ≤ b) : 0 ≤ a.tdiv b ∧ a.tdiv b ≤ a := by
  rw [Int.tdiv_eq_ediv_of_nonneg ha]
  exact ⟨Int.ediv_nonneg ha (by omega), Int.ediv_le_self _ ha⟩
theorem ahead_bounds {just left : Int} {i n : Nat} (h : 0 ≤ left ∧ left ≤ 200000000) (hi : i ≤ 32) : 0 ≤ aheadS just left i n ∧ aheadS just left i n ≤ 6400000000 := by
  have hp := prod_bounds h hi
  unfold aheadS
  split
  · omega
  · split
    · omega
    · split
      · rename_i _ _ h3
        have := tdiv_bounds hp.1 (show (1 : Int) ≤ (n : Int) - 1 by omega)
        omega
      · omega
set_option maxHeartbeats 1000000 in
theorem rowAhead_any (just left : Int) (i n : Nat) (w : World) (h : 0 ≤ left ∧ left ≤ 200000000) (hi : i ≤ 32) (hn : n ≤ 32) :
    Calls Try.prog 42 #[.int .i64 just, .int .i64 left, .int .i64 (i : Nat), .int .i64 (n : Nat)] w fun e w' => e = .returned (.int .i64 (aheadS just left i n)) ∧ Kept w w' := by
  by_cases h1 : just = 1
  · subst h1
    have Hs := Lib.hid (show aheadS 1 left i n = left from rfl)
    go_enter Try.func42, Try.ntmps42
    go_wp2
    go_ret
    exact ⟨ret_int (by rw [Hs.out]), Kept.refl _⟩
  · by_cases h2 : just = 2
    · subst h2
      have Hs := Lib.hid (show aheadS 2 left i n = left / 2 from rfl)
      go_enter Try.func42, Try.ntmps42
      go_wp2
      go_ret
      exact ⟨ret_int (by rw [Hs.out]), Kept.refl _⟩
    · by_cases h3 : just = 3 ∧ 1 < n
      · have Hs := Lib.hid (show aheadS just left i n = (left * (i : Int)).tdiv ((n : Int) - 1) by unfold aheadS; rw [if_neg h1, if_neg h2, if_pos h3])
        have hp := prod_bounds h hi
        have hb := tdiv_bounds hp.1 (show (1 : Int) ≤ (n : Int) - 1 by omega)
        obtain ⟨h4, h5⟩ := h3
        subst h4
        have h6 : (1 : Int) < (n : Int) := by omega
        have h7 : (n : Int) - 1 ≠ 0 := by omega
        obtain ⟨p, hpe⟩ : ∃ p, left * (i : Int) = p := ⟨_, rfl⟩
        rw [hpe] at hp hb Hs
        obtain ⟨q, hqe⟩ : ∃ q, p.tdiv ((n : Int) - 1) = q := ⟨_, rfl⟩
        rw [hqe] at hb Hs
        go_enter Try.func42, Try.ntmps42
        go_wp2
        go_ret
        exact ⟨ret_int (by rw [Hs.out]), Kept.refl _⟩
      · have Hs := Lib.hid (show aheadS just left i n = 0 by unfold aheadS; rw [if_neg h1, if_neg h2, if_neg h3])
        by_cases h4 : just = 3
        · subst h4
          have h5 : ¬ (1 < (n : Int)) := by omega
          have h6 : n ≤ 1 := by omega
          clear h3
          go_enter Try.func42, Try.ntmps42
          go_wp2
          go_ret
          exact ⟨ret_int (by rw [Hs.out]), Kept.refl _⟩
        · clear h3
          go_enter Try.func42, Try.ntmps42
          go_wp2
          go_ret
          exact ⟨ret_int (by rw [Hs.out]), Kept.refl _⟩
/-- where the i-th one stands -/
def placeS (just room : Int) (n : Nat) (Z : Nat → Int) (i : Nat) : Int := sumS Z i + aheadS just (leftZ room Z n) i n
theorem left_bounds {room : Int} {n : Nat} {Z : Nat → Int} (h : allX Z n = true) (hn : n ≤ 32) (hr : 0 ≤ room ∧ room ≤ 4194304) : 0 ≤ leftZ room Z n ∧ leftZ room Z n ≤ 200000000 := by
  have := sumS_bounds h n (Nat.le_refl _)
  unfold leftZ
  omega
theorem made_own (M i : Nat) (h : i < M) : (madeCells #[.int .i64 0] M)[i]? = some (.int .i64 0) := by
  unfold madeCells
  rw [Array.getElem?_map, Array.getElem?_range, if_pos h]
  simp [Nat.mod_one]
set_option maxHeartbeats 2000000 in
theorem rowPlaces_some (just room : Int) (b off n cap : Nat) (Z : Nat → Int) (w : World) (hz : IntsAt w b off n Z) (hp : 0 < n) (hn : n ≤ 32) (ha : allX Z n = true) (hr : 0 ≤ room ∧ room ≤ 4194304) :
    Calls Try.prog 37 #[.int .i64 just, .int .i64 room, .slice (some ⟨b, off, none⟩) n cap] w fun e w' => ∃ u, e = .returned u ∧ NewOnes 3 w w' u n (placeS just room n Z) ∧ Kept w w' := by
  have HA := Lib.hid ha
  have hmk := run_make_row' (P := Try.prog) 22 3 (.int .i64 0) 8 Try.underlying22 intInfo1 rfl .i64 .i64 n (by omega) (by omega)
  clear ha
  go_enter Try.func37, Try.ntmps37
  go_wp2
  go_loop [7, 9, 17] (fun l _ i => ∃ k : Nat, k ≤ n ∧ i = .int .i64 k ∧ l = .int .i64 (room - sumS Z k)) (fun _ _ i => n - (intOf i).toNat)
  case atStart => exact ⟨0, Nat.zero_le _, rfl, by simp [sumS]⟩
  case round =>
    obtain ⟨k, hkn, rfl, rfl⟩ := hrel
    have hb := sumS_bounds HA.out k hkn
    by_cases hlt : k < n
    · have c0 := hz k hlt
      have hx := allX_yes HA.out k hlt
      have e1 : sumS Z (k + 1) = sumS Z k + Z k := rfl
      replace e1 := Lib.hid e1
      generalize sumS Z k = p at *
      generalize Z k = x at *
      go_wp2
      go_round
      case rel => exact ⟨k + 1, by omega, by go_num, by rw [e1.out]; congr 1; omega⟩
      case measure => simp [intOf]; omega
    · obtain rfl : k = n := by omega
      have hL := left_bounds HA.out hn hr
      have hLe : leftZ room Z k = max 0 (room - sumS Z k) := rfl
      obtain ⟨L, hLL⟩ : ∃ L, leftZ room Z k = L := ⟨_, rfl⟩
      rw [hLL] at hL hLe
      have HPL := Lib.hid (show ∀ i, placeS just room k Z i = sumS Z i + aheadS just L i k from fun i => by unfold placeS; rw [hLL])
      clear hLL
      generalize sumS Z k = S at *
      obtain ⟨D, hD⟩ : ∃ D, room - S = D := ⟨_, rfl⟩
      rw [hD] at hLe
      have hDb : -200000000 ≤ D ∧ D ≤ 200000000 := by omega
      have hLc : 0 < D ∧ L = D ∨ D = 0 ∧ L = 0 ∨ D < 0 ∧ L = 0 := by omega
      clear hLe hb
      have HZ := Lib.hid hz
      have HK := Lib.hid hkn
      rcases hLc with ⟨h1, rfl⟩ | ⟨h1, rfl⟩ | ⟨h1, rfl⟩
      all_goals
        go_wp2
        clear hmk
        go_loopw [11, 12, 13, 32] (fun p _ _ i wx => ∃ (j : Nat) (cur : Array Value), j ≤ k ∧ i = .int .i64 j ∧ p = .int .i64 (sumS Z j) ∧ Kept w wx ∧ Own wx w.heap.size 3 cur ∧ cur.size = k ∧ ∀ i, i < j → cur[i]? = some (.int .i64 (placeS just room k Z i))) (fun _ _ _ i _ => k - (intOf i).toNat)
        case atStart => exact ⟨0, _, Nat.zero_le _, rfl, rfl, (Kept.refl w).alloc _, Own.new w _ _, size_madeCells _ _, fun i hi => by omega⟩
        case round =>
          obtain ⟨j, cur, hj, rfl, rfl, hk, g, hcs, hcur⟩ := hrel
          have hbs := sumS_bounds HA.out j hj
          by_cases hjk : j < k
          · have c0 := (HZ.out.kept hk) j hjk
            have hx := allX_yes HA.out j hjk
            have e1 : sumS Z (j + 1) = sumS Z j + Z j := rfl
            have HPJ := Lib.hid (HPL.out j)
            have hab := ahead_bounds (just := just) (i := j) (n := k) hL (by omega)
            obtain ⟨old, hold⟩ : ∃ old, cur[j]? = some old := ⟨_, Array.getElem?_eq_getElem (by omega)⟩
            have CT := Lib.hid (rowAhead_any just _ j k · hL (by omega) hn)
            replace e1 := Lib.hid e1
            have HC := Lib.hid hcur
            have HS := Lib.hid hcs
            clear hcur hcs
            generalize sumS Z j = p at *
            generalize Z j = x at *
            generalize aheadS just _ j k = q at *
            go_wp2_with fail
            refine (CT.out _).mono ?_
            rintro e w1 ⟨rfl, hn2⟩
            replace hk := hk.trans hn2
            replace g := g.kept hn2
            have gl := g.lt
            have gc := (g.cell j).trans hold
            have gf := g.free j
            have G := Lib.hid g
            clear g
            go_wp2
            go_roundw
            case rel =>
              refine ⟨j + 1, cur.setIfInBounds j (.int .i64 (p + q)), by omega, by go_num, by rw [e1.out], hk.set (Nat.le_refl _) _, G.out.set j _, by rw [Array.size_setIfInBounds]; exact HS.out, fun i hi => ?_⟩
              rcases Nat.lt_or_ge i j with h3 | h3
              · rw [Array.getElem?_setIfInBounds_ne (by omega)]; exact HC.out i h3
              · obtain rfl : i = j := by omega
                have hsz := HS.out
                rw [Array.getElem?_setIfInBounds_self_of_lt (by omega), HPJ.out]
            case measure => simp [intOf]; omega
          · obtain rfl : k = j := by omega
            go_wp2
            go_ret
            exact ⟨_, rfl, .inr ⟨w.heap.size, k, cur, rfl, hp, Nat.le_refl _, by unfold maxLen; omega, Nat.le_refl _, g, hcs, hcur⟩, hk⟩
end Go.Proofs.Ytkncagphlfpafaa
