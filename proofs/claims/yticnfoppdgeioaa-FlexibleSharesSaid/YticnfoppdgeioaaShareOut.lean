/- Layer 20: shares, by the program. -/
import Derived.Test.YticnfoppdgeioaaFlexS
import Derived.Test.YticnfoppdgeioaaIntRow
import Derived.Test.YticnfoppdgeioaaOwn
namespace Go.Proofs.Yticnfoppdgeioaa
open Go.RowKit
set_option linter.unusedSimpArgs false
set_option linter.unusedVariables false
/-- v is a row of n cells that was made since a, from its beginning on -/
def Made (t : TypeId) (a w : World) (v : Value) (n : Nat) (C : Nat → Value) : Prop := ∃ b cs, v = .slice (some ⟨b, 0, none⟩) n n ∧ a.heap.size ≤ b ∧ Own w b t cs ∧ cs.size = n ∧ ∀ i, i < n → cs[i]? = some (C i)
def intZ (Z : Nat → Int) (i : Nat) : Value := .int .i64 (Z i)
theorem Made.kept {t : TypeId} {a w w' : World} {v : Value} {n : Nat} {C : Nat → Value} (h : Made t a w v n C) (k : Kept w w') : Made t a w' v n C := by
  obtain ⟨b, cs, h1, h2, h3, h4, h5⟩ := h
  exact ⟨b, cs, h1, h2, h3.kept k, h4, h5⟩
theorem Made.earlier {t : TypeId} {a w w' : World} {v : Value} {n : Nat} {C : Nat → Value} (h : Made t w w' v n C) (k : Kept a w) : Made t a w' v n C := by
  obtain ⟨b, cs, h1, h2, h3, h4, h5⟩ := h
  exact ⟨b, cs, h1, Nat.le_trans k.size h2, h3, h4, h5⟩
theorem cells_set {C : Nat → Value} {cs : Array Value} {n j : Nat} {v : Value} (hs : cs.size = n) (hj : j < n) (h : ∀ i, i < j → cs[i]? = some (C i)) (hv : v = C j) : ∀ i, i < j + 1 → (cs.setIfInBounds j v)[i]? = some (C i) := by
  intro i hi
  rcases Nat.lt_or_ge i j with h3 | h3
  · rw [Array.getElem?_setIfInBounds_ne (by omega)]; exact h i h3
  · obtain rfl : i = j := by omega
    rw [Array.getElem?_setIfInBounds_self_of_lt (by omega), hv]
theorem ints_own {w : World} {b n : Nat} {t : TypeId} {cs : Array Value} {Z : Nat → Int} (h : Own w b t cs) (hc : ∀ i, i < n → cs[i]? = some (intZ Z i)) (i : Nat) (hi : i < n) : w.cell? ⟨b, i, none⟩ = some (.int .i64 (Z i)) := (h.cell i).trans (hc i hi)
theorem made_zero (n : Nat) : ∀ i, i < n → (madeCells #[Value.int .i64 0] n)[i]? = some (.int .i64 0) := by
  intro i h
  unfold madeCells
  rw [Array.getElem?_map, Array.getElem?_range, if_pos (by simpa using h)]
  simp [Nat.mod_one]
set_option maxHeartbeats 2000000 in
theorem shareOut_any (f : Int) (bw n : Nat) (W : Nat → Int) (w : World) (hw : ∀ i, i < n → w.cell? ⟨bw, i, none⟩ = some (.int .i64 (W i))) (hW : ∀ i, i < n → 0 ≤ W i ∧ W i ≤ 419430400) (hf : 0 ≤ f ∧ f ≤ 268435456) (hn : n ≤ 32) :
    Calls Try.prog 38 #[.int .i64 f, .slice (some ⟨bw, 0, none⟩) n n] w fun e w' => ∃ u, e = .returned u ∧ Made 3 w w' u n (intZ (shS f W n)) ∧ Kept w w' := by
  have HW := Lib.hid hW
  have HM := Lib.hid (sumW_mono (fun i hi => (hW i hi).1))
  have HB := Lib.hid (fun k (hk : k ≤ n) => sumW_bd (n := k) (fun i hi => hW i (Nat.lt_of_lt_of_le hi hk)))
  have HQ := Lib.hid (quS_bd (f := f) (fun i hi => (hW i hi).1) hf.1)
  have hmk := run_make_row' (P := Try.prog) 24 3 (.int .i64 0) 8 Try.underlying24 intInfo1 rfl .i64 .i64 n (by omega) (by omega)
  clear hW
  go_enter Try.func38, Try.ntmps38
  go_wp2
  have hk1 : Kept w (w.alloc (.cells (madeCells #[.int .i64 0] n) 3)) := (Kept.refl w).alloc _
  go_loopw [6, 8, 18] (fun s _ i wx => ∃ k : Nat, k ≤ n ∧ i = .int .i64 k ∧ s = .int .i64 (sumW W k) ∧ wx = w.alloc (.cells (madeCells #[.int .i64 0] n) 3)) (fun _ _ i _ => n - (intOf i).toNat)
  case atStart =>
    refine ⟨0, Nat.zero_le _, rfl, rfl, ?_⟩
    first | rfl | trivial
  case round =>
    obtain ⟨k, hkn, rfl, rfl, rfl⟩ := hrel
    have hb := HB.out k hkn
    have hb0 := (HM.out k hkn).1
    by_cases hlt : k < n
    · have hi1 : (k : Int) < (n : Int) := by omega
      have c0 := (hk1.cell (World.block_lt_of_cell? w _ (hw k hlt))).trans (hw k hlt)
      have hx := HW.out k hlt
      have e1 : sumW W (k + 1) = sumW W k + W k := rfl
      replace e1 := Lib.hid e1
      generalize sumW W k = p at *
      generalize W k = x at *
      go_wp2
      go_roundw
      case rel => exact ⟨k + 1, by omega, by go_num, by rw [e1.out], by first | rfl | trivial⟩
      case measure => simp [intOf]; omega
    · obtain rfl : k = n := by omega
      clear hmk
      obtain ⟨T, hT⟩ : ∃ T, sumW W k = T := ⟨_, rfl⟩
      have HT := Lib.hid hT
      rw [hT] at hb hb0 ⊢
      have g := Own.new w (madeCells #[.int .i64 0] k) 3
      have hms := size_madeCells #[Value.int .i64 0] k
      have hmz := made_zero k
      have HW1 := Lib.hid hw
      generalize (madeCells #[Value.int .i64 0] k) = cur at *
      generalize w.alloc (.cells cur 3) = W1 at *
      clear hT hw
      by_cases h0 : T = 0
      · subst h0
        go_wp2
        go_ret
        exact ⟨_, rfl, ⟨_, cur, rfl, Nat.le_refl _, g, hms, fun i hi => by rw [hmz i hi]; unfold intZ shS; rw [if_pos HT.out]⟩, hk1⟩
      · go_wp2
        clear hmz
        have g2 := Lib.hid g
        have hms2 := Lib.hid hms
        have hk2 := Lib.hid hk1
        clear g hms hk1
        go_loopw [9, 10, 11, 12, 31] (fun p q _ _ i wx => ∃ (j : Nat) (cs : Array Value), j ≤ k ∧ i = .int .i64 j ∧ p = .int .i64 (sumW W j) ∧ q = .int .i64 (quS f W k j) ∧ Kept w wx ∧ Own wx w.heap.size 3 cs ∧ cs.size = k ∧ ∀ i, i < j → cs[i]? = some (intZ (shS f W k) i)) (fun _ _ _ _ i _ => k - (intOf i).toNat)
        case atStart =>
          exact ⟨0, cur, Nat.zero_le _, rfl, rfl, by rw [quS_zero], hk2.out, g2.out, hms2.out, fun i hi => by omega⟩
        case round =>
          obtain ⟨j, cs, hj, rfl, rfl, rfl, hk3, g, hcs, hc⟩ := hrel
          by_cases hjk : j < k
          · have hi1 : (j : Int) < (k : Int) := by omega
            have c0 := (hk3.cell (World.block_lt_of_cell? w _ (HW1.out j hjk))).trans (HW1.out j hjk)
            have hx := HW.out j hjk
            have hp1 := HB.out j hj
            have hp2 := HB.out (j + 1) (by omega)
            have hq1 := (HQ.out (by rw [HT.out]; exact h0) j hj).1
            have hq2 := (HQ.out (by rw [HT.out]; exact h0) (j + 1) (by omega)).1
            have e1 : sumW W j + W j = sumW W (j + 1) := rfl
            have hm1 : 0 ≤ f * sumW W (j + 1) := Int.mul_nonneg hf.1 (HM.out (j + 1) (by omega)).1
            have hm2 : f * sumW W (j + 1) ≤ 268435456 * 13421772800 := Int.mul_le_mul hf.2 (by omega) (HM.out (j + 1) (by omega)).1 (by decide)
            obtain ⟨m, hm⟩ : ∃ m, f * sumW W (j + 1) = m := ⟨_, rfl⟩
            have e2 : m.tdiv T = quS f W k (j + 1) := by unfold quS; rw [HT.out, hm]
            have HE := Lib.hid (show shS f W k j = quS f W k (j + 1) - quS f W k j by unfold shS; rw [if_neg (by rw [HT.out]; exact h0)])
            rw [hm] at hm1 hm2
            obtain ⟨old, hold⟩ : ∃ old, cs[j]? = some old := ⟨_, Array.getElem?_eq_getElem (by omega)⟩
            have gl := g.lt
            have gc := (g.cell j).trans hold
            have gf := g.free j
            have G := Lib.hid g
            have HC := Lib.hid hc
            have HS := Lib.hid hcs
            have HK3 := Lib.hid hk3
            clear g hc hcs hk3
            obtain ⟨p', hp'⟩ : ∃ z, sumW W (j + 1) = z := ⟨_, rfl⟩
            obtain ⟨q', hq'⟩ : ∃ z, quS f W k (j + 1) = z := ⟨_, rfl⟩
            rw [hp'] at e1 hm hp2
            rw [hq'] at e2 hq2 HE
            have HX := Lib.hid (And.intro hp' hq')
            clear hp' hq'
            generalize sumW W j = p at *
            generalize quS f W k j = q at *
            generalize W j = x at *
            have t0 : ¬ T = 0 := h0
            go_wp2
            exact ⟨⟨j + 1, _, by omega, by first | rfl | go_num, by rw [HX.out.1], by rw [HX.out.2]; congr 1; omega, HK3.out.set (Nat.le_refl _) _, G.out.set j _, by rw [Array.size_setIfInBounds]; exact HS.out, cells_set HS.out hjk HC.out (by unfold intZ; rw [HE.out])⟩, by first | (simp [intOf]; done) | (simp [intOf]; omega)⟩
          · obtain rfl : j = k := by omega
            go_wp2
            go_ret
            exact ⟨_, rfl, ⟨_, cs, rfl, Nat.le_refl _, g, hcs, hc⟩, hk3⟩
end Go.Proofs.Yticnfoppdgeioaa
