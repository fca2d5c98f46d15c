/- Layer 20: items that may neither grow nor shrink. -/
import Derived.Test.YticnfoppdgeioaaLaw20Stops
import Derived.Test.YticnfoppdgeioaaRowItems
import Derived.Test.YticnfoppdgeioaaCells
import Derived.Deep.QuietTactic
import Derived.BigQuiet
namespace Go.Proofs.Yticnfoppdgeioaa
open Go.RowKit Go.Deep
set_option linter.unusedSimpArgs false
set_option linter.unusedVariables false
theorem row_len20 {w : World} {base : Nat} {e : TypeId} {size : Nat} {v : Value} {m : Nat} {xs : List Value} (h : w.ownsRow base e size v m xs) : ∃ o cap, v = .slice o m cap := by
  rcases h.2 with ⟨hv, h0⟩ | ⟨g, cap, cur, rfl, _⟩
  · subst h0; exact ⟨_, _, hv⟩
  · exact ⟨_, cap, rfl⟩
def fixZ (Z : Nat → Nat → Int) (i j : Nat) : Int := if j = 3 ∨ j = 4 then 0 else Z i j
theorem fixed_is (Z : Nat → Nat → Int) (r : Int) (n : Nat) : ∀ i, i < n → resS (itemOf (fixZ Z)) r n i = wishS (itemOf Z i) := by
  intro i hi
  have hf : ∀ g, openS (firstF g (itemOf (fixZ Z))) n = 0 := fun g => openS_zero.2 fun i hi => by
    unfold firstF
    cases g with
    | true => rw [if_pos rfl]; rfl
    | false => rw [if_neg (by decide)]; rfl
  unfold resS
  rw [runS_done (hf _)]
  rfl
set_option maxRecDepth 20000 in
set_option maxHeartbeats 4000000 in
theorem flexFixed_main (sl : Option Addr) (n cap : Nat) (Z : Nat → Nat → Int) (room : Int) (w : World) (h : 0 < n → ∃ b off, sl = some ⟨b, off, none⟩ ∧ ItemsAt w b off n (itemOf Z)) (hnn : n ≤ 2932031007317) :
    Calls Try.prog 8 #[.slice sl n cap, .int .i64 room] w fun e w' => e = .returned (.bool true) ∧ Kept w w' := by
  obtain ⟨i0, hi, hz0, hz1, hz2⟩ := info_parts itemsInfo
  obtain ⟨q, hq, q0, q1⟩ := masked room 14 16383 (by decide) (by decide)
  have hk : Kept w w := Kept.refl w
  go_enter Try.func8, Try.ntmps8
  go_wp2_with fail
  refine (awake20_any _).mono ?_
  rintro e w1 ⟨rfl, hn⟩
  replace hk := hk.trans hn
  clear hn
  obtain ⟨W0, hW0⟩ : ∃ z, z = w1 := ⟨_, rfl⟩
  rw [← hW0] at hk ⊢
  clear hW0
  have hk0 := Lib.hid hk
  clear hk
  go_wp2_with fail
  go_loopw [5, 6] (fun v i wx => ∃ k : Nat, k ≤ n ∧ i = .int .i64 k ∧ OR wx W0.heap.size 38 6 v k (flat 6 (intC (fixZ Z)) k) ∧ Kept W0 wx) (fun _ i _ => n - (intOf i).toNat)
  case atStart => exact ⟨0, Nat.zero_le _, rfl, ⟨World.ownsRow_nil _ _ _ _⟩, Kept.refl _⟩
  case round =>
    obtain ⟨k, hkn, rfl, ho, kX⟩ := hrel
    have hk := hk0.out.trans kX
    by_cases hlt : k < n
    · have hi1 : (k : Int) < (n : Int) := by omega
      obtain ⟨b, off, rfl, ha0⟩ := h (by omega)
      have ha := ha0.kept hk
      have c0 : wr.cell? ⟨b, off + k * 6, none⟩ = some (.int .i64 (Z k 0)) := ha.base k hlt
      have c1 : wr.cell? ⟨b, off + k * 6 + 1, none⟩ = some (.int .i64 (Z k 1)) := ha.min k hlt
      have c2 : wr.cell? ⟨b, off + k * 6 + 2, none⟩ = some (.int .i64 (Z k 2)) := ha.max k hlt
      have c3 : wr.cell? ⟨b, off + k * 6 + 3, none⟩ = some (.int .i64 (Z k 3)) := ha.grow k hlt
      have c4 : wr.cell? ⟨b, off + k * 6 + 4, none⟩ = some (.int .i64 (Z k 4)) := ha.shrink k hlt
      have c5 : wr.cell? ⟨b, off + k * 6 + 5, none⟩ = some (.int .i64 (Z k 5)) := ha.extra k hlt
      have HO := Lib.hid ho
      have HFL := Lib.hid (show flat 6 (intC (fixZ Z)) k ++ [.int .i64 (Z k 0), .int .i64 (Z k 1), .int .i64 (Z k 2), .int .i64 0, .int .i64 0, .int .i64 (Z k 5)] = flat 6 (intC (fixZ Z)) (k + 1) from rfl)
      have hle := kX.size
      clear ha ha0 ho
      generalize Z k 0 = z0 at *
      generalize Z k 1 = z1 at *
      generalize Z k 2 = z2 at *
      generalize Z k 3 = z3 at *
      generalize Z k 4 = z4 at *
      generalize Z k 5 = z5 at *
      have HLC : ∀ j u, ([.int .i64 z0, .int .i64 z1, .int .i64 z2, .int .i64 0, .int .i64 0, .int .i64 z5] : List Value)[j]? = some u → ((wr.alloc (.cells #[.int .i64 z0, .int .i64 z1, .int .i64 z2, .int .i64 0, .int .i64 0, .int .i64 z5] 38)).alloc (.cells #[.int .i64 z0, .int .i64 z1, .int .i64 z2, .int .i64 0, .int .i64 0, .int .i64 z5] 38)).cell? ((⟨wr.heap.size + 1, 0, none⟩ : Addr).add j) = some u := by
        have := lit_cells (wr.alloc (.cells #[.int .i64 z0, .int .i64 z1, .int .i64 z2, .int .i64 0, .int .i64 0, .int .i64 z5] 38)) #[.int .i64 z0, .int .i64 z1, .int .i64 z2, .int .i64 0, .int .i64 0, .int .i64 z5] 38
        rwa [show (wr.alloc (.cells #[.int .i64 z0, .int .i64 z1, .int .i64 z2, .int .i64 0, .int .i64 0, .int .i64 z5] 38)).heap.size = wr.heap.size + 1 by simp] at this
      go_wp2_with (at_builtin; refine wpList_append_own _ rfl _ _ 22 rfl W0.heap.size 38 i0 (.agg #[.int .i64 0, .int .i64 0, .int .i64 0, .int .i64 0, .int .i64 0, .int .i64 0]) 6 48 Try.underlying22 hi hz0 hz1 hz2 rfl (by decide) _ _ _ rfl ((HO.out.own.alloc _).alloc _) ⟨wr.heap.size + 1, 0, none⟩ 1 1 [.int .i64 z0, .int .i64 z1, .int .i64 z2, .int .i64 0, .int .i64 0, .int .i64 z5] rfl rfl HLC (by simp [Value.oneCell']) (by unfold maxLen; omega) (by omega) (by simp; omega) ?_; intro v2 w2 hown2 hg2 hnil2)
      have kX2 := ((kX.alloc _).alloc _).grown hg2 (row_ge HO.out.own)
      exact ⟨⟨k + 1, by omega, by first | rfl | go_num, ⟨by rw [← HFL.out]; exact hown2⟩, kX2⟩, by first | (simp [intOf]; done) | (simp [intOf]; omega)⟩
    · obtain rfl : k = n := by omega
      obtain ⟨o7, c7, rfl⟩ := row_len20 ho.own
      have hr7 : RV 6 wr (.slice o7 k c7) k (intC (fixZ Z)) := by
        have h := newRow_of (ho.own)
        exact h.rv
      have HR7 := Lib.hid hr7
      clear ho kX hr7
      cases hg : goodF k (itemOf (fixZ Z)) q with
      | false =>
        have HG := Lib.hid hg
        clear hg
        go_wp2_with fail
        refine (flexible_no _ k _ _ _ (itv_row (HR7.out)) (by omega) HG.out).mono ?_
        rintro e w1 ⟨rfl, hn⟩
        replace hk := hk.trans hn
        clear hn
        go_wp2_with fail
        refine (num_any _ _).mono ?_
        rintro e w1 ⟨rfl, rfl⟩
        go_wp2
        go_ret
        exact ⟨rfl, hk⟩
      | true =>
        have HG := Lib.hid hg
        clear hg
        have HKW := Lib.hid hk
        clear hk
        have hk := Kept.refl wr
        go_wp2_with fail
        refine (flexible_is _ k _ _ _ (itv_row (HR7.out)) (by omega) HG.out (fun i => max (min (Z i 0) (Z i 2)) (Z i 1)) (fun i hi => (fixed_is Z _ k i hi).trans (Int.max_comm _ _))).mono ?_
        rintro e w1 ⟨_, rfl, ⟨b9, c9, rfl, _, o9, z9, h9⟩, hn⟩
        replace hk := hk.trans hn
        clear hn
        obtain ⟨W1, hW1⟩ : ∃ z, z = w1 := ⟨_, rfl⟩
        rw [← hW1] at hk o9 ⊢
        clear hW1
        have HK1 := Lib.hid hk
        have HR8 := Lib.hid (HR7.out.kept hk)
        have C9 := Lib.hid (fun p (hp : p < k) => (o9.cell p).trans (h9 p hp))
        clear hk o9 z9 h9
        go_wp2_with fail
        refine (num_any _ _).mono ?_
        rintro e w1 ⟨rfl, rfl⟩
        go_wp2
        go_loopw [10] (fun i wx => ∃ p : Nat, p ≤ k ∧ i = .int .i64 p ∧ Kept W1 wx) (fun i _ => k - (intOf i).toNat)
        case atStart => exact ⟨0, Nat.zero_le _, rfl, Kept.refl _⟩
        case round =>
          obtain ⟨p, hpk, rfl, kZ⟩ := hrel
          by_cases hlt3 : p < k
          · have hp1 : (p : Int) < (k : Int) := by omega
            have hp0 : (0 : Int) ≤ (p : Int) := Int.natCast_nonneg _
            obtain ⟨b', off', rfl, hle', hrow⟩ := (HR8.out.kept kZ).row (by omega)
            have e0 : wr.cell? ⟨b', off' + p * 6, none⟩ = some (.int .i64 (Z p 0)) := hrow p 0 hlt3 (by decide)
            have e1 : wr.cell? ⟨b', off' + p * 6 + 1, none⟩ = some (.int .i64 (Z p 1)) := hrow p 1 hlt3 (by decide)
            have e2 : wr.cell? ⟨b', off' + p * 6 + 2, none⟩ = some (.int .i64 (Z p 2)) := hrow p 2 hlt3 (by decide)
            have e3 : wr.cell? ⟨b9, p, none⟩ = some (.int .i64 (max (min (Z p 0) (Z p 2)) (Z p 1))) := (kZ.cell (World.block_lt_of_cell? W1 _ (C9.out p hlt3))).trans (C9.out p hlt3)
            clear hrow
            generalize Z p 0 = z0 at *
            generalize Z p 1 = z1 at *
            generalize Z p 2 = z2 at *
            go_wp2
            go_quiet (fail)
            go_wp2
            exact ⟨⟨p + 1, by omega, by first | rfl | go_num, kZ.drewN _⟩, by first | (simp [intOf]; done) | (simp [intOf]; omega)⟩
          · obtain rfl : p = k := by omega
            go_wp2
            go_ret
            exact ⟨rfl, (HKW.out.trans HK1.out).trans kZ⟩
theorem flexFixed_walk (v : Value) (n : Nat) (Z : Nat → Nat → Int) (room : Int) (w : World) (hv : RV 6 w v n (intC Z)) (hnn : n ≤ 2932031007317) (hb : ∀ i j, inInt (Z i j)) :
    Calls Try.prog 8 #[v, .int .i64 room] w fun e w' => e = .returned (.bool true) ∧ Kept w w' := by
  rcases itv_row hv with ⟨o, cap, rfl, rfl⟩ | ⟨b, off, cap, rfl, hi⟩
  · exact flexFixed_main o 0 cap Z room w (fun h => by omega) hnn
  · exact flexFixed_main _ n cap Z room w (fun _ => ⟨b, off, rfl, hi⟩) hnn
end Go.Proofs.Yticnfoppdgeioaa
