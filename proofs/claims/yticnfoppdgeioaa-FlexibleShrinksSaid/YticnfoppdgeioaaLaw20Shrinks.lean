/- Layer 20: items that may shrink to nothing; together they are the room, or nothing. -/
import Derived.Test.YticnfoppdgeioaaLaw20Shares
import Derived.BigRegion
import Derived.Deep.CutRange
namespace Go.Proofs.Yticnfoppdgeioaa
open Go.RowKit Go.Deep
set_option linter.unusedSimpArgs false
set_option linter.unusedVariables false
def shrZ (B : Nat → Int) (i j : Nat) : Int := if j = 0 then B i else if j = 2 then 1073741824 else if j = 4 then 1 else 0
theorem shr_item (B : Nat → Int) : itemOf (shrZ B) = shrI B := rfl
theorem shr_good {r : Int} {B : Nat → Int} {n : Nat} (hB : ∀ i, 0 ≤ B i ∧ B i ≤ 1023) (hr : 0 ≤ r ∧ r ≤ 4095) (hn : n ≤ 9) : goodF n (itemOf (shrZ B)) r = true := by
  unfold goodF
  rw [mayI_true.2 ⟨by omega, allI_of fun i _ => ?_⟩, inB_true.2 ⟨by omega, by omega⟩]
  · rfl
  · have := hB i
    refine itemB_of ?_ ?_ ?_ ?_ ?_ ?_
    · show 0 ≤ B i ∧ B i ≤ 4194304; omega
    · show (0 : Int) ≤ 0 ∧ (0 : Int) ≤ 4194304; omega
    · show (0 : Int) ≤ 1073741824 ∧ (1073741824 : Int) ≤ 1073741824; omega
    · show (0 : Int) ≤ 0 ∧ (0 : Int) ≤ 100; omega
    · show (0 : Int) ≤ 1 ∧ (1 : Int) ≤ 100; omega
    · show (-4194304 : Int) ≤ 0 ∧ (0 : Int) ≤ 4194304; omega
set_option maxRecDepth 20000 in
set_option maxHeartbeats 4000000 in
theorem flexShrinks_main (sl : Option Addr) (n cap : Nat) (A : Nat → Int) (room : Int) (w : World) (hv : IV w (.slice sl n cap) n A) (hnn : n ≤ 17592186043904) :
    Calls Try.prog 7 #[.slice sl n cap, .int .i64 room] w fun e w' => e = .returned (.bool true) ∧ Kept w w' := by
  obtain ⟨i0, hi, hz0, hz1, hz2⟩ := info_parts itemsInfo
  obtain ⟨r, hr, r0, r1⟩ := masked room 12 4095 (by decide) (by decide)
  obtain ⟨G, hG⟩ : ∃ G : Nat → Int, ∀ i, bits .and .i64 (A i) 1023 = G i ∧ 0 ≤ G i ∧ G i ≤ 1023 := ⟨fun i => bits .and .i64 (A i) 1023, fun i => by obtain ⟨x, h1, h2⟩ := masked (A i) 10 1023 (by decide) (by decide); exact ⟨rfl, by show 0 ≤ bits .and .i64 (A i) 1023 ∧ bits .and .i64 (A i) 1023 ≤ 1023; omega⟩⟩
  have HGB := Lib.hid hG
  clear hG
  have hk : Kept w w := Kept.refl w
  go_enter Try.func7, Try.ntmps7
  go_wp2_with fail
  refine (awake20_any _).mono ?_
  rintro e w1 ⟨rfl, hn⟩
  replace hk := hk.trans hn
  clear hn
  obtain ⟨W0, hW0⟩ : ∃ z, z = w1 := ⟨_, rfl⟩
  rw [← hW0] at hk ⊢
  clear hW0
  have hk0 := Lib.hid hk
  clear hk
  go_wp2_with fail
  go_loopw [5, 6, 7] (fun v s i wx => ∃ k : Nat, k ≤ n ∧ k ≤ 9 ∧ i = .int .i64 k ∧ s = .int .i64 (sumW G k) ∧ OR wx W0.heap.size 38 6 v k (flat 6 (intC (shrZ G)) k) ∧ Kept W0 wx) (fun _ _ i _ => 9 - (intOf i).toNat)
  case atStart => exact ⟨0, Nat.zero_le _, Nat.zero_le _, rfl, rfl, ⟨World.ownsRow_nil _ _ _ _⟩, Kept.refl _⟩
  case round =>
    obtain ⟨k, hkn, hk9, rfl, rfl, ho, kX⟩ := hrel
    have hk := hk0.out.trans kX
    have hsb := sumW_bd (W := G) (n := k) (a := 0) (b := 1023) fun i _ => (HGB.out i).2
    by_cases hlt9 : k < n ∧ k < 9
    · obtain ⟨hlt, h9⟩ := hlt9
      have hi1 : (k : Int) < (n : Int) := by omega
      have hi9 : (k : Int) < 9 := by omega
      obtain ⟨bb, off, rfl, hc⟩ := iv_cell (hv.kept hk0.out) (by omega)
      have HC0 := Lib.hid (hc k hlt)
      have c0 := cell_kept kX (hc k hlt)
      obtain ⟨hgk, g0, g1⟩ := HGB.out k
      have e1 := Lib.hid (show sumW G (k + 1) = sumW G k + G k from rfl)
      have HO := Lib.hid ho
      have HFL := Lib.hid (show flat 6 (intC (shrZ G)) k ++ [.int .i64 (G k), .int .i64 0, .int .i64 1073741824, .int .i64 0, .int .i64 1, .int .i64 0] = flat 6 (intC (shrZ G)) (k + 1) from rfl)
      have hle := kX.size
      have lB := World.block_lt_of_cell? _ _ c0
      clear hc ho
      generalize sumW G k = t at *
      generalize G k = g at *
      generalize A k = x at *
      have hkA := (Kept.refl wr).alloc (.cells #[.int .i64 g, .int .i64 0, .int .i64 1073741824, .int .i64 0, .int .i64 1, .int .i64 0] 38)
      have c1 := cell_kept hkA c0
      have HLC := lit_cells wr #[.int .i64 g, .int .i64 0, .int .i64 1073741824, .int .i64 0, .int .i64 1, .int .i64 0] 38
      go_wp2_with (at_builtin; refine wpList_append_own _ rfl _ _ 22 rfl W0.heap.size 38 i0 (.agg #[.int .i64 0, .int .i64 0, .int .i64 0, .int .i64 0, .int .i64 0, .int .i64 0]) 6 48 Try.underlying22 hi hz0 hz1 hz2 rfl (by decide) _ _ _ rfl (HO.out.own.alloc _) ⟨wr.heap.size, 0, none⟩ 1 1 [.int .i64 g, .int .i64 0, .int .i64 1073741824, .int .i64 0, .int .i64 1, .int .i64 0] rfl rfl HLC (by simp [Value.oneCell']) (by unfold maxLen; omega) (by omega) (by simp; omega) ?_; intro v2 w2 hown2 hg2 hnil2; have c2 : w2.cell? ⟨bb, off + k, none⟩ = some (.int .i64 x) := cell_kept ((kX.alloc _).grown hg2 (row_ge HO.out.own)) HC0.out)
      have kX2 := (kX.alloc _).grown hg2 (row_ge HO.out.own)
      exact ⟨⟨k + 1, by omega, by omega, by first | rfl | go_num, by rw [e1.out], ⟨by rw [← HFL.out]; exact hown2⟩, kX2⟩, by first | (simp [intOf]; done) | (simp [intOf]; omega)⟩
    · obtain ⟨o7, c7, rfl⟩ := row_len20 ho.own
      have HR7 := Lib.hid (show RV 6 wr (.slice o7 k c7) k (intC (shrZ G)) from by
        have h := newRow_of (ho.own)
        exact h.rv)
      have HGD := Lib.hid (shr_good (r := r) (B := G) (fun i => (HGB.out i).2) ⟨r0, r1⟩ hk9)
      have HAL := Lib.hid (shrink_all (n := k) (B := G) (fun i _ => (HGB.out i).2) ⟨r0, r1⟩ hk9)
      obtain ⟨S, hS⟩ : ∃ S, resS (itemOf (shrZ G)) r k = S := ⟨_, rfl⟩
      have HS := Lib.hid hS
      rw [show resS (shrI G) r k = S from hS] at HAL
      clear ho kX hS
      have HKW := Lib.hid hk
      clear hk
      have hk := Kept.refl wr
      have hend : ((k : Int) < (n : Int) ∧ (k : Int) < 9) → False := fun h => hlt9 ⟨by omega, by omega⟩
      clear hlt9
      have hks : (k : Int) ≤ 9 := by omega
      generalize hT : sumW G k = T at *
      go_upto_region 6 with fail
      go_cut [22] from 15 to 22 (fun v wx => v = .bool false ∧ wr = wx)
      case first =>
        rcases Int.lt_or_le (k : Int) (n : Int) with hz | hz
        · have h9 : ¬ (k : Int) < 9 := fun h => hend ⟨hz, h⟩
          clear hend
          go_wp2_with fail
          go_meet
          exact ⟨rfl, rfl⟩
        · have h9 : ¬ (k : Int) < (n : Int) := by omega
          clear hend
          go_wp2_with fail
          go_meet
          exact ⟨rfl, rfl⟩
      case rest =>
        obtain ⟨rfl, hwc⟩ := hcut
        subst hwc
        clear hend
        go_wp2_with fail
        refine (flexible_is _ k _ _ _ (itv_row (HR7.out)) (by omega) HGD.out S (fun i hi => by rw [HS.out])).mono ?_
        rintro e w1 ⟨_, rfl, ⟨b9, c9, rfl, _, o9, z9, h9⟩, hn⟩
        replace hk := hk.trans hn
        clear hn
        obtain ⟨W1, hW1⟩ : ∃ z, z = w1 := ⟨_, rfl⟩
        rw [← hW1] at hk o9 ⊢
        clear hW1
        have HK1 := Lib.hid hk
        have HR8 := Lib.hid (HR7.out.kept hk)
        have C9 := Lib.hid (fun p (hp : p < k) => (o9.cell p).trans (h9 p hp))
        clear hk o9 z9 h9
        go_wp2_with fail
        refine (num_any _ _).mono ?_
        rintro e w1 ⟨rfl, rfl⟩
        have HSUM := Lib.hid hT
        clear hT
        go_wp2
        go_loopw [11, 12] (fun a i wx => ∃ p : Nat, p ≤ k ∧ i = .int .i64 p ∧ a = .int .i64 (sumW S p) ∧ Kept W1 wx) (fun _ i _ => k - (intOf i).toNat)
        case atStart => exact ⟨0, Nat.zero_le _, rfl, rfl, Kept.refl _⟩
        case round =>
          obtain ⟨p, hpk, rfl, rfl, kZ⟩ := hrel
          by_cases hlt3 : p < k
          · have hp1 : (p : Int) < (k : Int) := by omega
            have hp0 : (0 : Int) ≤ (p : Int) := Int.natCast_nonneg _
            obtain ⟨b', off', rfl, hle', hrow⟩ := (HR8.out.kept kZ).row (by omega)
            have e3 : wr.cell? ⟨b', off' + p * 6, none⟩ = some (.int .i64 (G p)) := hrow p 0 hlt3 (by decide)
            have s0 : wr.cell? ⟨b9, p, none⟩ = some (.int .i64 (S p)) := (kZ.cell (World.block_lt_of_cell? W1 _ (C9.out p hlt3))).trans (C9.out p hlt3)
            obtain ⟨hs0, hs1⟩ := HAL.out.1 p hlt3
            have e1 := Lib.hid (show sumW S (p + 1) = sumW S p + S p from rfl)
            have hsb2 := sumW_bd (W := S) (n := p) (a := 0) (b := 1023) fun i hi => by
              have h1 := HAL.out.1 i (by omega)
              have h2 := HGB.out i
              omega
            obtain ⟨_, g0, g1⟩ := HGB.out p
            clear hrow
            generalize sumW S p = t at *
            generalize S p = z at *
            generalize G p = g at *
            have n0 : ¬ z < 0 := by omega
            have n1 : ¬ g < z := by omega
            clear hs1
            go_upto_region 18 with fail
            go_region
            obtain ⟨X, eX⟩ : ∃ X, wr.drew = X := ⟨_, rfl⟩
            have kD : Kept wr X := by rw [← eX]; exact (Kept.refl _).drew
            rw [eX]
            replace s0 := cell_kept kD s0
            have kZ2 := Lib.hid (kZ.trans kD)
            clear eX kD e3 kZ
            go_wp2
            exact ⟨⟨p + 1, by omega, by first | rfl | go_num, by rw [e1.out], kZ2.out⟩, by first | (simp [intOf]; done) | (simp [intOf]; omega)⟩
          · obtain rfl : p = k := by omega
            have hall := HAL.out.2
            rw [hall]
            have hkk := Lib.hid ((HKW.out.trans HK1.out).trans kZ)
            clear HAL hall
            rcases Int.lt_trichotomy T r with h1 | h1 | h1
            · have h2 : min T r = T := by omega
              rw [h2]
              clear h2
              go_wp2
              go_ret
              exact ⟨rfl, hkk.out⟩
            · subst h1
              have h2 : min T T = T := by omega
              rw [h2]
              clear h2
              go_wp2
              go_ret
              exact ⟨rfl, hkk.out⟩
            · have h2 : min T r = r := by omega
              rw [h2]
              clear h2
              go_wp2
              go_ret
              exact ⟨rfl, hkk.out⟩
theorem flexShrinks_walk (v : Value) (n : Nat) (A : Nat → Int) (room : Int) (w : World) (hv : IV w v n A) (hnn : n ≤ 17592186043904) :
    Calls Try.prog 7 #[v, .int .i64 room] w fun e w' => e = .returned (.bool true) ∧ Kept w w' := by
  obtain ⟨sl, cap, rfl⟩ := hv.shape
  exact flexShrinks_main sl n cap A room w hv hnn
end Go.Proofs.Yticnfoppdgeioaa
