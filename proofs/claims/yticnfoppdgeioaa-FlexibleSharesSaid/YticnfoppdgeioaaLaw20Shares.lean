/- Layer 20: items of one base that may grow without end have shares by their factors. -/
import Derived.Test.YticnfoppdgeioaaLaw20Fixed
import Derived.Test.YticnfoppdgeioaaSharesS
import Derived.Deep.CutRange
namespace Go.Proofs.Yticnfoppdgeioaa
open Go.RowKit Go.Deep
set_option linter.unusedSimpArgs false
set_option linter.unusedVariables false
def grwZ (b : Int) (G : Nat → Int) (i j : Nat) : Int := if j = 0 then b else if j = 2 then 1073741824 else if j = 3 then G i else 0
theorem grw_item (b : Int) (G : Nat → Int) : itemOf (grwZ b G) = grwI b G := rfl
theorem itemB_of {x : Item} (h0 : 0 ≤ x.base ∧ x.base ≤ 4194304) (h1 : 0 ≤ x.min ∧ x.min ≤ 4194304) (h2 : 0 ≤ x.max ∧ x.max ≤ 1073741824) (h3 : 0 ≤ x.grow ∧ x.grow ≤ 100) (h4 : 0 ≤ x.shrink ∧ x.shrink ≤ 100) (h5 : -4194304 ≤ x.extra ∧ x.extra ≤ 4194304) : itemB x = true := by
  unfold itemB
  simp only [Bool.and_eq_true, inB_true]
  omega
theorem allI_of {I : Nat → Item} : ∀ {n : Nat}, (∀ i, i < n → itemB (I i) = true) → allI I n = true := by
  intro n
  induction n with
  | zero => intro _; rfl
  | succ n ih => intro h; unfold allI; rw [ih fun i hi => h i (by omega), h n (by omega)]; rfl
theorem grw_good {b r : Int} {G : Nat → Int} {n : Nat} (hb : 0 ≤ b ∧ b ≤ 63) (hG : ∀ i, 0 ≤ G i ∧ G i ≤ 7) (hr : 0 ≤ r ∧ r ≤ 8191) (hn : n ≤ 9) : goodF n (itemOf (grwZ b G)) r = true := by
  unfold goodF
  rw [mayI_true.2 ⟨by omega, allI_of fun i _ => ?_⟩, inB_true.2 ⟨by omega, by omega⟩]
  · rfl
  · have := hG i
    refine itemB_of ?_ ?_ ?_ ?_ ?_ ?_
    · show 0 ≤ b ∧ b ≤ 4194304; omega
    · show (0 : Int) ≤ 0 ∧ (0 : Int) ≤ 4194304; omega
    · show (0 : Int) ≤ 1073741824 ∧ (1073741824 : Int) ≤ 1073741824; omega
    · show 0 ≤ G i ∧ G i ≤ 100; omega
    · show (0 : Int) ≤ 0 ∧ (0 : Int) ≤ 100; omega
    · show (-4194304 : Int) ≤ 0 ∧ (0 : Int) ≤ 4194304; omega
theorem iv_cell {w : World} {o : Option Addr} {n cap : Nat} {Z : Nat → Int} (h : IV w (.slice o n cap) n Z) (hn : 0 < n) : ∃ b off, o = some ⟨b, off, none⟩ ∧ ∀ i, i < n → w.cell? ⟨b, off + i, none⟩ = some (.int .i64 (Z i)) := by
  rcases h with ⟨h0, _⟩ | ⟨b, off, c, hv, _, h3, h4⟩
  · omega
  · injection hv with e1 e2 e3
    subst e1
    exact ⟨b, off, rfl, h4⟩
set_option maxRecDepth 20000 in
set_option maxHeartbeats 4000000 in
theorem flexShares_main (sl : Option Addr) (n cap : Nat) (A : Nat → Int) (base room : Int) (w : World) (hv : IV w (.slice sl n cap) n A) (hnn : n ≤ 17592186043904) :
    Calls Try.prog 6 #[.slice sl n cap, .int .i64 base, .int .i64 room] w fun e w' => e = .returned (.bool true) ∧ Kept w w' := by
  obtain ⟨i0, hi, hz0, hz1, hz2⟩ := info_parts itemsInfo
  obtain ⟨r, hr, r0, r1⟩ := masked room 13 8191 (by decide) (by decide)
  obtain ⟨b, hb, b0, b1⟩ := masked base 6 63 (by decide) (by decide)
  obtain ⟨G, hG⟩ : ∃ G : Nat → Int, ∀ i, bits .and .i64 (A i) 7 = G i ∧ 0 ≤ G i ∧ G i ≤ 7 := ⟨fun i => bits .and .i64 (A i) 7, fun i => by obtain ⟨x, h1, h2⟩ := masked (A i) 3 7 (by decide) (by decide); exact ⟨rfl, by show 0 ≤ bits .and .i64 (A i) 7 ∧ bits .and .i64 (A i) 7 ≤ 7; omega⟩⟩
  have HGB := Lib.hid hG
  clear hG
  have hk : Kept w w := Kept.refl w
  go_enter Try.func6, Try.ntmps6
  go_wp2_with fail
  refine (awake20_any _).mono ?_
  rintro e w1 ⟨rfl, hn⟩
  replace hk := hk.trans hn
  clear hn
  obtain ⟨W0, hW0⟩ : ∃ z, z = w1 := ⟨_, rfl⟩
  rw [← hW0] at hk ⊢
  clear hW0
  have hk0 := Lib.hid hk
  clear hk
  go_wp2_with fail
  go_loopw [7, 8, 9] (fun v s i wx => ∃ k : Nat, k ≤ n ∧ k ≤ 9 ∧ i = .int .i64 k ∧ s = .int .i64 (sumW G k) ∧ OR wx W0.heap.size 38 6 v k (flat 6 (intC (grwZ b G)) k) ∧ Kept W0 wx) (fun _ _ i _ => 9 - (intOf i).toNat)
  case atStart => exact ⟨0, Nat.zero_le _, Nat.zero_le _, rfl, rfl, ⟨World.ownsRow_nil _ _ _ _⟩, Kept.refl _⟩
  case round =>
    obtain ⟨k, hkn, hk9, rfl, rfl, ho, kX⟩ := hrel
    have hk := hk0.out.trans kX
    have hsb := sumW_bd (W := G) (n := k) (a := 0) (b := 7) fun i _ => (HGB.out i).2
    by_cases hlt9 : k < n ∧ k < 9
    · obtain ⟨hlt, h9⟩ := hlt9
      have hi1 : (k : Int) < (n : Int) := by omega
      have hi9 : (k : Int) < 9 := by omega
      obtain ⟨bb, off, rfl, hc⟩ := iv_cell (hv.kept hk0.out) (by omega)
      have HC0 := Lib.hid (hc k hlt)
      have c0 := cell_kept kX (hc k hlt)
      obtain ⟨hgk, g0, g1⟩ := HGB.out k
      have e1 := Lib.hid (show sumW G (k + 1) = sumW G k + G k from rfl)
      have HO := Lib.hid ho
      have HFL := Lib.hid (show flat 6 (intC (grwZ b G)) k ++ [.int .i64 b, .int .i64 0, .int .i64 1073741824, .int .i64 (G k), .int .i64 0, .int .i64 0] = flat 6 (intC (grwZ b G)) (k + 1) from rfl)
      have hle := kX.size
      have lB := World.block_lt_of_cell? _ _ c0
      clear hc ho
      generalize sumW G k = t at *
      generalize G k = g at *
      generalize A k = x at *
      have hkA := (Kept.refl wr).alloc (.cells #[.int .i64 b, .int .i64 0, .int .i64 1073741824, .int .i64 g, .int .i64 0, .int .i64 0] 38)
      have c1 := cell_kept hkA c0
      have HLC := lit_cells wr #[.int .i64 b, .int .i64 0, .int .i64 1073741824, .int .i64 g, .int .i64 0, .int .i64 0] 38
      go_wp2_with (at_builtin; refine wpList_append_own _ rfl _ _ 22 rfl W0.heap.size 38 i0 (.agg #[.int .i64 0, .int .i64 0, .int .i64 0, .int .i64 0, .int .i64 0, .int .i64 0]) 6 48 Try.underlying22 hi hz0 hz1 hz2 rfl (by decide) _ _ _ rfl (HO.out.own.alloc _) ⟨wr.heap.size, 0, none⟩ 1 1 [.int .i64 b, .int .i64 0, .int .i64 1073741824, .int .i64 g, .int .i64 0, .int .i64 0] rfl rfl HLC (by simp [Value.oneCell']) (by unfold maxLen; omega) (by omega) (by simp; omega) ?_; intro v2 w2 hown2 hg2 hnil2; have c2 : w2.cell? ⟨bb, off + k, none⟩ = some (.int .i64 x) := cell_kept ((kX.alloc _).grown hg2 (row_ge HO.out.own)) HC0.out)
      have kX2 := (kX.alloc _).grown hg2 (row_ge HO.out.own)
      exact ⟨⟨k + 1, by omega, by omega, by first | rfl | go_num, by rw [e1.out], ⟨by rw [← HFL.out]; exact hown2⟩, kX2⟩, by first | (simp [intOf]; done) | (simp [intOf]; omega)⟩
    · obtain ⟨o7, c7, rfl⟩ := row_len20 ho.own
      have HR7 := Lib.hid (show RV 6 wr (.slice o7 k c7) k (intC (grwZ b G)) from by
        have h := newRow_of (ho.own)
        exact h.rv)
      have HGD := Lib.hid (grw_good (r := r) (G := G) ⟨b0, b1⟩ (fun i => (HGB.out i).2) ⟨r0, r1⟩ hk9)
      have HGR := Lib.hid (fun i (hi : i < k) => grow_res (n := k) (G := G) ⟨b0, b1⟩ (fun i _ => (HGB.out i).2) ⟨r0, r1⟩ hk9 i hi)
      have HAL := Lib.hid (grow_all (n := k) (G := G) ⟨b0, b1⟩ (fun i _ => (HGB.out i).2) ⟨r0, r1⟩ hk9)
      have HNR := Lib.hid (fun f (hf : 0 ≤ f) hp i hi => shS_near (f := f) (W := G) (n := k) (fun i _ => (HGB.out i).2.1) hf hp i hi)
      have HBD := Lib.hid (fun f (hf : 0 ≤ f) i hi => shS_bd (f := f) (W := G) (n := k) (fun i _ => (HGB.out i).2.1) hf i hi)
      have HZS := Lib.hid (fun (f : Int) i (h0 : G i = 0) => sh_zero (f := f) (W := G) (n := k) (i := i) h0)
      obtain ⟨S, hS⟩ : ∃ S, resS (itemOf (grwZ b G)) r k = S := ⟨_, rfl⟩
      have HS := Lib.hid hS
      rw [show resS (grwI b G) r k = S from hS] at HGR HAL
      clear ho kX hS
      have HKW := Lib.hid hk
      clear hk
      have hk := Kept.refl wr
      have hend : ((k : Int) < (n : Int) ∧ (k : Int) < 9) → False := fun h => hlt9 ⟨by omega, by omega⟩
      clear hlt9
      have hks : (k : Int) ≤ 9 := by omega
      generalize hT : sumW G k = T at *
      go_upto_region 6 with fail
      go_cut [27] from 20 to 27 (fun v wx => v = .bool false ∧ wr = wx)
      case first =>
        rcases Int.lt_or_le (k : Int) (n : Int) with hz | hz
        · have h9 : ¬ (k : Int) < 9 := fun h => hend ⟨hz, h⟩
          clear hend
          go_wp2_with fail
          go_meet
          exact ⟨rfl, rfl⟩
        · have h9 : ¬ (k : Int) < (n : Int) := by omega
          clear hend
          go_wp2_with fail
          go_meet
          exact ⟨rfl, rfl⟩
      case rest =>
        obtain ⟨rfl, hwc⟩ := hcut
        subst hwc
        clear hend
        go_wp2_with fail
        refine (flexible_is _ k _ _ _ (itv_row (HR7.out)) (by omega) HGD.out S (fun i hi => by rw [HS.out])).mono ?_
        rintro e w1 ⟨_, rfl, ⟨b9, c9, rfl, _, o9, z9, h9⟩, hn⟩
        replace hk := hk.trans hn
        clear hn
        obtain ⟨W1, hW1⟩ : ∃ z, z = w1 := ⟨_, rfl⟩
        rw [← hW1] at hk o9 ⊢
        clear hW1
        have HK1 := Lib.hid hk
        have HR8 := Lib.hid (HR7.out.kept hk)
        have C9 := Lib.hid (fun p (hp : p < k) => (o9.cell p).trans (h9 p hp))
        clear hk o9 z9 h9
        go_wp2_with fail
        refine (num_any _ _).mono ?_
        rintro e w1 ⟨rfl, rfl⟩
        obtain ⟨kb, hkb⟩ : ∃ kb, (k : Int) * b = kb := ⟨_, rfl⟩
        have hkbb : 0 ≤ kb ∧ kb ≤ 567 := by
          rw [← hkb]
          exact ⟨Int.mul_nonneg (by omega) b0, Int.le_trans (Int.mul_le_mul (show (k : Int) ≤ 9 by omega) b1 b0 (by decide)) (by decide)⟩
        rw [hkb] at HGR HAL
        obtain ⟨f, hf⟩ : ∃ f, r - kb = f := ⟨_, rfl⟩
        rw [hf] at HGR HAL
        have hfb : f ≤ 8191 := by omega
        have HSUM := Lib.hid hT
        clear hT
        go_wp2
        go_loopw [14, 15, 16, 17] (fun a i _ _ wx => ∃ p : Nat, p ≤ k ∧ i = .int .i64 p ∧ a = .int .i64 (sumW S p) ∧ Kept W1 wx) (fun _ i _ _ _ => k - (intOf i).toNat)
        case atStart => exact ⟨0, Nat.zero_le _, rfl, rfl, Kept.refl _⟩
        case round =>
          obtain ⟨p, hpk, rfl, rfl, kZ⟩ := hrel
          by_cases hlt3 : p < k
          · have hp1 : (p : Int) < (k : Int) := by omega
            have hp0 : (0 : Int) ≤ (p : Int) := Int.natCast_nonneg _
            obtain ⟨b', off', rfl, hle', hrow⟩ := (HR8.out.kept kZ).row (by omega)
            have e3 : wr.cell? ⟨b', off' + p * 6 + 3, none⟩ = some (.int .i64 (G p)) := hrow p 3 hlt3 (by decide)
            have s0 : wr.cell? ⟨b9, p, none⟩ = some (.int .i64 (S p)) := (kZ.cell (World.block_lt_of_cell? W1 _ (C9.out p hlt3))).trans (C9.out p hlt3)
            have hres := HGR.out p hlt3
            have e1 := Lib.hid (show sumW S (p + 1) = sumW S p + S p from rfl)
            have hsb2 := sumW_bd (W := S) (n := p) (a := 0) (b := 8254) fun i hi => by
              have h1 := HGR.out i (by omega)
              by_cases hf0 : f ≤ 0
              · rw [if_pos hf0] at h1; omega
              · rw [if_neg hf0] at h1; have := HBD.out f (by omega) i (by omega); omega
            obtain ⟨_, g0, g1⟩ := HGB.out p
            clear hrow
            by_cases hf0 : f ≤ 0
            · rw [if_pos hf0] at hres
              rw [hres] at s0 e1
              clear hres
              generalize sumW S p = t at *
              go_wp2
              exact ⟨⟨p + 1, by omega, by first | rfl | go_num, by rw [e1.out], kZ⟩, by first | (simp [intOf]; done) | (simp [intOf]; omega)⟩
            · rw [if_neg hf0] at hres
              by_cases hg0 : G p = 0
              · rw [HZS.out f p hg0, Int.add_zero] at hres
                rw [hg0] at e3
                rw [hres] at s0 e1
                clear hres hg0 g0 g1
                generalize sumW S p = t at *
                go_wp2
                exact ⟨⟨p + 1, by omega, by first | rfl | go_num, by rw [e1.out], kZ⟩, by first | (simp [intOf]; done) | (simp [intOf]; omega)⟩
              · have hp' : sumW G k ≠ 0 := by
                  intro h0
                  exact hg0 (sum_zero (fun i _ => (HGB.out i).2.1) h0 p hlt3)
                rw [HSUM.out] at hp'
                have hnr := HNR.out f (by omega) hp' p hlt3
                have hbd := HBD.out f (by omega) p hlt3
                have hgne : (G p == 0) = false := by simp; exact hg0
                generalize shS f G k p = h at *
                generalize G p = gp at *
                rw [hres] at s0 e1
                have hm1b : 0 ≤ h * T ∧ h * T ≤ 8191 * 63 := ⟨Int.mul_nonneg hbd.1 (by omega), Int.mul_le_mul (by omega) (by omega) (by omega) (by decide)⟩
                have hm2b : 0 ≤ f * gp ∧ f * gp ≤ 8191 * 7 := ⟨Int.mul_nonneg (by omega) g0, Int.mul_le_mul hfb g1 g0 (by decide)⟩
                obtain ⟨m1, hm1⟩ : ∃ m1, h * T = m1 := ⟨_, rfl⟩
                obtain ⟨m2, hm2⟩ : ∃ m2, f * gp = m2 := ⟨_, rfl⟩
                have hbh : b + h - b = h := by omega
                rw [hm1] at hnr hm1b
                rw [hm2] at hnr hm2b
                clear hres hg0
                generalize sumW S p = t at *
                go_wp2
                exact ⟨⟨p + 1, by omega, by first | rfl | go_num, by rw [e1.out], kZ⟩, by first | (simp [intOf]; done) | (simp [intOf]; omega)⟩
          · obtain rfl : p = k := by omega
            have HAL2 := Lib.hid HAL.out
            clear HAL HGR
            have hkk := Lib.hid ((HKW.out.trans HK1.out).trans kZ)
            by_cases hT0 : T = 0
            · subst hT0
              generalize sumW S p = t at *
              clear HSUM
              go_wp2
              go_ret
              exact ⟨rfl, hkk.out⟩
            · have hT1 : (T == 0) = false := by simp; exact hT0
              by_cases hf0 : f ≤ 0
              · generalize sumW S p = t at *
                clear HSUM
                go_wp2
                go_ret
                exact ⟨rfl, hkk.out⟩
              · have hall := HAL2.out hT0 (by omega)
                rw [hall]
                clear hall HAL2 HSUM
                go_wp2
                go_ret
                exact ⟨rfl, hkk.out⟩
theorem flexShares_walk (v : Value) (n : Nat) (A : Nat → Int) (base room : Int) (w : World) (hv : IV w v n A) (hnn : n ≤ 17592186043904) :
    Calls Try.prog 6 #[v, .int .i64 base, .int .i64 room] w fun e w' => e = .returned (.bool true) ∧ Kept w w' := by
  obtain ⟨sl, cap, rfl⟩ := hv.shape
  exact flexShares_main sl n cap A base room w hv hnn
end Go.Proofs.Yticnfoppdgeioaa
