/- Layer 20: one round of sharing, by the program. -/
import Derived.Test.YticnfoppdgeioaaLineW
import Derived.Test.YticnfoppdgeioaaHeld
import Derived.Maps.OwnOps
import Derived.Maps.RangeWalk
import Derived.Deep.Cut
import Derived.Deep.QuietTactic
import Derived.BigQuiet
namespace Go.Proofs.Yticnfoppdgeioaa
open Go.RowKit Go.Maps
set_option linter.unusedSimpArgs false
set_option linter.unusedVariables false
theorem law3m : Keyed Try.prog 3 := int_keyed Try.underlying3
theorem zero3m (w : World) : (zeroValue 3).run Try.prog w = .ok (.int .i64 0) w := by kernel_rfl
theorem heldDrew {a W : World} {v0 v1 v2 : Value} {x0 x1 x2 : Addr} (h : Kept a W ∧ W.cell? x0 = some v0 ∧ W.cell? x1 = some v1 ∧ W.cell? x2 = some v2) :
    Kept a W.drew ∧ W.drew.cell? x0 = some v0 ∧ W.drew.cell? x1 = some v1 ∧ W.drew.cell? x2 = some v2 := ⟨h.1.drew, h.2⟩
theorem heldSet {a W : World} {b j : Nat} {u v0 v1 v2 : Value} {x0 x1 x2 : Addr} (h : Kept a W ∧ W.cell? x0 = some v0 ∧ W.cell? x1 = some v1 ∧ W.cell? x2 = some v2) (hb : a.heap.size ≤ b) (n0 : x0.block ≠ b) (n1 : x1.block ≠ b) (n2 : x2.block ≠ b) :
    Kept a (W.setCell ⟨b, j, none⟩ u) ∧ (W.setCell ⟨b, j, none⟩ u).cell? x0 = some v0 ∧ (W.setCell ⟨b, j, none⟩ u).cell? x1 = some v1 ∧ (W.setCell ⟨b, j, none⟩ u).cell? x2 = some v2 :=
  ⟨h.1.set hb _, cell_other h.2.1 n0, cell_other h.2.2.1 n1, cell_other h.2.2.2 n2⟩
set_option maxRecDepth 20000 in
set_option maxHeartbeats 4000000 in
theorem lineShare_any (a w : World) (L bs bf : Nat) (sl : Option Addr) (n cap : Nat) (room : Int) (g : Bool) (I : Nat → Item) (S : Nat → Int) (F : Nat → Bool) (h : LineW a w L bs bf sl n cap room g I S F) (hI : ∀ i, i < n → itemB (I i) = true) (hS : OkS g S n) (hn32 : n ≤ 32) (hr : 0 ≤ room ∧ room ≤ 4194304) :
    Calls Try.prog 32 #[.pointer (some ⟨L, 0, none⟩)] w fun e w' => e = .returned (.tuple #[]) ∧ LineW a w' L bs bf sl n cap room g I (nextS g I S F (partS g I S F room n)) (nextF g I F (partS g I S F room n) n) := by
  have HI := Lib.hid hI
  have HP := Lib.hid (fun i hi => part_bd (F := F) hI hS hn32 hr i hi)
  have HSH := Lib.hid (show shS (freeS g I S F room n) (wtS g I F) n = partS g I S F room n from rfl)
  have HW := Lib.hid (fun i hi => wtS_bd (g := g) (F := F) hI i hi)
  have HFB := freeS_bd (F := F) hI hS hn32 hr
  have CF := Lib.hid (fun wx (hx : LineV wx L bs bf sl n cap room g I S F) => lineFree_any L bs bf sl n cap room g I S F wx hx hI hS hn32 hr)
  have CW := Lib.hid (fun wx (hx : LineV wx L bs bf sl n cap room g I S F) => lineWeights_any L bs bf sl n cap room g I S F wx hx hI hn32)
  clear hI hS
  obtain ⟨f, hf⟩ : ∃ f, freeS g I S F room n = f := ⟨_, rfl⟩
  rw [hf] at CF HSH HFB
  clear hf
  have HL := Lib.hid h
  clear h
  have hmm := @run_makeMap Try.prog
  have hk : Kept w w := Kept.refl w
  go_enter Try.func32, Try.ntmps32
  go_wp2_with fail
  refine (CF.out _ (HL.out.view.kept hk)).mono ?_
  rintro e w1 ⟨rfl, hn⟩
  replace hk := hk.trans hn
  clear hn
  go_wp2_with fail
  refine (CW.out _ (HL.out.view.kept hk)).mono ?_
  rintro e w1 ⟨_, rfl, ⟨bw, cw, rfl, gw, ow, zw, hw⟩, hn⟩
  replace hk := hk.trans hn
  clear hn
  have gw2 := hk.size
  go_wp2_with fail
  refine (shareOut_any _ bw n _ _ (fun i hi => ints_own ow hw i hi) HW.out HFB hn32).mono ?_
  rintro e w1 ⟨_, rfl, ⟨bh, ch, rfl, gh, oh, zh, hh⟩, hn⟩
  replace hk := hk.trans hn
  clear hn
  rw [HSH.out] at hh
  obtain ⟨H, hH⟩ : ∃ H, partS g I S F room n = H := ⟨_, rfl⟩
  rw [hH] at hh HP
  have HPH := Lib.hid hH
  have HMB := Lib.hid (more_bd (g := g) (F := F) HI.out HP.out hn32)
  have hl := HL.out.kept hk
  have hlt := HL.out.lt
  have gz := ow.lt
  have gz2 := hk.size
  clear ow hw zw hk CF CW HW HSH hH HFB gw HL
  obtain ⟨W0, hW0⟩ : ∃ z, z = w1 := ⟨_, rfl⟩
  rw [← hW0] at oh hl gz2 ⊢
  clear hW0
  have hM0 := World.ownsMap_made (H := Unit) W0 Try.prog 3 (plainElem Try.prog 3)
  have c0 := hl.view.c0
  have lL := hl.lt.1
  go_wp2
  have HHH := Lib.hid hh
  have HM0 := Lib.hid hM0
  have HL0 := Lib.hid hl
  have OH0 := Lib.hid oh
  clear hh hM0 hl oh
  go_loopw [4, 21] (fun s i wx => ∃ k : Nat, k ≤ n ∧ i = .int .i64 k ∧ s = .int .i64 (sumW (moreS g I F H) k) ∧ LineW a wx L bs bf sl n cap room g I (fun i => if i < k then nextS g I S F H i else S i) F ∧ Own wx bh 3 ch ∧ wx.ownsMap Try.prog 3 (plainElem Try.prog 3) W0.heap.size k (mapD F (overS g I H) k)) (fun _ i _ => n - (intOf i).toNat)
  case atStart => exact ⟨0, Nat.zero_le _, rfl, rfl, (HL0.out.kept ((Kept.refl _).alloc _)).congr (fun i hi => by simp) (fun i hi => rfl), OH0.out.alloc _, HM0.out⟩
  case round =>
    obtain ⟨k, hkn, rfl, rfl, hl, oh, hM⟩ := hrel
    clear c0 lL
    by_cases hlt2 : k < n
    · have hi1 : (k : Int) < (n : Int) := by omega
      have V := hl.view
      obtain ⟨b, off, rfl, hit⟩ := V.it (by omega)
      have c0 := hit.base k hlt2
      have c1 := hit.min k hlt2
      have c2 := hit.max k hlt2
      have c3 := hit.grow k hlt2
      have c4 := hit.shrink k hlt2
      have c5 := hit.extra k hlt2
      have hx := itemB_parts (HI.out k hlt2)
      have hp := HP.out k hlt2
      have hsz := size_bd (g := g) (HI.out k hlt2) hp
      have d2 := V.c2
      have d3 := V.c3
      have d4 := V.c4
      have f0 := V.f k hlt2
      have s0 := V.s k hlt2
      rw [if_neg (by omega)] at s0
      have sf := hl.freeS k
      have h0 : wr.cell? ⟨bh, k, none⟩ = some (.int .i64 (H k)) := (oh.cell k).trans (HHH.out k hlt2)
      have lB := World.block_lt_of_cell? _ _ c0
      obtain ⟨lL, lS, lF⟩ := hl.lt
      have lH := oh.lt
      clear V hit hmm
      generalize hy : I k = y at *
      generalize hHk : H k = q at *
      replace hy := Lib.hid hy
      replace hHk := Lib.hid hHk
      generalize S k = s at *
      replace hl := Lib.hid hl
      replace hM := Lib.hid hM
      replace oh := Lib.hid oh
      replace hsz := Lib.hid hsz
      cases hF : F k with
      | true =>
        rw [hF] at f0
        have HF := Lib.hid hF
        clear hF
        go_wp2
        have hF := HF.out
        have kA := (Kept.refl wr).alloc (.cells #[.int .i64 y.base, .int .i64 y.min, .int .i64 y.max, .int .i64 y.grow, .int .i64 y.shrink, .int .i64 y.extra] 38)
        exact ⟨⟨k + 1, by omega, by first | rfl | go_num, by rw [show sumW (moreS g I F H) (k + 1) = sumW (moreS g I F H) k + moreS g I F H k from rfl, show moreS g I F H k = 0 from if_pos hF, Int.add_zero], (hl.out.kept kA).congr (fun i hi => by
            rcases Nat.lt_trichotomy i k with h1 | h1 | h1
            · rw [if_pos h1, if_pos (by omega)]
            · subst h1; rw [if_neg (by omega), if_pos (by omega)]; unfold nextS; rw [if_pos hF]
            · rw [if_neg (by omega), if_neg (by omega)]) (fun i hi => rfl), oh.out.alloc _, by
              rw [show mapD F (overS g I H) (k + 1) = mapD F (overS g I H) k from if_pos hF]; exact (hM.out.alloc _).mono (Nat.le_succ _)⟩, by first | (simp [intOf]; done) | (simp [intOf]; omega)⟩
      | false =>
        rw [hF] at f0
        have HF := Lib.hid hF
        clear hF
        cases g with
        | true =>
          go_upto_region 6 with fail
          obtain ⟨X, eX, kX, bX⟩ := boxes1 wr #[.int .i64 y.base, .int .i64 y.min, .int .i64 y.max, .int .i64 y.grow, .int .i64 y.shrink, .int .i64 y.extra] 38
          rw [← eX]
          clear eX
          have i0 := bX.at 0 _ rfl
          have i1 := bX.at 1 _ rfl
          have i2 := bX.at 2 _ rfl
          replace h0 := cell_kept kX h0
          replace d2 := cell_kept kX d2
          replace d3 := cell_kept kX d3
          replace s0 := cell_kept kX s0
          replace sf := (kX.below.frozen lS).trans sf
          have kaX := hl.out.k.trans kX
          have lX := kX.size
          replace kX := Lib.hid kX
          clear bX c0 c1 c2 c3 c4 c5 d4 f0
          generalize hz : wr.heap.size = z at *
          replace hz := Lib.hid hz
          have hi0 : (0 : Int) ≤ (k : Int) := Int.natCast_nonneg _
          go_quiet (fail)
          obtain ⟨Y, eY⟩ : ∃ z, X.drewN nq = z := ⟨_, rfl⟩
          have kY : Kept X Y := by rw [← eY]; exact (Kept.refl X).drewN nq
          rw [eY]
          replace kX := Lib.hid (kX.out.trans kY)
          replace kaX := kaX.trans kY
          replace i0 := cell_kept kY i0
          replace i1 := cell_kept kY i1
          replace i2 := cell_kept kY i2
          replace h0 := cell_kept kY h0
          replace d2 := cell_kept kY d2
          replace d3 := cell_kept kY d3
          replace s0 := cell_kept kY s0
          replace sf := (kY.below.frozen (Nat.lt_of_lt_of_le lS lX)).trans sf
          replace lX := Nat.le_trans lX kY.size
          clear eY kY
          obtain ⟨r, hr7⟩ : ∃ r, y.base + q = r := ⟨_, rfl⟩
          have hR : rawS true I H k = r := by unfold rawS; rw [if_pos rfl, hy.out, hHk.out]; exact hr7
          have hrb : -268435456 ≤ r ∧ r ≤ 272629760 := by omega
          rw [hr7]
          have hC : sizeS true I H k = max 0 (clampS r y.min y.max) := by unfold sizeS; rw [hR, hy.out]
          obtain ⟨v, hv⟩ : ∃ v, clampS r y.min y.max = v := ⟨_, rfl⟩
          have hvb : -1073741824 ≤ v ∧ v ≤ 1073741824 := by rw [← hv]; unfold clampS; omega
          have HX := Lib.hid (And.intro hR hC)
          replace hv := Lib.hid hv
          clear hr7 hR hC
          have hS := heldDrew (x0 := ⟨L, 3, none⟩) (x1 := ⟨z, 1, none⟩) (x2 := ⟨z, 2, none⟩) ⟨kaX, d3, i1, i2⟩
          have gS := hl.out.gS
          have nLS := hl.out.n1
          have nzS : z ≠ bs := by omega
          go_upto_region 9 with fail
          go_region_held3 (fun W => Kept a W ∧ W.cell? ⟨L, 3, none⟩ = some (.slice (some ⟨bs, 0, none⟩) n n) ∧ W.cell? ⟨z, 1, none⟩ = some (.int .i64 y.min) ∧ W.cell? ⟨z, 2, none⟩ = some (.int .i64 y.max))
            (first | exact hS | assumption | exact heldSet hS gS nLS nzS nzS)
            (first
              | (go_at_call 41; (with_reducible refine (usedBetween_any _ _ _ _).mono ?_); rintro e w3 ⟨rfl, rfl⟩; rw [hv.out]))
          have hm0 : sizeS true I H k = if 0 < v then v else 0 := by rw [HX.out.2, hv.out]; omega
          obtain ⟨m, hm⟩ : ∃ m, (if 0 < v then v else 0) = m := ⟨_, rfl⟩
          rw [hm] at hm0 ⊢
          have hmb : 0 ≤ m ∧ m ≤ 1073741824 := by omega
          clear hS
          have hXm : overS true I H k = m - r := by unfold overS; rw [hm0, HX.out.1]
          have hlq := hl.out.lt
          have hsz0 := hl.out.k.size
          obtain ⟨Z, eZ⟩ : ∃ Z, (Y.setCell ⟨bs, k, none⟩ (.int .i64 m)).drew = Z := ⟨_, rfl⟩
          have hl9 : LineW a Z L bs bf (some ⟨b, off, none⟩) n cap room true I (fun i => if i < k + 1 then nextS true I S F H i else S i) F := by
            rw [← eZ]
            refine (((hl.out.kept kX.out).setS hlt2 m).kept (Kept.refl _).drew).congr (fun i hi => ?_) (fun i hi => rfl)
            rcases Nat.lt_trichotomy i k with h1 | h1 | h1
            · rw [if_neg (by omega), if_pos h1, if_pos (by omega)]
            · subst h1; rw [if_pos rfl, if_pos (by omega)]; unfold nextS; rw [HF.out, if_neg (by decide), hm0]
            · rw [if_neg (by omega), if_neg (by omega), if_neg (by omega)]
          have oh9 : Own Z bh 3 ch := by rw [← eZ]; exact ((oh.out.kept kX.out).other (show bh ≠ bs by omega) _).drew
          have hM9 : Z.ownsMap Try.prog 3 (plainElem Try.prog 3) W0.heap.size k (mapD F (overS true I H) k) := by rw [← eZ]; exact ((hM.out.kept kX.out.toGrown (by simp)).setCell (show W0.heap.size ≠ bs by omega) _).drew
          rw [eZ]
          have c3 := hl9.view.c3
          have s1 := hl9.view.s k hlt2
          rw [if_pos (by omega), show nextS true I S F H k = m by unfold nextS; rw [HF.out, if_neg (by decide), hm0]] at s1
          have hmore := HMB.out k hkn
          obtain ⟨t, ht⟩ : ∃ t, sumW (moreS true I F H) k = t := ⟨_, rfl⟩
          rw [ht] at hmore ⊢
          have HT := Lib.hid (show sumW (moreS true I F H) (k + 1) = t + (m - r) by rw [← ht, ← hXm]; show sumW (moreS true I F H) k + moreS true I F H k = _; unfold moreS; rw [HF.out, if_neg (by decide)])
          replace hl9 := Lib.hid hl9
          replace oh9 := Lib.hid oh9
          clear eZ ht kX kaX i0 i1 i2 h0 d2 d3 s0 sf hm0 lX hm
          have hkey : keyOf Try.prog 3 (.int .i64 (k : Int)) = some (.int .i64 (k : Int)) := keyOf_int_mk Try.underlying3 (WalkArith.wf_i64 (by omega))
          go_wp2_with (first
            | (at_mapUpdate; refine wpList_mapUpdate_own _ rfl _ _ _ 64 rfl 3 3 law3m Try.underlying64 _ W0.heap.size k _ rfl hM9 (by unfold maxLen; omega) _ _ _ rfl rfl hkey _ [] (plainElem_int Try.underlying3 (WalkArith.wf_i64 (by omega))) ?_; intro w2 hM2 hg2)
            | (at_lookup; refine wpList_lookup_own_int _ rfl _ _ 64 rfl 3 3 .i64 law3m Try.underlying64 Try.underlying3 (zero3m _) W0.heap.size (k + 1) _ rfl hM2 _ _ rfl hkey ?_; intro c hat hwc; obtain rfl := mapD_look hat))
          have hsa := HL0.out.k.size
          have hlw := HL0.out.lt
          have hbw := OH0.out.lt
          exact ⟨⟨k + 1, by omega, by first | rfl | go_num, by rw [HT.out], hl9.out.grow hg2 (fun j e => by cases e; exact ⟨by omega, by omega, by omega, by omega⟩), oh9.out.grow hg2 (fun j e => by cases e; omega), by
            rw [show mapD F (overS true I H) (k + 1) = (mapD F (overS true I H) k).put (.int .i64 k) (.lit (.int .i64 (overS true I H k))) from if_neg (by rw [HF.out]; decide), hXm]; exact hM2⟩, by first | (simp [intOf]; done) | (simp [intOf]; omega)⟩
        | false =>
          go_upto_region 6 with fail
          obtain ⟨X, eX, kX, bX⟩ := boxes1 wr #[.int .i64 y.base, .int .i64 y.min, .int .i64 y.max, .int .i64 y.grow, .int .i64 y.shrink, .int .i64 y.extra] 38
          rw [← eX]
          clear eX
          have i0 := bX.at 0 _ rfl
          have i1 := bX.at 1 _ rfl
          have i2 := bX.at 2 _ rfl
          replace h0 := cell_kept kX h0
          replace d2 := cell_kept kX d2
          replace d3 := cell_kept kX d3
          replace s0 := cell_kept kX s0
          replace sf := (kX.below.frozen lS).trans sf
          have kaX := hl.out.k.trans kX
          have lX := kX.size
          replace kX := Lib.hid kX
          clear bX c0 c1 c2 c3 c4 c5 d4 f0
          generalize hz : wr.heap.size = z at *
          replace hz := Lib.hid hz
          have hi0 : (0 : Int) ≤ (k : Int) := Int.natCast_nonneg _
          go_quiet (fail)
          obtain ⟨Y0, eY0⟩ : ∃ z, X.drewN nq = z := ⟨_, rfl⟩
          have kY0 : Kept X Y0 := by rw [← eY0]; exact (Kept.refl X).drewN nq
          rw [eY0]
          replace kX := Lib.hid (kX.out.trans kY0)
          replace kaX := kaX.trans kY0
          replace i0 := cell_kept kY0 i0
          replace i1 := cell_kept kY0 i1
          replace i2 := cell_kept kY0 i2
          replace h0 := cell_kept kY0 h0
          replace d2 := cell_kept kY0 d2
          replace d3 := cell_kept kY0 d3
          replace s0 := cell_kept kY0 s0
          replace sf := (kY0.below.frozen (Nat.lt_of_lt_of_le lS lX)).trans sf
          replace lX := Nat.le_trans lX kY0.size
          clear eY0 kY0
          go_upto_region 8 with fail
          go_quiet (fail)
          obtain ⟨Y, eY⟩ : ∃ z, Y0.drewN nq = z := ⟨_, rfl⟩
          have kY : Kept Y0 Y := by rw [← eY]; exact (Kept.refl Y0).drewN nq
          rw [eY]
          replace kX := Lib.hid (kX.out.trans kY)
          replace kaX := kaX.trans kY
          replace i0 := cell_kept kY i0
          replace i1 := cell_kept kY i1
          replace i2 := cell_kept kY i2
          replace h0 := cell_kept kY h0
          replace d2 := cell_kept kY d2
          replace d3 := cell_kept kY d3
          replace s0 := cell_kept kY s0
          replace sf := (kY.below.frozen (Nat.lt_of_lt_of_le lS lX)).trans sf
          replace lX := Nat.le_trans lX kY.size
          clear eY kY
          obtain ⟨r, hr7⟩ : ∃ r, y.base - q = r := ⟨_, rfl⟩
          have hR : rawS false I H k = r := by unfold rawS; rw [if_neg (by decide), hy.out, hHk.out]; exact hr7
          have hrb : -268435456 ≤ r ∧ r ≤ 272629760 := by omega
          rw [hr7]
          have hC : sizeS false I H k = max 0 (clampS r y.min y.max) := by unfold sizeS; rw [hR, hy.out]
          obtain ⟨v, hv⟩ : ∃ v, clampS r y.min y.max = v := ⟨_, rfl⟩
          have hvb : -1073741824 ≤ v ∧ v ≤ 1073741824 := by rw [← hv]; unfold clampS; omega
          have HX := Lib.hid (And.intro hR hC)
          replace hv := Lib.hid hv
          clear hr7 hR hC
          have hS := heldDrew (x0 := ⟨L, 3, none⟩) (x1 := ⟨z, 1, none⟩) (x2 := ⟨z, 2, none⟩) ⟨kaX, d3, i1, i2⟩
          have gS := hl.out.gS
          have nLS := hl.out.n1
          have nzS : z ≠ bs := by omega
          go_upto_region 9 with fail
          go_region_held3 (fun W => Kept a W ∧ W.cell? ⟨L, 3, none⟩ = some (.slice (some ⟨bs, 0, none⟩) n n) ∧ W.cell? ⟨z, 1, none⟩ = some (.int .i64 y.min) ∧ W.cell? ⟨z, 2, none⟩ = some (.int .i64 y.max))
            (first | exact hS | assumption | exact heldSet hS gS nLS nzS nzS)
            (first
              | (go_at_call 41; (with_reducible refine (usedBetween_any _ _ _ _).mono ?_); rintro e w3 ⟨rfl, rfl⟩; rw [hv.out]))
          have hm0 : sizeS false I H k = if 0 < v then v else 0 := by rw [HX.out.2, hv.out]; omega
          obtain ⟨m, hm⟩ : ∃ m, (if 0 < v then v else 0) = m := ⟨_, rfl⟩
          rw [hm] at hm0 ⊢
          have hmb : 0 ≤ m ∧ m ≤ 1073741824 := by omega
          clear hS
          have hXm : overS false I H k = m - r := by unfold overS; rw [hm0, HX.out.1]
          have hlq := hl.out.lt
          have hsz0 := hl.out.k.size
          obtain ⟨Z, eZ⟩ : ∃ Z, (Y.setCell ⟨bs, k, none⟩ (.int .i64 m)).drew = Z := ⟨_, rfl⟩
          have hl9 : LineW a Z L bs bf (some ⟨b, off, none⟩) n cap room false I (fun i => if i < k + 1 then nextS false I S F H i else S i) F := by
            rw [← eZ]
            refine (((hl.out.kept kX.out).setS hlt2 m).kept (Kept.refl _).drew).congr (fun i hi => ?_) (fun i hi => rfl)
            rcases Nat.lt_trichotomy i k with h1 | h1 | h1
            · rw [if_neg (by omega), if_pos h1, if_pos (by omega)]
            · subst h1; rw [if_pos rfl, if_pos (by omega)]; unfold nextS; rw [HF.out, if_neg (by decide), hm0]
            · rw [if_neg (by omega), if_neg (by omega), if_neg (by omega)]
          have oh9 : Own Z bh 3 ch := by rw [← eZ]; exact ((oh.out.kept kX.out).other (show bh ≠ bs by omega) _).drew
          have hM9 : Z.ownsMap Try.prog 3 (plainElem Try.prog 3) W0.heap.size k (mapD F (overS false I H) k) := by rw [← eZ]; exact ((hM.out.kept kX.out.toGrown (by simp)).setCell (show W0.heap.size ≠ bs by omega) _).drew
          rw [eZ]
          have c3 := hl9.view.c3
          have s1 := hl9.view.s k hlt2
          rw [if_pos (by omega), show nextS false I S F H k = m by unfold nextS; rw [HF.out, if_neg (by decide), hm0]] at s1
          have hmore := HMB.out k hkn
          obtain ⟨t, ht⟩ : ∃ t, sumW (moreS false I F H) k = t := ⟨_, rfl⟩
          rw [ht] at hmore ⊢
          have HT := Lib.hid (show sumW (moreS false I F H) (k + 1) = t + (m - r) by rw [← ht, ← hXm]; show sumW (moreS false I F H) k + moreS false I F H k = _; unfold moreS; rw [HF.out, if_neg (by decide)])
          replace hl9 := Lib.hid hl9
          replace oh9 := Lib.hid oh9
          clear eZ ht kX kaX i0 i1 i2 h0 d2 d3 s0 sf hm0 lX hm
          have hkey : keyOf Try.prog 3 (.int .i64 (k : Int)) = some (.int .i64 (k : Int)) := keyOf_int_mk Try.underlying3 (WalkArith.wf_i64 (by omega))
          go_wp2_with (first
            | (at_mapUpdate; refine wpList_mapUpdate_own _ rfl _ _ _ 64 rfl 3 3 law3m Try.underlying64 _ W0.heap.size k _ rfl hM9 (by unfold maxLen; omega) _ _ _ rfl rfl hkey _ [] (plainElem_int Try.underlying3 (WalkArith.wf_i64 (by omega))) ?_; intro w2 hM2 hg2)
            | (at_lookup; refine wpList_lookup_own_int _ rfl _ _ 64 rfl 3 3 .i64 law3m Try.underlying64 Try.underlying3 (zero3m _) W0.heap.size (k + 1) _ rfl hM2 _ _ rfl hkey ?_; intro c hat hwc; obtain rfl := mapD_look hat))
          have hsa := HL0.out.k.size
          have hlw := HL0.out.lt
          have hbw := OH0.out.lt
          exact ⟨⟨k + 1, by omega, by first | rfl | go_num, by rw [HT.out], hl9.out.grow hg2 (fun j e => by cases e; exact ⟨by omega, by omega, by omega, by omega⟩), oh9.out.grow hg2 (fun j e => by cases e; omega), by
            rw [show mapD F (overS false I H) (k + 1) = (mapD F (overS false I H) k).put (.int .i64 k) (.lit (.int .i64 (overS false I H k))) from if_neg (by rw [HF.out]; decide), hXm]; exact hM2⟩, by first | (simp [intOf]; done) | (simp [intOf]; omega)⟩
    · obtain rfl : k = n := by omega
      have hl2 : LineW a wr L bs bf sl k cap room g I (nextS g I S F H) F := hl.congr (fun i hi => by rw [if_pos hi]) (fun i hi => rfl)
      have hsa := HL0.out.k.size
      have hlw := HL0.out.lt
      have hlr := hl.lt
      have hkr := hl.k.size
      clear hl oh hmm
      have HL2 := Lib.hid hl2
      clear hl2
      obtain ⟨t, ht⟩ : ∃ t, sumW (moreS g I F H) k = t := ⟨_, rfl⟩
      rw [ht]
      have HT := Lib.hid ht
      have hmore := HMB.out k (Nat.le_refl _)
      rw [ht] at hmore
      clear ht
      obtain ⟨z, hz⟩ : ∃ z, wr.heap.size = z := ⟨_, rfl⟩
      go_wp2_with (first
        | (at_range; refine wpList_range_own _ rfl _ 64 rfl 3 3 law3m Try.underlying64 _ W0.heap.size k _ rfl hM ?_; intro w0 hrg0 hg0 hs0))
      go_frame
      rw [hz] at hrg0 hs0 ⊢
      go_loopw [8, 9] (fun _ _ wx => ∃ (left : Lit → Bool) (cnt : Nat), wx.ranges Try.prog 3 (plainElem Try.prog 3) W0.heap.size z k (mapD F (overS g I H) k) left cnt ∧ LineW a wx L bs bf sl k cap room g I (nextS g I S F H) (fun i => if left (.int .i64 i) = true then F i else nextF g I F H k i)) (fun _ _ wx => wx.rangeLeft W0.heap.size z)
      case atStart =>
        refine ⟨_, _, hrg0, (HL2.out.grow hg0 (fun j e => by cases e)).congr (fun i hi => rfl) (fun i hi => ?_)⟩
        cases hF : F i with
        | true => rw [mapD_out hF, if_neg (by decide)]; unfold nextF; rw [hF]; rfl
        | false => rw [mapD_in hi hF, if_pos rfl]
      case round =>
        obtain ⟨left, cnt, hrg, hl⟩ := hrel
        clear hrg0 hg0 hs0
        go_wp2_with (first
          | (at_next; refine wpList_next_ranges_ii _ rfl _ rfl 3 3 .i64 .i64 law3m Try.underlying3 Try.underlying3 W0.heap.size z k _ _ _ rfl hrg ?_ ?_))
        · intro hc0 hl0
          have HLL := Lib.hid hl
          have H0 := Lib.hid hl0
          clear hl hl0
          go_wp2
          go_end0
          refine ⟨rfl, ?_⟩
          rw [HPH.out]
          exact HLL.out.congr (fun i hi => rfl) (fun i hi => by rw [H0.out, if_neg (by decide)])
        · intro x c w1 cnt1 hwx hwc hlx hat hrg1 hlt3 hg1 hs1 hen
          obtain ⟨i, hik, hFi, rfl⟩ := mapD_has (has_true_of_atKey hat)
          have hc := mapD_at (X := overS g I H) (DataW.map []) hik hFi
          rw [hat] at hc
          injection hc with hc
          injection hc with _ hc
          have hl1 : LineW a w1 L bs bf sl k cap room g I (nextS g I S F H) (fun i => if left (.int .i64 i) = true then F i else nextF g I F H k i) := hl.grow hg1 (fun j e => by cases e; exact ⟨by omega, by omega, by omega, by omega⟩)
          have d4 := hl1.view.c4
          have f0 := hl1.view.f i hik
          have ff := hl1.freeF i
          have hi0 : (0 : Int) ≤ (i : Int) := Int.natCast_nonneg _
          have hi1 : (i : Int) < (k : Int) := by omega
          have HNF := Lib.hid (show nextF g I F H k i = hitS t c by unfold nextF; rw [hFi, HT.out, ← hc]; rfl)
          have HL1 := Lib.hid hl1
          have HRG := Lib.hid hrg
          have HRG1 := Lib.hid hrg1
          have HLT := Lib.hid hlt3
          clear hl hl1 hrg hrg1 hat hc hlt3 hM
          generalize (if left (.int .i64 i) = true then F i else nextF g I F H k i) = old at f0
          rcases Int.lt_trichotomy t 0 with h1 | h1 | h1
          · by_cases h2 : c < 0
            · have HV := Lib.hid (show hitS t c = true by unfold hitS; rw [decide_eq_true h1, decide_eq_true h2]; simp)
              go_wp2
              have hrg2 := HRG1.out.kept (set_grown w1 ⟨bf, i, none⟩ (.bool true)) (by intro e; have := Option.some.inj e; dsimp only at this; omega) (by intro e; have := Option.some.inj e; dsimp only at this; omega)
              exact ⟨⟨_, cnt1, hrg2, (HL1.out.setF hik true).congr (fun _ _ => rfl) (fun j hj => frz_step (HNF.out.trans HV.out) j)⟩, by rw [hrg2.left_eq, HRG.out.left_eq]; exact HLT.out⟩
            · have t1 : ¬ t = 0 := by omega
              have t0 : (t == 0) = false := by simp; omega
              have HV := Lib.hid (show hitS t c = false by unfold hitS; rw [decide_eq_true h1, decide_eq_false h2, decide_eq_false (show ¬ 0 < t by omega), t0]; rfl)
              go_wp2
              have hrg2 := HRG1.out.kept (set_grown w1 ⟨bf, i, none⟩ (.bool false)) (by intro e; have := Option.some.inj e; dsimp only at this; omega) (by intro e; have := Option.some.inj e; dsimp only at this; omega)
              exact ⟨⟨_, cnt1, hrg2, (HL1.out.setF hik false).congr (fun _ _ => rfl) (fun j hj => frz_step (HNF.out.trans HV.out) j)⟩, by rw [hrg2.left_eq, HRG.out.left_eq]; exact HLT.out⟩
          · have HV := Lib.hid (show hitS t c = true by unfold hitS; rw [h1]; rfl)
            go_wp2
            have hrg2 := HRG1.out.kept (set_grown w1 ⟨bf, i, none⟩ (.bool true)) (by intro e; have := Option.some.inj e; dsimp only at this; omega) (by intro e; have := Option.some.inj e; dsimp only at this; omega)
            exact ⟨⟨_, cnt1, hrg2, (HL1.out.setF hik true).congr (fun _ _ => rfl) (fun j hj => frz_step (HNF.out.trans HV.out) j)⟩, by rw [hrg2.left_eq, HRG.out.left_eq]; exact HLT.out⟩
          · by_cases h2 : 0 < c
            · have HV := Lib.hid (show hitS t c = true by unfold hitS; rw [decide_eq_true h1, decide_eq_true h2]; simp)
              go_wp2
              have hrg2 := HRG1.out.kept (set_grown w1 ⟨bf, i, none⟩ (.bool true)) (by intro e; have := Option.some.inj e; dsimp only at this; omega) (by intro e; have := Option.some.inj e; dsimp only at this; omega)
              exact ⟨⟨_, cnt1, hrg2, (HL1.out.setF hik true).congr (fun _ _ => rfl) (fun j hj => frz_step (HNF.out.trans HV.out) j)⟩, by rw [hrg2.left_eq, HRG.out.left_eq]; exact HLT.out⟩
            · have t1 : ¬ t = 0 := by omega
              have t0 : (t == 0) = false := by simp; omega
              have HV := Lib.hid (show hitS t c = false by unfold hitS; rw [decide_eq_true h1, decide_eq_false h2, decide_eq_false (show ¬ t < 0 by omega), t0]; rfl)
              go_wp2
              have hrg2 := HRG1.out.kept (set_grown w1 ⟨bf, i, none⟩ (.bool false)) (by intro e; have := Option.some.inj e; dsimp only at this; omega) (by intro e; have := Option.some.inj e; dsimp only at this; omega)
              exact ⟨⟨_, cnt1, hrg2, (HL1.out.setF hik false).congr (fun _ _ => rfl) (fun j hj => frz_step (HNF.out.trans HV.out) j)⟩, by rw [hrg2.left_eq, HRG.out.left_eq]; exact HLT.out⟩
end Go.Proofs.Yticnfoppdgeioaa
