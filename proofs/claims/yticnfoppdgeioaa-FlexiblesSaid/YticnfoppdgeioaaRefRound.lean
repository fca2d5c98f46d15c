/- Layer 20: one round of sharing, by the document. -/
import Derived.Test.YticnfoppdgeioaaRowsW
import Derived.Deep.Cut
import Derived.Deep.QuietTactic
import Derived.BigQuiet
import Derived.BigRegion
import Derived.Deep.CutRange
namespace Go.Proofs.Yticnfoppdgeioaa
open Go.RowKit
set_option linter.unusedSimpArgs false
set_option linter.unusedVariables false
theorem heldDrew5 {a W : World} {v0 v1 : Value} {x0 x1 : Addr} (h : Kept a W ∧ W.cell? x0 = some v0 ∧ W.cell? x1 = some v1) :
    Kept a W.drew ∧ W.drew.cell? x0 = some v0 ∧ W.drew.cell? x1 = some v1 := ⟨h.1.drew, h.2⟩
theorem heldSet5 {a W : World} {b j : Nat} {u v0 v1 : Value} {x0 x1 : Addr} (h : Kept a W ∧ W.cell? x0 = some v0 ∧ W.cell? x1 = some v1) (hb : a.heap.size ≤ b) (n0 : x0.block ≠ b) (n1 : x1.block ≠ b) :
    Kept a (W.setCell ⟨b, j, none⟩ u) ∧ (W.setCell ⟨b, j, none⟩ u).cell? x0 = some v0 ∧ (W.setCell ⟨b, j, none⟩ u).cell? x1 = some v1 :=
  ⟨h.1.set hb _, cell_other h.2.1 n0, cell_other h.2.2 n1⟩
set_option maxRecDepth 20000 in
set_option maxHeartbeats 8000000 in
theorem refRound_any (a w : World) (b off bs bf n cap : Nat) (of room : Int) (g : Bool) (I : Nat → Item) (S : Nat → Int) (F : Nat → Bool) (h : RowsW a w bs bf n S F) (hit : ItemsAt a b off n I) (hI : ∀ i, i < n → itemB (I i) = true) (hS : OkS g S n) (hn32 : n ≤ 32) (hr : 0 ≤ room ∧ room ≤ 4194304) (hof : of = room - sumW (fun i => (I i).extra) n) :
    Calls Try.prog 26 #[.slice (some ⟨b, off, none⟩) n cap, .int .i64 of, .bool g, .slice (some ⟨bs, 0, none⟩) n n, .slice (some ⟨bf, 0, none⟩) n n] w fun e w' => ∃ c : Int, e = .returned (.int .i64 c) ∧ c = (openS F n : Int) - openS (nextF g I F (partS g I S F room n) n) n ∧ RowsW a w' bs bf n (nextS g I S F (partS g I S F room n)) (nextF g I F (partS g I S F room n) n) := by
  have HI := Lib.hid hI
  have HP := Lib.hid (fun i hi => part_bd (F := F) hI hS hn32 hr i hi)
  have HSH := Lib.hid (show shS (freeS g I S F room n) (wtS g I F) n = partS g I S F room n from rfl)
  have HW := Lib.hid (fun i hi => wtS_bd (g := g) (F := F) hI i hi)
  have HFB := Lib.hid (freeS_bd (F := F) hI hS hn32 hr)
  have HSB := Lib.hid (fun i (hi : i < n) => show 0 ≤ S i ∧ S i ≤ 536870912 from ⟨(hS i hi).1, Int.le_trans (hS i hi).2 (by unfold mostS; split <;> omega)⟩)
  have hex := sumW_bd (W := fun i => (I i).extra) (n := n) (a := -4194304) (b := 4194304) fun i hi => by have := itemB_parts (hI i hi); omega
  have hofb : -134217728 ≤ of ∧ of ≤ 138412032 := by omega
  have HXB := Lib.hid (fun k (hk : k ≤ n) => sumW_bd (n := k) (W := fun i => if F i = true then S i else (I i).base) (a := 0) (b := 536870912) fun i hi => by
    have h1 := HSB.out i (by omega)
    have h2 := itemB_parts (hI i (by omega))
    split <;> omega)
  have HFR := Lib.hid (show freeS g I S F room n = max 0 (if g = true then of - sumW (fun i => if F i = true then S i else (I i).base) n else -(of - sumW (fun i => if F i = true then S i else (I i).base) n)) by
    unfold freeS
    rw [oc_apart, hof]
    congr 1
    split <;> omega)
  obtain ⟨X, hX⟩ : ∃ X : Nat → Int, (fun i => if F i = true then S i else (I i).base) = X := ⟨_, rfl⟩
  have HXI := Lib.hid (fun i => show X i = if F i = true then S i else (I i).base by rw [← hX])
  rw [hX] at HXB HFR
  clear hI hS hex hof hX
  have hmk := run_make_row' (P := Try.prog) 24 3 (.int .i64 0) 8 Try.underlying24 intInfo1 rfl .i64 .i64 n (by omega) (by omega)
  have HL := Lib.hid h
  have hka := Lib.hid h.k
  have gS := h.gS
  have gF := h.gF
  have n3 := h.n3
  have hlt := h.lt
  have HIT := Lib.hid hit
  clear h hit
  have hk : Kept w w := Kept.refl w
  go_enter Try.func26, Try.ntmps26
  go_wp2
  clear hmk hk
  have HP0 := Lib.hid (part_new w n (wtS g I F))
  have hk1 : Kept w (w.alloc (.cells (madeCells #[.int .i64 0] n) 3)) := (Kept.refl w).alloc _
  generalize w.alloc (.cells (madeCells #[.int .i64 0] n) 3) = W1 at *
  have HK1 := Lib.hid hk1
  clear hk1
  go_loopw [11, 13, 52, 63] (fun f i _ _ wx => ∃ k : Nat, k ≤ n ∧ i = .int .i64 k ∧ f = .int .i64 (of - sumW X k) ∧ Kept w wx ∧ PartW wx w.heap.size n k (wtS g I F)) (fun _ i _ _ _ => n - (intOf i).toNat)
  case atStart => exact ⟨0, Nat.zero_le _, rfl, by simp [sumW], HK1.out, HP0.out⟩
  case round =>
    obtain ⟨k, hkn, rfl, rfl, hk, hp⟩ := hrel
    have b1 := HXB.out k hkn
    by_cases hlt : k < n
    · have hi1 : (k : Int) < (n : Int) := by omega
      have hl := HL.out.kept hk
      have hit := HIT.out.kept hl.k
      have c0 := hit.base k hlt
      have c3 := hit.grow k hlt
      have c4 := hit.shrink k hlt
      have hx := itemB_parts (HI.out k hlt)
      have hs := HSB.out k hlt
      have f0 := hl.atF hlt
      have s0 := hl.atS hlt
      have lS := hl.lt
      have lB : b < wr.heap.size := World.block_lt_of_cell? _ _ c0
      have lB2 : b < w.heap.size := World.block_lt_of_cell? _ _ ((HIT.out.kept HL.out.k).base k hlt)
      have e1 := Lib.hid (show sumW X (k + 1) = sumW X k + (if F k = true then S k else (I k).base) by rw [← HXI.out k]; rfl)
      have pl := hp.lt
      have pc := hp.cell hlt
      rw [if_neg (by omega)] at pc
      have pf := hp.free k
      have hpart := Lib.hid hp
      have hw := wtS_bd (g := g) (F := F) HI.out k hlt
      have hwt := Lib.hid (show wtS g I F k = if F k = true then 0 else if g = true then (I k).grow else (I k).shrink * (I k).base from rfl)
      clear hit hl hp
      generalize hy : I k = y at *
      generalize sumW X k = p at *
      generalize S k = s at *
      cases hF : F k with
      | true =>
        rw [hF] at f0 e1 hwt
        clear hF hw
        rw [if_pos rfl] at e1 hwt
        go_wp2
        exact ⟨⟨k + 1, by omega, by first | rfl | go_num, by rw [e1.out]; congr 1; omega, hk, hpart.out.skip hlt hwt.out⟩, by first | (simp [intOf]; done) | (simp [intOf]; omega)⟩
      | false =>
        rw [hF] at f0 e1 hwt
        clear hF
        rw [if_neg (by decide)] at e1 hwt
        cases g with
        | true =>
          rw [if_pos rfl] at hwt
          clear hw
          have c0' := cell_other (v := .int .i64 y.grow) (p := ⟨w.heap.size, k, none⟩) c0 (by show b ≠ w.heap.size; omega)
          go_wp2
          exact ⟨⟨k + 1, by omega, by first | rfl | go_num, by rw [e1.out]; congr 1; omega, hk.set (Nat.le_refl _) _, hpart.out.put hlt hwt.out⟩, by first | (simp [intOf]; done) | (simp [intOf]; omega)⟩
        | false =>
          rw [if_neg (by decide)] at hwt
          rw [hwt.out] at hw
          obtain ⟨m, hm⟩ : ∃ m, y.shrink * y.base = m := ⟨_, rfl⟩
          rw [hm] at hw hwt
          go_upto_region 6 with fail
          go_region
          have hpart2 := Lib.hid (hpart.out.put hlt hwt.out)
          have c0' := cell_other (v := .int .i64 m) (p := ⟨w.heap.size, k, none⟩) c0 (by show b ≠ w.heap.size; omega)
          go_wp2
          exact ⟨⟨k + 1, by omega, by first | rfl | go_num, by rw [e1.out]; congr 1; omega, (hk.set (Nat.le_refl _) _).drew, hpart2.out.kept (Kept.refl _).drew⟩, by first | (simp [intOf]; done) | (simp [intOf]; omega)⟩
    · obtain rfl : k = n := by omega
      have hl := Lib.hid (HL.out.kept hk)
      have hpart := Lib.hid hp
      clear hp
      obtain ⟨f, hf⟩ : ∃ f, freeS g I S F room k = f := ⟨_, rfl⟩
      rw [hf] at HFR HFB HSH
      clear hf
      have HC := Lib.hid (refShares_any f w.heap.size k (wtS g I F) wr (hpart.out.all) HW.out HFB.out hn32)
      have hfb := HFB.out
      generalize sumW X k = p at *
      obtain ⟨q, hq⟩ : ∃ q, of - p = q := ⟨_, rfl⟩
      rw [hq] at HFR ⊢
      have hqb : -17314086912 ≤ q ∧ q ≤ 138412032 := by omega
      clear hq b1
      have HLT := Lib.hid hl.out.lt
      have HSZ := Lib.hid hk.size
      go_upto_if 80 with fail
      go_cut [11] from 81 to 85 (fun v wx => v = .int .i64 f ∧ wr = wx)
      case first =>
        have hfr := HFR.out
        clear HFR
        cases g with
        | true =>
          rw [if_pos rfl] at hfr
          rcases Int.lt_trichotomy q 0 with h1 | h1 | h1
          all_goals
            have H6 := Lib.hid hfr
            clear hfr
            go_wp2_with fail
            go_meet
            exact ⟨by have := H6.out; congr 1; omega, rfl⟩
        | false =>
          rw [if_neg (by decide)] at hfr
          rcases Int.lt_trichotomy q 0 with h1 | h1 | h1
          all_goals
            have H6 := Lib.hid hfr
            clear hfr
            go_wp2_with fail
            go_meet
            exact ⟨by have := H6.out; congr 1; omega, rfl⟩
      case rest =>
        obtain ⟨rfl, hwc⟩ := hcut
        subst hwc
        clear hqb HFR HXB HXI
        go_wp2_with fail
        refine HC.out.mono ?_
        rintro e w2 ⟨_, rfl, ⟨bh, ch, rfl, gh, oh, zh, hh⟩, hn⟩
        rw [HSH.out] at hh
        obtain ⟨H, hH⟩ : ∃ H, partS g I S F room k = H := ⟨_, rfl⟩
        rw [hH] at hh HP
        have HPH := Lib.hid hH
        have hmk := run_make_row' (P := Try.prog) 24 3 (.int .i64 0) 8 Try.underlying24 intInfo1 rfl .i64 .i64 k (by omega) (by omega)
        have HMB := Lib.hid (more_bd (g := g) (F := F) HI.out HP.out hn32)
        have hl2 := hl.out.kept hn
        have hbh := oh.lt
        have hll := HLT.out
        have hsz0 := HSZ.out
        have haw := hka.out.size
        clear hH HC HSH HFB hfb HW hpart hn
        obtain ⟨W0, hW0⟩ : ∃ z, z = w2 := ⟨_, rfl⟩
        rw [← hW0] at oh hl2 hbh ⊢
        clear hW0
        have hM0 := part_new W0 k (moreS g I F H)
        have hk9 : Kept W0 (W0.alloc (.cells (madeCells #[.int .i64 0] k) 3)) := (Kept.refl W0).alloc _
        replace hl2 := hl2.kept hk9
        replace oh := oh.kept hk9
        have HL2 := Lib.hid hl2
        have OH := Lib.hid oh
        have HM0 := Lib.hid hM0
        have HHH := Lib.hid hh
        clear hl2 oh hM0 hh hk9
        go_wp2
        clear hmk
        generalize W0.alloc (.cells (madeCells #[.int .i64 0] k) 3) = W1' at *
        generalize hM : W0.heap.size = M at *
        replace hM := Lib.hid hM
        have gM : a.heap.size ≤ M := by omega
        have m1 : bs ≠ M := by omega
        have m2 : bf ≠ M := by omega
        have m3 : bh ≠ M := by omega
        have m4 : bh ≠ bs := by omega
        have m5 : bh ≠ bf := by omega
        have gH : a.heap.size ≤ bh := by omega
        clear hll hbh hsz0 gh
        go_loopw [16, 17, 18] (fun t i _ wx => ∃ j : Nat, j ≤ k ∧ i = .int .i64 j ∧ t = .int .i64 (sumW (moreS g I F H) j) ∧ RowsW a wx bs bf k (fun i => if i < j then nextS g I S F H i else S i) F ∧ PartW wx M k j (moreS g I F H) ∧ Own wx bh 3 ch) (fun _ i _ _ => k - (intOf i).toNat)
        case atStart => exact ⟨0, Nat.zero_le _, rfl, rfl, HL2.out.congr (fun i hi => by simp) (fun i hi => rfl), HM0.out, OH.out⟩
        case round =>
          obtain ⟨j, hjk, rfl, rfl, hl, hp, oh⟩ := hrel
          by_cases hlt2 : j < k
          · have hi1 : (j : Int) < (k : Int) := by omega
            have hit := HIT.out.kept hl.k
            have c0 := hit.base j hlt2
            have c1 := hit.min j hlt2
            have c2 := hit.max j hlt2
            have hx := itemB_parts (HI.out j hlt2)
            have hpq := HP.out j hlt2
            have hsz := size_bd (g := g) (HI.out j hlt2) hpq
            have f0 := hl.atF hlt2
            have s0 := hl.atS hlt2
            rw [if_neg (by omega)] at s0
            have sf := hl.freeS j
            have h0 : wr.cell? ⟨bh, j, none⟩ = some (.int .i64 (H j)) := (oh.cell j).trans (HHH.out j hlt2)
            have lB0 : b < a.heap.size := World.block_lt_of_cell? _ _ (HIT.out.base j hlt2)
            obtain ⟨lS, lF⟩ := hl.lt
            have lH := oh.lt
            have lM := hp.lt
            have laR := hl.k.size
            have nb : b ≠ bs := by omega
            clear hit
            generalize hy : I j = y at *
            generalize hHk : H j = q at *
            replace hy := Lib.hid hy
            replace hHk := Lib.hid hHk
            generalize S j = s at *
            replace hl := Lib.hid hl
            replace hp := Lib.hid hp
            replace oh := Lib.hid oh
            replace hsz := Lib.hid hsz
            cases hF : F j with
            | true =>
              rw [hF] at f0
              have HF := Lib.hid hF
              clear hF
              go_wp2
              have hF := HF.out
              exact ⟨⟨j + 1, by omega, by first | rfl | go_num, by rw [show sumW (moreS g I F H) (j + 1) = sumW (moreS g I F H) j + moreS g I F H j from rfl, show moreS g I F H j = 0 from if_pos hF, Int.add_zero], hl.out.congr (fun i hi => by
                rcases Nat.lt_trichotomy i j with h1 | h1 | h1
                · rw [if_pos h1, if_pos (by omega)]
                · subst h1; rw [if_neg (by omega), if_pos (by omega)]; unfold nextS; rw [if_pos hF]
                · rw [if_neg (by omega), if_neg (by omega)]) (fun i hi => rfl), hp.out.skip hlt2 (if_pos hF), oh.out⟩, by first | (simp [intOf]; done) | (simp [intOf]; omega)⟩
            | false =>
              rw [hF] at f0
              have HF := Lib.hid hF
              clear hF
              cases g with
              | true =>
                have kX : Kept a wr := hl.out.k
                have hi0 : (0 : Int) ≤ (j : Int) := Int.natCast_nonneg _
                have K0 := Lib.hid (Kept.refl wr)
                go_upto_region 23 with fail
                go_quiet (fail)
                obtain ⟨Y0, eY0⟩ : ∃ z, wr.drewN nq = z := ⟨_, rfl⟩
                have kY0 : Kept wr Y0 := by rw [← eY0]; exact (Kept.refl wr).drewN nq
                rw [eY0]
                replace K0 := Lib.hid (K0.out.trans kY0)
                replace kX := kX.trans kY0
                replace c0 := cell_kept kY0 c0
                replace c1 := cell_kept kY0 c1
                replace c2 := cell_kept kY0 c2
                replace h0 := cell_kept kY0 h0
                replace s0 := cell_kept kY0 s0
                replace sf := (kY0.below.frozen lS).trans sf
                have lY0 : bs < Y0.heap.size := Nat.lt_of_lt_of_le lS kY0.size
                clear eY0 kY0
                obtain ⟨r, hr7⟩ : ∃ r, y.base + q = r := ⟨_, rfl⟩
                have hR : rawS true I H j = r := by unfold rawS; rw [if_pos rfl, hy.out, hHk.out]; exact hr7
                have hrb : -268435456 ≤ r ∧ r ≤ 272629760 := by omega
                rw [hr7]
                have hC : sizeS true I H j = max 0 (clampS r y.min y.max) := by unfold sizeS; rw [hR, hy.out]
                obtain ⟨v, hv⟩ : ∃ v, clampS r y.min y.max = v := ⟨_, rfl⟩
                have hvb : -1073741824 ≤ v ∧ v ≤ 1073741824 := by rw [← hv]; unfold clampS; omega
                have HX := Lib.hid (And.intro hR hC)
                replace hv := Lib.hid hv
                clear hr7 hR hC
                have hS := heldDrew5 (x0 := ⟨b, off + j * 6 + 1, none⟩) (x1 := ⟨b, off + j * 6 + 2, none⟩) ⟨kX, c1, c2⟩
                go_upto_region 26 with fail
                go_region_held3 (fun W => Kept a W ∧ W.cell? ⟨b, off + j * 6 + 1, none⟩ = some (.int .i64 y.min) ∧ W.cell? ⟨b, off + j * 6 + 2, none⟩ = some (.int .i64 y.max))
                  (first | exact hS | assumption | exact heldSet5 hS gS nb nb)
                  (first
                    | (go_at_call 18; (with_reducible refine (refClamp_any _ _ _ _).mono ?_); rintro e w3 ⟨rfl, rfl⟩; rw [hv.out]))
                have hm0 : sizeS true I H j = if 0 < v then v else 0 := by rw [HX.out.2, hv.out]; omega
                obtain ⟨m, hm⟩ : ∃ m, (if 0 < v then v else 0) = m := ⟨_, rfl⟩
                rw [hm] at hm0 ⊢
                have hmb : 0 ≤ m ∧ m ≤ 1073741824 := by omega
                clear hS
                have hXm : overS true I H j = m - r := by unfold overS; rw [hm0, HX.out.1]
                obtain ⟨Z, eZ⟩ : ∃ Z, (Y0.setCell ⟨bs, j, none⟩ (.int .i64 m)).drew = Z := ⟨_, rfl⟩
                have hl9 : RowsW a Z bs bf k (fun i => if i < j + 1 then nextS true I S F H i else S i) F := by
                  rw [← eZ]
                  refine (((hl.out.kept K0.out).setS hlt2 m).kept (Kept.refl _).drew).congr (fun i hi => ?_) (fun i hi => rfl)
                  rcases Nat.lt_trichotomy i j with h1 | h1 | h1
                  · rw [if_neg (by omega), if_pos h1, if_pos (by omega)]
                  · subst h1; rw [if_pos rfl, if_pos (by omega)]; unfold nextS; rw [HF.out, if_neg (by decide), hm0]
                  · rw [if_neg (by omega), if_neg (by omega), if_neg (by omega)]
                have oh9 : Own Z bh 3 ch := by rw [← eZ]; exact ((oh.out.kept K0.out).other m4 _).drew
                have hp9 : PartW Z M k j (moreS true I F H) := by rw [← eZ]; exact ((hp.out.kept K0.out).other (Ne.symm m1)).kept (Kept.refl _).drew
                rw [eZ]
                have s1 := hl9.atS hlt2
                rw [if_pos (by omega), show nextS true I S F H j = m by unfold nextS; rw [HF.out, if_neg (by decide), hm0]] at s1
                have pl := hp9.lt
                have pf := hp9.free j
                have pc := hp9.cell hlt2
                rw [if_neg (by omega)] at pc
                have hmore := HMB.out j hjk
                obtain ⟨t, ht⟩ : ∃ t, sumW (moreS true I F H) j = t := ⟨_, rfl⟩
                rw [ht] at hmore ⊢
                have HMJ := Lib.hid (show moreS true I F H j = m - r by unfold moreS; rw [HF.out, if_neg (by decide), hXm])
                have HT := Lib.hid (show sumW (moreS true I F H) (j + 1) = t + (m - r) by rw [← ht, ← HMJ.out]; rfl)
                replace hl9 := Lib.hid hl9
                replace oh9 := Lib.hid oh9
                replace hp9 := Lib.hid hp9
                clear eZ ht K0 kX c0 c1 c2 h0 s0 sf hm0 hm
                go_wp2
                exact ⟨⟨j + 1, by omega, by first | rfl | go_num, by rw [HT.out], hl9.out.other gM m1 m2, hp9.out.put hlt2 HMJ.out, oh9.out.other m3 _⟩, by first | (simp [intOf]; done) | (simp [intOf]; omega)⟩
              | false =>
                have kX : Kept a wr := hl.out.k
                have hi0 : (0 : Int) ≤ (j : Int) := Int.natCast_nonneg _
                have K0 := Lib.hid (Kept.refl wr)
                go_upto_region 23 with fail
                go_quiet (fail)
                obtain ⟨Y0, eY0⟩ : ∃ z, wr.drewN nq = z := ⟨_, rfl⟩
                have kY0 : Kept wr Y0 := by rw [← eY0]; exact (Kept.refl wr).drewN nq
                rw [eY0]
                replace K0 := Lib.hid (K0.out.trans kY0)
                replace kX := kX.trans kY0
                replace c0 := cell_kept kY0 c0
                replace c1 := cell_kept kY0 c1
                replace c2 := cell_kept kY0 c2
                replace h0 := cell_kept kY0 h0
                replace s0 := cell_kept kY0 s0
                replace sf := (kY0.below.frozen lS).trans sf
                have lY0 : bs < Y0.heap.size := Nat.lt_of_lt_of_le lS kY0.size
                clear eY0 kY0
                go_upto_region 25 with fail
                go_quiet (fail)
                obtain ⟨Y1, eY1⟩ : ∃ z, Y0.drewN nq = z := ⟨_, rfl⟩
                have kY1 : Kept Y0 Y1 := by rw [← eY1]; exact (Kept.refl Y0).drewN nq
                rw [eY1]
                replace K0 := Lib.hid (K0.out.trans kY1)
                replace kX := kX.trans kY1
                replace c0 := cell_kept kY1 c0
                replace c1 := cell_kept kY1 c1
                replace c2 := cell_kept kY1 c2
                replace h0 := cell_kept kY1 h0
                replace s0 := cell_kept kY1 s0
                replace sf := (kY1.below.frozen lY0).trans sf
                have lY1 : bs < Y1.heap.size := Nat.lt_of_lt_of_le lY0 kY1.size
                clear eY1 kY1
                obtain ⟨r, hr7⟩ : ∃ r, y.base - q = r := ⟨_, rfl⟩
                have hR : rawS false I H j = r := by unfold rawS; rw [if_neg (by decide), hy.out, hHk.out]; exact hr7
                have hrb : -268435456 ≤ r ∧ r ≤ 272629760 := by omega
                rw [hr7]
                have hC : sizeS false I H j = max 0 (clampS r y.min y.max) := by unfold sizeS; rw [hR, hy.out]
                obtain ⟨v, hv⟩ : ∃ v, clampS r y.min y.max = v := ⟨_, rfl⟩
                have hvb : -1073741824 ≤ v ∧ v ≤ 1073741824 := by rw [← hv]; unfold clampS; omega
                have HX := Lib.hid (And.intro hR hC)
                replace hv := Lib.hid hv
                clear hr7 hR hC
                have hS := heldDrew5 (x0 := ⟨b, off + j * 6 + 1, none⟩) (x1 := ⟨b, off + j * 6 + 2, none⟩) ⟨kX, c1, c2⟩
                go_upto_region 26 with fail
                go_region_held3 (fun W => Kept a W ∧ W.cell? ⟨b, off + j * 6 + 1, none⟩ = some (.int .i64 y.min) ∧ W.cell? ⟨b, off + j * 6 + 2, none⟩ = some (.int .i64 y.max))
                  (first | exact hS | assumption | exact heldSet5 hS gS nb nb)
                  (first
                    | (go_at_call 18; (with_reducible refine (refClamp_any _ _ _ _).mono ?_); rintro e w3 ⟨rfl, rfl⟩; rw [hv.out]))
                have hm0 : sizeS false I H j = if 0 < v then v else 0 := by rw [HX.out.2, hv.out]; omega
                obtain ⟨m, hm⟩ : ∃ m, (if 0 < v then v else 0) = m := ⟨_, rfl⟩
                rw [hm] at hm0 ⊢
                have hmb : 0 ≤ m ∧ m ≤ 1073741824 := by omega
                clear hS
                have hXm : overS false I H j = m - r := by unfold overS; rw [hm0, HX.out.1]
                obtain ⟨Z, eZ⟩ : ∃ Z, (Y1.setCell ⟨bs, j, none⟩ (.int .i64 m)).drew = Z := ⟨_, rfl⟩
                have hl9 : RowsW a Z bs bf k (fun i => if i < j + 1 then nextS false I S F H i else S i) F := by
                  rw [← eZ]
                  refine (((hl.out.kept K0.out).setS hlt2 m).kept (Kept.refl _).drew).congr (fun i hi => ?_) (fun i hi => rfl)
                  rcases Nat.lt_trichotomy i j with h1 | h1 | h1
                  · rw [if_neg (by omega), if_pos h1, if_pos (by omega)]
                  · subst h1; rw [if_pos rfl, if_pos (by omega)]; unfold nextS; rw [HF.out, if_neg (by decide), hm0]
                  · rw [if_neg (by omega), if_neg (by omega), if_neg (by omega)]
                have oh9 : Own Z bh 3 ch := by rw [← eZ]; exact ((oh.out.kept K0.out).other m4 _).drew
                have hp9 : PartW Z M k j (moreS false I F H) := by rw [← eZ]; exact ((hp.out.kept K0.out).other (Ne.symm m1)).kept (Kept.refl _).drew
                rw [eZ]
                have s1 := hl9.atS hlt2
                rw [if_pos (by omega), show nextS false I S F H j = m by unfold nextS; rw [HF.out, if_neg (by decide), hm0]] at s1
                have pl := hp9.lt
                have pf := hp9.free j
                have pc := hp9.cell hlt2
                rw [if_neg (by omega)] at pc
                have hmore := HMB.out j hjk
                obtain ⟨t, ht⟩ : ∃ t, sumW (moreS false I F H) j = t := ⟨_, rfl⟩
                rw [ht] at hmore ⊢
                have HMJ := Lib.hid (show moreS false I F H j = m - r by unfold moreS; rw [HF.out, if_neg (by decide), hXm])
                have HT := Lib.hid (show sumW (moreS false I F H) (j + 1) = t + (m - r) by rw [← ht, ← HMJ.out]; rfl)
                replace hl9 := Lib.hid hl9
                replace oh9 := Lib.hid oh9
                replace hp9 := Lib.hid hp9
                clear eZ ht K0 kX c0 c1 c2 h0 s0 sf hm0 hm
                go_wp2
                exact ⟨⟨j + 1, by omega, by first | rfl | go_num, by rw [HT.out], hl9.out.other gM m1 m2, hp9.out.put hlt2 HMJ.out, oh9.out.other m3 _⟩, by first | (simp [intOf]; done) | (simp [intOf]; omega)⟩
          · obtain rfl : j = k := by omega
            have hl3 : RowsW a wr bs bf j (nextS g I S F H) F := hl.congr (fun i hi => by rw [if_pos hi]) (fun i hi => rfl)
            have HL3 := Lib.hid hl3
            have HP3 := Lib.hid hp
            clear hl oh hl3 hp
            obtain ⟨t, ht⟩ : ∃ t, sumW (moreS g I F H) j = t := ⟨_, rfl⟩
            rw [ht]
            have HT := Lib.hid ht
            have hmore := HMB.out j (Nat.le_refl _)
            rw [ht] at hmore
            clear ht
            have HNF := Lib.hid (fun i => show nextF g I F H j i = (F i || hitS t (overS g I H i)) by unfold nextF; rw [HT.out])
            obtain ⟨NF, hNF⟩ : ∃ NF, nextF g I F H j = NF := ⟨_, rfl⟩
            rw [hNF] at HNF
            have HNE := Lib.hid hNF
            clear hNF
            go_wp2
            go_loopw [19, 20] (fun c i wx => ∃ m : Nat, m ≤ j ∧ i = .int .i64 m ∧ c = .int .i64 ((openS F m : Int) - openS NF m) ∧ RowsW a wx bs bf j (nextS g I S F H) (fun i => if i < m then NF i else F i) ∧ PartW wx M j j (moreS g I F H)) (fun _ i _ => j - (intOf i).toNat)
            case atStart => exact ⟨0, Nat.zero_le _, rfl, rfl, HL3.out.congr (fun i hi => rfl) (fun i hi => by simp), HP3.out⟩
            case round =>
              obtain ⟨m, hmj, rfl, rfl, hl, hp⟩ := hrel
              have o1 := openS_le F m
              have o2 := openS_le NF m
              by_cases hlt3 : m < j
              · have hi1 : (m : Int) < (j : Int) := by omega
                have f0 := hl.atF hlt3
                rw [if_neg (by omega)] at f0
                have ff := hl.freeF m
                have lF := hl.lt.2
                have m0 := hp.cell hlt3
                rw [if_pos hlt3] at m0
                have lM := hp.lt
                have e1 := Lib.hid (show openS F (m + 1) = openS F m + if F m = true then 0 else 1 from rfl)
                have e2 := Lib.hid (show openS NF (m + 1) = openS NF m + if NF m = true then 0 else 1 from rfl)
                have HLX := Lib.hid hl
                have HPX := Lib.hid hp
                clear hl hp
                have hstep : ∀ v : Bool, NF m = v → ∀ i, (if i = m then v else if i < m then NF i else F i) = if i < m + 1 then NF i else F i := by
                  intro v hv i
                  rcases Nat.lt_trichotomy i m with h1 | h1 | h1
                  · rw [if_neg (by omega), if_pos h1, if_pos (by omega)]
                  · subst h1; rw [if_pos rfl, if_pos (by omega), hv]
                  · rw [if_neg (by omega), if_neg (by omega), if_neg (by omega)]
                have hstay : NF m = F m → ∀ i, (if i < m then NF i else F i) = if i < m + 1 then NF i else F i := by
                  intro hv i
                  rcases Nat.lt_trichotomy i m with h1 | h1 | h1
                  · rw [if_pos h1, if_pos (by omega)]
                  · subst h1; rw [if_neg (by omega), if_pos (by omega), hv]
                  · rw [if_neg (by omega), if_neg (by omega)]
                have HST := Lib.hid hstep
                have HSY := Lib.hid hstay
                clear hstep hstay
                have HNM := Lib.hid (HNF.out m)
                generalize openS F m = x1 at *
                generalize openS NF m = x2 at *
                cases hF : F m with
                | true =>
                  rw [hF] at f0 e1
                  have HF := Lib.hid hF
                  have HN := Lib.hid (show NF m = true by rw [HNM.out, hF]; rfl)
                  clear hF
                  go_wp2
                  exact ⟨⟨m + 1, by omega, by first | rfl | go_num, by rw [e1.out, e2.out, HN.out]; simp, HLX.out.congr (fun i hi => rfl) (fun i hi => HSY.out (HN.out.trans HF.out.symm) i), HPX.out⟩, by first | (simp [intOf]; done) | (simp [intOf]; omega)⟩
                | false =>
                  rw [hF] at f0 e1
                  have hc : moreS g I F H m = overS g I H m := by unfold moreS; rw [hF, if_neg (by decide)]
                  rw [hc] at m0
                  have hN : NF m = hitS t (overS g I H m) := by rw [HNM.out, hF]; rfl
                  have HF := Lib.hid hF
                  clear hF hc
                  generalize overS g I H m = c at *
                  have HN := Lib.hid hN
                  clear hN HNM
                  rcases Int.lt_trichotomy t 0 with h1 | h1 | h1
                  · by_cases h2 : c < 0
                    · have HV := Lib.hid (show hitS t c = true by unfold hitS; rw [decide_eq_true h1, decide_eq_true h2]; simp)
                      have t1 : ¬ t = 0 := by omega
                      go_wp2
                      exact ⟨⟨m + 1, by omega, by first | rfl | go_num, by rw [e1.out, e2.out, HN.out, HV.out]; simp; omega, (HLX.out.setF hlt3 true).congr (fun i hi => rfl) (fun i hi => HST.out true (HN.out.trans HV.out) i), HPX.out.other (Ne.symm m2)⟩, by first | (simp [intOf]; done) | (simp [intOf]; omega)⟩
                    · have t1 : ¬ t = 0 := by omega
                      have t0 : (t == 0) = false := by simp; omega
                      have HV := Lib.hid (show hitS t c = false by unfold hitS; rw [decide_eq_true h1, decide_eq_false h2, decide_eq_false (show ¬ 0 < t by omega), t0]; rfl)
                      go_wp2
                      exact ⟨⟨m + 1, by omega, by first | rfl | go_num, by rw [e1.out, e2.out, HN.out, HV.out]; simp; omega, HLX.out.congr (fun i hi => rfl) (fun i hi => HSY.out ((HN.out.trans HV.out).trans HF.out.symm) i), HPX.out⟩, by first | (simp [intOf]; done) | (simp [intOf]; omega)⟩
                  · have HV := Lib.hid (show hitS t c = true by unfold hitS; rw [h1]; rfl)
                    subst h1
                    go_wp2
                    exact ⟨⟨m + 1, by omega, by first | rfl | go_num, by rw [e1.out, e2.out, HN.out, HV.out]; simp; omega, (HLX.out.setF hlt3 true).congr (fun i hi => rfl) (fun i hi => HST.out true (HN.out.trans HV.out) i), HPX.out.other (Ne.symm m2)⟩, by first | (simp [intOf]; done) | (simp [intOf]; omega)⟩
                  · by_cases h2 : 0 < c
                    · have HV := Lib.hid (show hitS t c = true by unfold hitS; rw [decide_eq_true h1, decide_eq_true h2]; simp)
                      have t1 : ¬ t = 0 := by omega
                      go_wp2
                      exact ⟨⟨m + 1, by omega, by first | rfl | go_num, by rw [e1.out, e2.out, HN.out, HV.out]; simp; omega, (HLX.out.setF hlt3 true).congr (fun i hi => rfl) (fun i hi => HST.out true (HN.out.trans HV.out) i), HPX.out.other (Ne.symm m2)⟩, by first | (simp [intOf]; done) | (simp [intOf]; omega)⟩
                    · have t1 : ¬ t = 0 := by omega
                      have t0 : (t == 0) = false := by simp; omega
                      have HV := Lib.hid (show hitS t c = false by unfold hitS; rw [decide_eq_true h1, decide_eq_false h2, decide_eq_false (show ¬ t < 0 by omega), t0]; rfl)
                      go_wp2
                      exact ⟨⟨m + 1, by omega, by first | rfl | go_num, by rw [e1.out, e2.out, HN.out, HV.out]; simp; omega, HLX.out.congr (fun i hi => rfl) (fun i hi => HSY.out ((HN.out.trans HV.out).trans HF.out.symm) i), HPX.out⟩, by first | (simp [intOf]; done) | (simp [intOf]; omega)⟩
              · obtain rfl : m = j := by omega
                go_wp2
                go_ret
                refine ⟨_, rfl, ?_, ?_⟩
                · rw [HPH.out, HNE.out]
                · rw [HPH.out, HNE.out]
                  exact hl.congr (fun i hi => rfl) (fun i hi => by rw [if_pos hi])
end Go.Proofs.Yticnfoppdgeioaa
