/- Layer 20: the sizes of a line's items, by the document. -/
import Derived.Test.YticnfoppdgeioaaRefRound
import Derived.Test.YticnfoppdgeioaaFlexible
import Derived.Test.YticnfoppdgeioaaFlexSum
namespace Go.Proofs.Yticnfoppdgeioaa
open Go.RowKit Go.Maps
set_option linter.unusedSimpArgs false
set_option linter.unusedVariables false
theorem wish_bd {I : Nat → Item} {n : Nat} (hI : ∀ i, i < n → itemB (I i) = true) (hn : n ≤ 32) (k : Nat) (hk : k ≤ n) : (0 ≤ sumW (fun i => wishS (I i)) k ∧ sumW (fun i => wishS (I i)) k ≤ 134217728) ∧ -134217728 ≤ sumW (fun i => (I i).extra) k ∧ sumW (fun i => (I i).extra) k ≤ 134217728 := by
  have h1 := sumW_bd (n := k) (W := fun i => wishS (I i)) (a := 0) (b := 4194304) fun i hi => wishS_bd (hI i (by omega))
  have h2 := sumW_bd (n := k) (W := fun i => (I i).extra) (a := -4194304) (b := 4194304) fun i hi => (itemB_parts (hI i (by omega))).2.2.2.2.2
  omega
set_option maxRecDepth 20000 in
set_option maxHeartbeats 8000000 in
theorem refResolve_ok (sl : Option Addr) (n cap : Nat) (room : Int) (I : Nat → Item) (w : World) (hit : 0 < n → ∃ b off, sl = some ⟨b, off, none⟩ ∧ ItemsAt w b off n I) (hv : ItV w (.slice sl n cap) n I) (hI : ∀ i, i < n → itemB (I i) = true) (hn32 : n ≤ 32) (hr : 0 ≤ room ∧ room ≤ 4194304) (hg1 : mayI n I = true) (hg2 : inB 0 4194304 room = true) :
    Calls Try.prog 12 #[.slice sl n cap, .int .i64 room] w fun e w' => ∃ u, e = .returned (.tuple #[u, .int .i64 0]) ∧ Made 3 w w' u n (intZ (resS I room n)) ∧ Kept w w' := by
  have HI := Lib.hid hI
  have HIT := Lib.hid hit
  have HB := Lib.hid (wish_bd hI hn32)
  have HMY := Lib.hid hg1
  have HRM := Lib.hid hg2
  have HV := Lib.hid hv
  have hmk := run_make_row' (P := Try.prog) 24 3 (.int .i64 0) 8 Try.underlying24 intInfo1 rfl .i64 .i64 n (by omega) (by omega)
  have hmb := run_make_row' (P := Try.prog) 49 4 (.bool false) 1 Try.underlying49 (by kernel_rfl) rfl .i64 .i64 n (by omega) (by omega)
  clear hI hit hg1 hg2 hv
  have hk : Kept w w := Kept.refl w
  go_enter Try.func12, Try.ntmps12
  go_wp2_with fail
  refine ((show Calls Try.prog 23 #[.slice sl n cap] w _ from by have := refItemsMay_any (.slice sl n cap) n I w HV.out (by omega); rw [HMY.out] at this; exact this)).mono ?_
  rintro e w1 ⟨rfl, hn⟩
  replace hk := hk.trans hn
  clear hn
  go_wp2_with fail
  refine ((show Calls Try.prog 24 #[.int .i64 room] _ _ from by have := room11_any room w1; rw [HRM.out] at this; exact this)).mono ?_
  rintro e w1 ⟨rfl, rfl⟩
  obtain ⟨A, hA⟩ : ∃ z, w1 = z := ⟨_, rfl⟩
  rw [hA] at hk ⊢
  clear hA
  have HKA := Lib.hid hk
  go_wp2
  clear hmk hmb hk
  have hl0 : RowsW A ((A.alloc (.cells (madeCells #[.int .i64 0] n) 3)).alloc (.cells (madeCells #[.bool false] n) 4)) A.heap.size (A.heap.size + 1) n (fun _ => 0) (fun _ => false) :=
    ⟨((Kept.refl A).alloc _).alloc _, ⟨_, (Own.new A (madeCells #[.int .i64 0] n) 3).alloc _, size_madeCells _ _, made_cell _ n⟩, ⟨_, Own.at_ (A.alloc (.cells (madeCells #[.int .i64 0] n) 3)) (madeCells #[.bool false] n) 4 (b := A.heap.size + 1) (by simp), size_madeCells _ _, made_cell _ n⟩, by omega, by omega, by omega⟩
  generalize (A.alloc (.cells (madeCells #[.int .i64 0] n) 3)).alloc (.cells (madeCells #[.bool false] n) 4) = W1 at *
  generalize A.heap.size + 1 = bf at *
  have gb : A.heap.size = A.heap.size := rfl
  generalize A.heap.size = bs at gb hl0 ⊢
  have HL0 := Lib.hid hl0
  clear hl0
  go_loopw [6, 7, 10] (fun s x i wx => ∃ k : Nat, k ≤ n ∧ i = .int .i64 k ∧ s = .int .i64 (sumW (fun i => wishS (I i)) k) ∧ x = .int .i64 (sumW (fun i => (I i).extra) k) ∧ RowsW A wx bs bf n (fun i => if i < k then wishS (I i) else 0) (fun _ => false)) (fun _ _ i _ => n - (intOf i).toNat)
  case atStart => exact ⟨0, Nat.zero_le _, rfl, rfl, rfl, HL0.out.congr (fun i hi => by simp) (fun i hi => rfl)⟩
  case round =>
    obtain ⟨k, hkn, rfl, rfl, rfl, hl⟩ := hrel
    by_cases hlt : k < n
    · have hi1 : (k : Int) < (n : Int) := by omega
      obtain ⟨b, off, rfl, hit⟩ := HIT.out (by omega)
      have hit := hit.kept (HKA.out.trans hl.k)
      have c0 := hit.base k hlt
      have c1 := hit.min k hlt
      have c2 := hit.max k hlt
      have c3 := hit.grow k hlt
      have c4 := hit.shrink k hlt
      have c5 := hit.extra k hlt
      have hx := itemB_parts (HI.out k hlt)
      have hwb := wishS_bd (HI.out k hlt)
      have hsm := HB.out k hkn
      have e1 := Lib.hid (show sumW (fun i => wishS (I i)) (k + 1) = sumW (fun i => wishS (I i)) k + wishS (I k) from rfl)
      have e2 := Lib.hid (show sumW (fun i => (I i).extra) (k + 1) = sumW (fun i => (I i).extra) k + (I k).extra from rfl)
      have s0 := hl.atS hlt
      rw [if_neg (by omega)] at s0
      have sf := hl.freeS k
      have lB : b < wr.heap.size := World.block_lt_of_cell? _ _ c0
      obtain ⟨b', off', hb, hit0⟩ := HIT.out (by omega)
      injection hb with hb
      injection hb with hb hb2
      subst hb hb2
      have lB0 : b < A.heap.size := World.block_lt_of_cell? _ _ ((hit0.kept HKA.out).base k hlt)
      have gS := hl.gS
      have nb : b ≠ bs := by omega
      obtain ⟨lS, lF⟩ := hl.lt
      clear hit hit0
      have HST := Lib.hid (fun v (hv : wishS (I k) = v) i => wish_step hv i)
      obtain ⟨u, hu⟩ : ∃ u, wishS (I k) = u := ⟨_, rfl⟩
      rw [hu] at hwb e1
      replace hu := Lib.hid hu
      generalize hy : I k = y at *
      replace hy := Lib.hid hy
      generalize sumW (fun i => wishS (I i)) k = p at *
      generalize sumW (fun i => (I i).extra) k = q at *
      replace hl := Lib.hid hl
      go_wp2_with (first
        | (go_at_call 25; (with_reducible refine (refWish_any y _).mono ?_); rintro e w3 ⟨rfl, hn⟩; rw [hu.out]; have lS3 := Nat.lt_of_lt_of_le lS hn.size; have sf3 := (hn.below.frozen lS).trans sf; have s3 := cell_kept hn s0; have c53 := cell_kept hn c5; have c54 := cell_other (v := .int .i64 u) (p := ⟨bs, k, none⟩) c53 nb))
      exact ⟨⟨k + 1, by omega, by first | rfl | go_num, by rw [e1.out], by rw [e2.out], ((hl.out.kept hn).setS hlt u).congr (fun i hi => HST.out u (by rw [hu.out]) i) (fun i hi => rfl)⟩, by first | (simp [intOf]; done) | (simp [intOf]; omega)⟩
    · obtain rfl : k = n := by omega
      have hla : RowsW A wr bs bf k (fun i => wishS (I i)) (fun _ => false) := hl.congr (fun i hi => by rw [if_pos hi]) (fun i hi => rfl)
      have HLA := Lib.hid hla
      clear hl hla HL0
      have hsm := HB.out k hkn
      have HGR := Lib.hid (show growS I room k = decide (sumW (fun i => wishS (I i)) k + sumW (fun i => (I i).extra) k < room) by unfold growS; rw [sumW_add])
      have HEX := Lib.hid (Eq.refl (sumW (fun i => (I i).extra) k))
      obtain ⟨q, hq⟩ : ∃ q, sumW (fun i => (I i).extra) k = q := ⟨_, rfl⟩
      have HQ := Lib.hid hq
      rw [hq] at hsm HGR ⊢
      clear hq HEX
      generalize sumW (fun i => wishS (I i)) k = p at *
      by_cases hgr : p + q < room
      · have HG := Lib.hid (HGR.out.trans (decide_eq_true hgr))
        clear HGR
        have HR := Lib.hid (show runS true I room k k (fun i => wishS (I i)) (firstF true I) = resS I room k by unfold resS; rw [HG.out])
        go_wp2
        go_loopw [12, 13] (fun c i wx => ∃ j : Nat, j ≤ k ∧ i = .int .i64 j ∧ c = .int .i64 (openS (firstF true I) j) ∧ RowsW A wx bs bf k (fun i => wishS (I i)) (fun i => if i < j then firstF true I i else false)) (fun _ i _ => k - (intOf i).toNat)
        case atStart => exact ⟨0, Nat.zero_le _, rfl, rfl, HLA.out.congr (fun i hi => rfl) (fun i hi => by simp)⟩
        case round =>
          obtain ⟨j, hjk, rfl, rfl, hl⟩ := hrel
          have o1 := openS_le (firstF true I) j
          by_cases hlt2 : j < k
          · have hi1 : (j : Int) < (k : Int) := by omega
            have hi0 : (0 : Int) ≤ (j : Int) := Int.natCast_nonneg _
            obtain ⟨b, off, rfl, hit⟩ := HIT.out (by omega)
            have hit := hit.kept (HKA.out.trans hl.k)
            have c0 := hit.base j hlt2
            have cx := hit.grow j hlt2
            have hx := itemB_parts (HI.out j hlt2)
            have hwb := wishS_bd (HI.out j hlt2)
            have s0 := hl.atS hlt2
            have f0 := hl.atF hlt2
            rw [if_neg (by omega)] at f0
            have sf := hl.freeF j
            have e1 := Lib.hid (show openS (firstF true I) (j + 1) = openS (firstF true I) j + if firstF true I j = true then 0 else 1 from rfl)
            have lB : b < wr.heap.size := World.block_lt_of_cell? _ _ c0
            obtain ⟨lS, lF⟩ := hl.lt
            have HFF := Lib.hid (show firstF true I j = ((I j).grow == 0 || decide (wishS (I j) < (I j).base)) from rfl)
            clear hit
            generalize hy : I j = y at *
            replace hy := Lib.hid hy
            replace hl := Lib.hid hl
            generalize openS (firstF true I) j = x1 at *
            go_upto_region 18 with fail
            by_cases h0 : y.grow = 0
            · have h1 : (y.grow == 0) = true := by simp [h0]
              go_region
              have HV := Lib.hid (show firstF true I j = true by rw [HFF.out]; simp [h0, h1])
              have hl9 := Lib.hid (((hl.out.setF hlt2 true).kept (Kept.refl _).drew))
              have f1 := hl9.out.atF hlt2
              rw [if_pos rfl] at f1
              obtain ⟨Z, eZ⟩ : ∃ z, (wr.setCell ⟨bf, j, none⟩ (.bool true)).drew = z := ⟨_, rfl⟩
              rw [eZ] at hl9 f1 ⊢
              clear eZ c0 cx s0 f0 sf
              go_wp2
              exact ⟨⟨j + 1, by omega, by first | rfl | go_num, by rw [e1.out, HV.out]; simp, hl9.out.congr (fun i hi => rfl) (fun i hi => first_step HV.out i)⟩, by first | (simp [intOf]; done) | (simp [intOf]; omega)⟩
            · have h1' : (y.grow == 0) = false := by simp [h0]
              by_cases h1 : (wishS y < y.base)
              · go_region
                have HV := Lib.hid (show firstF true I j = true by rw [HFF.out]; simp [h0, h1])
                have hl9 := Lib.hid (((hl.out.setF hlt2 true).kept (Kept.refl _).drew))
                have f1 := hl9.out.atF hlt2
                rw [if_pos rfl] at f1
                obtain ⟨Z, eZ⟩ : ∃ z, (wr.setCell ⟨bf, j, none⟩ (.bool true)).drew = z := ⟨_, rfl⟩
                rw [eZ] at hl9 f1 ⊢
                clear eZ c0 cx s0 f0 sf
                go_wp2
                exact ⟨⟨j + 1, by omega, by first | rfl | go_num, by rw [e1.out, HV.out]; simp, hl9.out.congr (fun i hi => rfl) (fun i hi => first_step HV.out i)⟩, by first | (simp [intOf]; done) | (simp [intOf]; omega)⟩
              · go_region
                have HV := Lib.hid (show firstF true I j = false by rw [HFF.out]; simp [h0, h1])
                have hl9 := Lib.hid (((hl.out.setF hlt2 false).kept (Kept.refl _).drew))
                have f1 := hl9.out.atF hlt2
                rw [if_pos rfl] at f1
                obtain ⟨Z, eZ⟩ : ∃ z, (wr.setCell ⟨bf, j, none⟩ (.bool false)).drew = z := ⟨_, rfl⟩
                rw [eZ] at hl9 f1 ⊢
                clear eZ c0 cx s0 f0 sf
                go_wp2
                exact ⟨⟨j + 1, by omega, by first | rfl | go_num, by rw [e1.out, HV.out]; simp, hl9.out.congr (fun i hi => rfl) (fun i hi => first_step HV.out i)⟩, by first | (simp [intOf]; done) | (simp [intOf]; omega)⟩
          · obtain rfl : j = k := by omega
            have hl2 : RowsW A wr bs bf j (fun i => wishS (I i)) (firstF true I) := hl.congr (fun i hi => rfl) (fun i hi => by rw [if_pos hi])
            have HL2 := Lib.hid hl2
            clear hl hl2 HLA
            go_wp2_with fail
            go_loopw [12] (fun c wx => ∃ (m : Nat) (S : Nat → Int) (F : Nat → Bool), c = .int .i64 (openS F j) ∧ openS F j ≤ m ∧ runS true I room j m S F = resS I room j ∧ OkS true S j ∧ RowsW A wx bs bf j S F) (fun c _ => (intOf c).toNat)
            case atStart => exact ⟨j, _, _, rfl, openS_le _ _, HR.out, wish_ok HI.out, HL2.out⟩
            case round =>
              obtain ⟨m, S, F, rfl, hm, hrun, hok, hl⟩ := hrel
              have o2 := openS_le F j
              have HRUN := Lib.hid hrun
              have HOK := Lib.hid hok
              have HLL := Lib.hid hl
              clear hl hrun hok
              by_cases ho : 0 < openS F j
              · obtain ⟨m, rfl⟩ : ∃ q, m = q + 1 := ⟨m - 1, by omega⟩
                have ho1 : (0 : Int) < (openS F j : Int) := by omega
                have hj0 : 0 < j := by omega
                obtain ⟨b, off, rfl, hit⟩ := HIT.out hj0
                have HRD := Lib.hid (refRound_any A wr b off bs bf j cap (room - q) room true I S F HLL.out (hit.kept HKA.out) HI.out HOK.out hn32 hr (by rw [HQ.out]))
                clear hit
                have hlt := next_less (g := true) (I := I) (F := F) (H := partS true I S F room j) ho
                go_wp2_with (first
                  | (go_at_call 26; (refine HRD.out.mono ?_); rintro e w3 ⟨c, rfl, hc, hl3⟩; have hcb : 0 ≤ c ∧ c ≤ 32 := (by omega)))
                refine ⟨⟨m, _, _, ?_, by omega, ?_, next_ok HI.out HOK.out (part_bd HI.out HOK.out hn32 hr), hl3⟩, ?_⟩
                · congr 1; omega
                · have := HRUN.out
                  unfold runS at this
                  rw [if_neg (by omega)] at this
                  exact this
                · simp [intOf]; omega
              · have ho0 : openS F j = 0 := by omega
                have hz : ¬ (0 : Int) < (openS F j : Int) := by omega
                go_wp2
                go_ret2
                refine ⟨_, rfl, ?_, HKA.out.trans HLL.out.k⟩
                rw [← HRUN.out, runS_done ho0]
                exact HLL.out.made.earlier HKA.out
      · have HG := Lib.hid (HGR.out.trans (decide_eq_false hgr))
        clear HGR
        have HR := Lib.hid (show runS false I room k k (fun i => wishS (I i)) (firstF false I) = resS I room k by unfold resS; rw [HG.out])
        go_wp2
        go_loopw [12, 13] (fun c i wx => ∃ j : Nat, j ≤ k ∧ i = .int .i64 j ∧ c = .int .i64 (openS (firstF false I) j) ∧ RowsW A wx bs bf k (fun i => wishS (I i)) (fun i => if i < j then firstF false I i else false)) (fun _ i _ => k - (intOf i).toNat)
        case atStart => exact ⟨0, Nat.zero_le _, rfl, rfl, HLA.out.congr (fun i hi => rfl) (fun i hi => by simp)⟩
        case round =>
          obtain ⟨j, hjk, rfl, rfl, hl⟩ := hrel
          have o1 := openS_le (firstF false I) j
          by_cases hlt2 : j < k
          · have hi1 : (j : Int) < (k : Int) := by omega
            have hi0 : (0 : Int) ≤ (j : Int) := Int.natCast_nonneg _
            obtain ⟨b, off, rfl, hit⟩ := HIT.out (by omega)
            have hit := hit.kept (HKA.out.trans hl.k)
            have c0 := hit.base j hlt2
            have cx := hit.shrink j hlt2
            have hx := itemB_parts (HI.out j hlt2)
            have hwb := wishS_bd (HI.out j hlt2)
            have s0 := hl.atS hlt2
            have f0 := hl.atF hlt2
            rw [if_neg (by omega)] at f0
            have sf := hl.freeF j
            have e1 := Lib.hid (show openS (firstF false I) (j + 1) = openS (firstF false I) j + if firstF false I j = true then 0 else 1 from rfl)
            have lB : b < wr.heap.size := World.block_lt_of_cell? _ _ c0
            obtain ⟨lS, lF⟩ := hl.lt
            have HFF := Lib.hid (show firstF false I j = ((I j).shrink == 0 || decide ((I j).base < wishS (I j))) from rfl)
            clear hit
            generalize hy : I j = y at *
            replace hy := Lib.hid hy
            replace hl := Lib.hid hl
            generalize openS (firstF false I) j = x1 at *
            go_upto_region 19 with fail
            by_cases h0 : y.shrink = 0
            · have h1 : (y.shrink == 0) = true := by simp [h0]
              go_region
              have HV := Lib.hid (show firstF false I j = true by rw [HFF.out]; simp [h0, h1])
              have hl9 := Lib.hid (((hl.out.setF hlt2 true).kept (Kept.refl _).drew))
              have f1 := hl9.out.atF hlt2
              rw [if_pos rfl] at f1
              obtain ⟨Z, eZ⟩ : ∃ z, (wr.setCell ⟨bf, j, none⟩ (.bool true)).drew = z := ⟨_, rfl⟩
              rw [eZ] at hl9 f1 ⊢
              clear eZ c0 cx s0 f0 sf
              go_wp2
              exact ⟨⟨j + 1, by omega, by first | rfl | go_num, by rw [e1.out, HV.out]; simp, hl9.out.congr (fun i hi => rfl) (fun i hi => first_step HV.out i)⟩, by first | (simp [intOf]; done) | (simp [intOf]; omega)⟩
            · have h1' : (y.shrink == 0) = false := by simp [h0]
              by_cases h1 : (y.base < wishS y)
              · go_region
                have HV := Lib.hid (show firstF false I j = true by rw [HFF.out]; simp [h0, h1])
                have hl9 := Lib.hid (((hl.out.setF hlt2 true).kept (Kept.refl _).drew))
                have f1 := hl9.out.atF hlt2
                rw [if_pos rfl] at f1
                obtain ⟨Z, eZ⟩ : ∃ z, (wr.setCell ⟨bf, j, none⟩ (.bool true)).drew = z := ⟨_, rfl⟩
                rw [eZ] at hl9 f1 ⊢
                clear eZ c0 cx s0 f0 sf
                go_wp2
                exact ⟨⟨j + 1, by omega, by first | rfl | go_num, by rw [e1.out, HV.out]; simp, hl9.out.congr (fun i hi => rfl) (fun i hi => first_step HV.out i)⟩, by first | (simp [intOf]; done) | (simp [intOf]; omega)⟩
              · go_region
                have HV := Lib.hid (show firstF false I j = false by rw [HFF.out]; simp [h0, h1])
                have hl9 := Lib.hid (((hl.out.setF hlt2 false).kept (Kept.refl _).drew))
                have f1 := hl9.out.atF hlt2
                rw [if_pos rfl] at f1
                obtain ⟨Z, eZ⟩ : ∃ z, (wr.setCell ⟨bf, j, none⟩ (.bool false)).drew = z := ⟨_, rfl⟩
                rw [eZ] at hl9 f1 ⊢
                clear eZ c0 cx s0 f0 sf
                go_wp2
                exact ⟨⟨j + 1, by omega, by first | rfl | go_num, by rw [e1.out, HV.out]; simp, hl9.out.congr (fun i hi => rfl) (fun i hi => first_step HV.out i)⟩, by first | (simp [intOf]; done) | (simp [intOf]; omega)⟩
          · obtain rfl : j = k := by omega
            have hl2 : RowsW A wr bs bf j (fun i => wishS (I i)) (firstF false I) := hl.congr (fun i hi => rfl) (fun i hi => by rw [if_pos hi])
            have HL2 := Lib.hid hl2
            clear hl hl2 HLA
            go_wp2_with fail
            go_loopw [12] (fun c wx => ∃ (m : Nat) (S : Nat → Int) (F : Nat → Bool), c = .int .i64 (openS F j) ∧ openS F j ≤ m ∧ runS false I room j m S F = resS I room j ∧ OkS false S j ∧ RowsW A wx bs bf j S F) (fun c _ => (intOf c).toNat)
            case atStart => exact ⟨j, _, _, rfl, openS_le _ _, HR.out, wish_ok HI.out, HL2.out⟩
            case round =>
              obtain ⟨m, S, F, rfl, hm, hrun, hok, hl⟩ := hrel
              have o2 := openS_le F j
              have HRUN := Lib.hid hrun
              have HOK := Lib.hid hok
              have HLL := Lib.hid hl
              clear hl hrun hok
              by_cases ho : 0 < openS F j
              · obtain ⟨m, rfl⟩ : ∃ q, m = q + 1 := ⟨m - 1, by omega⟩
                have ho1 : (0 : Int) < (openS F j : Int) := by omega
                have hj0 : 0 < j := by omega
                obtain ⟨b, off, rfl, hit⟩ := HIT.out hj0
                have HRD := Lib.hid (refRound_any A wr b off bs bf j cap (room - q) room false I S F HLL.out (hit.kept HKA.out) HI.out HOK.out hn32 hr (by rw [HQ.out]))
                clear hit
                have hlt := next_less (g := false) (I := I) (F := F) (H := partS false I S F room j) ho
                go_wp2_with (first
                  | (go_at_call 26; (refine HRD.out.mono ?_); rintro e w3 ⟨c, rfl, hc, hl3⟩; have hcb : 0 ≤ c ∧ c ≤ 32 := (by omega)))
                refine ⟨⟨m, _, _, ?_, by omega, ?_, next_ok HI.out HOK.out (part_bd HI.out HOK.out hn32 hr), hl3⟩, ?_⟩
                · congr 1; omega
                · have := HRUN.out
                  unfold runS at this
                  rw [if_neg (by omega)] at this
                  exact this
                · simp [intOf]; omega
              · have ho0 : openS F j = 0 := by omega
                have hz : ¬ (0 : Int) < (openS F j : Int) := by omega
                go_wp2
                go_ret2
                refine ⟨_, rfl, ?_, HKA.out.trans HLL.out.k⟩
                rw [← HRUN.out, runS_done ho0]
                exact HLL.out.made.earlier HKA.out
set_option maxHeartbeats 1000000 in
theorem refResolve_any (v : Value) (n : Nat) (I : Nat → Item) (room : Int) (w : World) (h : ItV w v n I) (hn : n ≤ 4611686018427387904) :
    Calls Try.prog 12 #[v, .int .i64 room] w (FlexPost w n I room) := by
  cases h1 : mayI n I with
  | false =>
    have Hs := Lib.hid (show goodF n I room = false by unfold goodF; rw [h1]; rfl)
    have hk : Kept w w := Kept.refl w
    go_enter Try.func12, Try.ntmps12
    go_wp2_with fail
    refine (refItemsMay_any _ n I _ (h.kept hk) hn).mono ?_
    rintro e w1 ⟨rfl, hn⟩
    replace hk := hk.trans hn
    clear hn
    go_wp2
    go_ret2
    exact ⟨_, _, rfl, hk, .inr ⟨Hs.out, rfl, rfl⟩⟩
  | true =>
    cases h2 : inB 0 4194304 room with
    | false =>
      have Hs := Lib.hid (show goodF n I room = false by unfold goodF; rw [h1, h2]; rfl)
      have hk : Kept w w := Kept.refl w
      go_enter Try.func12, Try.ntmps12
      go_wp2_with fail
      refine (refItemsMay_any _ n I _ (h.kept hk) hn).mono ?_
      rintro e w1 ⟨rfl, hn⟩
      replace hk := hk.trans hn
      clear hn
      go_wp2_with fail
      refine (room11_any _ _).mono ?_
      rintro e w1 ⟨rfl, rfl⟩
      go_wp2
      go_ret2
      exact ⟨_, _, rfl, hk, .inr ⟨Hs.out, rfl, rfl⟩⟩
    | true =>
      have Hs : goodF n I room = true := by unfold goodF; rw [h1, h2]; rfl
      obtain ⟨a, b⟩ := mayI_true.1 h1
      rcases h with ⟨o, cap, rfl, rfl⟩ | ⟨bk, off, cap, rfl, hi⟩
      · exact (refResolve_ok o 0 cap room I w (fun h => by omega) (.inl ⟨o, cap, rfl, rfl⟩) (fun i hi => by omega) a (inB_true.1 h2) h1 h2).mono fun e w' ⟨u, he, hm, hk⟩ => ⟨u, 0, he, hk, .inl ⟨Hs, rfl, hm⟩⟩
      · exact (refResolve_ok _ n cap room I w (fun _ => ⟨bk, off, rfl, hi⟩) (.inr ⟨bk, off, cap, rfl, hi⟩) (fun i hi => allI_yes b i hi) a (inB_true.1 h2) h1 h2).mono fun e w' ⟨u, he, hm, hk⟩ => ⟨u, 0, he, hk, .inl ⟨Hs, rfl, hm⟩⟩
end Go.Proofs.Yticnfoppdgeioaa
