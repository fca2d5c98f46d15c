/- Layer 20: a line of items at their wishes, by the program. -/
import Derived.Test.YticnfoppdgeioaaLineW
import Derived.Test.YticnfoppdgeioaaHeld
import Derived.Deep.Cut
import Derived.Deep.QuietTactic
import Derived.BigQuiet
import Derived.BigRegion
import Derived.RegionTactic
import Derived.ChangeAlike
import Derived.StillTailTactics
namespace Go.Proofs.Yticnfoppdgeioaa
open Go.RowKit Go.Maps
set_option linter.unusedSimpArgs false
set_option linter.unusedVariables false
theorem heldIt {a W X : World} {x y0 y1 y2 y3 y4 y5 : Addr} {u v0 v1 v2 v3 v4 v5 : Value} (h : Kept a W ∧ W.cell? x = some u ∧ W.cell? y0 = some v0 ∧ W.cell? y1 = some v1 ∧ W.cell? y2 = some v2 ∧ W.cell? y3 = some v3 ∧ W.cell? y4 = some v4 ∧ W.cell? y5 = some v5) (k : Kept W X) :
    Kept a X ∧ X.cell? x = some u ∧ X.cell? y0 = some v0 ∧ X.cell? y1 = some v1 ∧ X.cell? y2 = some v2 ∧ X.cell? y3 = some v3 ∧ X.cell? y4 = some v4 ∧ X.cell? y5 = some v5 :=
  ⟨h.1.trans k, cell_kept k h.2.1, cell_kept k h.2.2.1, cell_kept k h.2.2.2.1, cell_kept k h.2.2.2.2.1, cell_kept k h.2.2.2.2.2.1, cell_kept k h.2.2.2.2.2.2.1, cell_kept k h.2.2.2.2.2.2.2⟩
theorem heldItSet {a W : World} {b j : Nat} {w' : Value} {x y0 y1 y2 y3 y4 y5 : Addr} {u v0 v1 v2 v3 v4 v5 : Value} (h : Kept a W ∧ W.cell? x = some u ∧ W.cell? y0 = some v0 ∧ W.cell? y1 = some v1 ∧ W.cell? y2 = some v2 ∧ W.cell? y3 = some v3 ∧ W.cell? y4 = some v4 ∧ W.cell? y5 = some v5) (hb : a.heap.size ≤ b) (n0 : x.block ≠ b) (m0 : y0.block ≠ b) (m1 : y1.block ≠ b) (m2 : y2.block ≠ b) (m3 : y3.block ≠ b) (m4 : y4.block ≠ b) (m5 : y5.block ≠ b) :
    Kept a (W.setCell ⟨b, j, none⟩ w') ∧ (W.setCell ⟨b, j, none⟩ w').cell? x = some u ∧ (W.setCell ⟨b, j, none⟩ w').cell? y0 = some v0 ∧ (W.setCell ⟨b, j, none⟩ w').cell? y1 = some v1 ∧ (W.setCell ⟨b, j, none⟩ w').cell? y2 = some v2 ∧ (W.setCell ⟨b, j, none⟩ w').cell? y3 = some v3 ∧ (W.setCell ⟨b, j, none⟩ w').cell? y4 = some v4 ∧ (W.setCell ⟨b, j, none⟩ w').cell? y5 = some v5 :=
  ⟨h.1.set hb _, cell_other h.2.1 n0, cell_other h.2.2.1 m0, cell_other h.2.2.2.1 m1, cell_other h.2.2.2.2.1 m2, cell_other h.2.2.2.2.2.1 m3, cell_other h.2.2.2.2.2.2.1 m4, cell_other h.2.2.2.2.2.2.2 m5⟩
theorem wish_step {I : Nat → Item} {k : Nat} {v : Int} (h : wishS (I k) = v) (i : Nat) : (if i = k then v else if i < k then wishS (I i) else 0) = if i < k + 1 then wishS (I i) else 0 := by
  rcases Nat.lt_trichotomy i k with h1 | h1 | h1
  · rw [if_neg (by omega), if_pos h1, if_pos (by omega)]
  · subst h1; rw [if_pos rfl, if_pos (by omega), h]
  · rw [if_neg (by omega), if_neg (by omega), if_neg (by omega)]
theorem first_step {F : Nat → Bool} {k : Nat} {v : Bool} (h : F k = v) (i : Nat) : (if i = k then v else if i < k then F i else false) = if i < k + 1 then F i else false := by
  rcases Nat.lt_trichotomy i k with h1 | h1 | h1
  · rw [if_neg (by omega), if_pos h1, if_pos (by omega)]
  · subst h1; rw [if_pos rfl, if_pos (by omega), h]
  · rw [if_neg (by omega), if_neg (by omega), if_neg (by omega)]
theorem outer_bd {I : Nat → Item} {n : Nat} (hI : ∀ i, i < n → itemB (I i) = true) (hn : n ≤ 32) (k : Nat) (hk : k ≤ n) : -268435456 ≤ sumW (fun i => wishS (I i) + (I i).extra) k ∧ sumW (fun i => wishS (I i) + (I i).extra) k ≤ 268435456 := by
  have := sumW_bd (n := k) (W := fun i => wishS (I i) + (I i).extra) (a := -8388608) (b := 8388608) fun i hi => by
    have h1 := wishS_bd (hI i (by omega))
    have h2 := itemB_parts (hI i (by omega))
    omega
  omega
set_option maxRecDepth 20000 in
set_option maxHeartbeats 8000000 in
theorem lineBegin_any (sl : Option Addr) (n cap : Nat) (room : Int) (I : Nat → Item) (w : World) (hit : 0 < n → ∃ b off, sl = some ⟨b, off, none⟩ ∧ ItemsAt w b off n I) (hI : ∀ i, i < n → itemB (I i) = true) (hn32 : n ≤ 32) (hr : 0 ≤ room ∧ room ≤ 4194304) :
    Calls Try.prog 30 #[.slice sl n cap, .int .i64 room] w fun e w' => ∃ L bs bf, e = .returned (.pointer (some ⟨L, 0, none⟩)) ∧ LineW w w' L bs bf sl n cap room (growS I room n) I (fun i => wishS (I i)) (firstF (growS I room n) I) := by
  have HI := Lib.hid hI
  have HIT := Lib.hid hit
  have HO := Lib.hid (outer_bd hI hn32)
  have hmk := run_make_row' (P := Try.prog) 24 3 (.int .i64 0) 8 Try.underlying24 intInfo1 rfl .i64 .i64 n (by omega) (by omega)
  have hmb := run_make_row' (P := Try.prog) 49 4 (.bool false) 1 Try.underlying49 (by kernel_rfl) rfl .i64 .i64 n (by omega) (by omega)
  clear hI hit
  go_enter Try.func30, Try.ntmps30
  go_upto_region 1 with fail
  go_region
  · clear hmk hmb
    obtain ⟨W1, eW⟩ : ∃ z, (((w.alloc (.cells (madeCells #[.int .i64 0] n) 3)).alloc (.cells (madeCells #[.bool false] n) 4)).alloc (.cells #[.slice sl n cap, .int .i64 room, .bool false, .slice (some ⟨w.heap.size, 0, none⟩) n n, .slice (some ⟨(w.heap.size + 1), 0, none⟩) n n] 58)).drew = z := ⟨_, rfl⟩
    have hl : LineW w W1 (w.heap.size + 1 + 1) w.heap.size (w.heap.size + 1) sl n cap room false I (fun _ => 0) (fun _ => false) := by
      rw [← eW]
      refine (show LineW w (((w.alloc (.cells (madeCells #[.int .i64 0] n) 3)).alloc (.cells (madeCells #[.bool false] n) 4)).alloc (.cells #[.slice sl n cap, .int .i64 room, .bool false, .slice (some ⟨w.heap.size, 0, none⟩) n n, .slice (some ⟨(w.heap.size + 1), 0, none⟩) n n] 58)) (w.heap.size + 1 + 1) w.heap.size (w.heap.size + 1) sl n cap room false I (fun _ => 0) (fun _ => false) from ?_).kept (Kept.refl _).drew
      exact ⟨(((Kept.refl w).alloc _).alloc _).alloc _, HIT.out, Own.at_ _ _ _ (by simp), ⟨_, ((Own.new w (madeCells #[.int .i64 0] n) 3).alloc _).alloc _, size_madeCells _ _, made_cell _ n⟩, ⟨_, ((Own.at_ (w.alloc (.cells (madeCells #[.int .i64 0] n) 3)) (madeCells #[.bool false] n) 4 (b := w.heap.size + 1) (by simp)).alloc _), size_madeCells _ _, made_cell _ n⟩, by omega, by omega, by omega, by omega, by omega, by omega⟩
    rw [eW]
    clear eW
    generalize w.heap.size + 1 + 1 = L at *
    obtain ⟨bf, h1⟩ : ∃ z, w.heap.size + 1 = z := ⟨_, rfl⟩
    rw [h1] at hl ⊢
    clear h1
    obtain ⟨bs, h0⟩ : ∃ z, w.heap.size = z := ⟨_, rfl⟩
    rw [h0] at hl ⊢
    clear h0
    have c0 := hl.view.c0
    have HL0 := Lib.hid hl
    clear hl
    go_wp2
    clear c0
    go_loopw [6, 23] (fun s i wx => ∃ k : Nat, k ≤ n ∧ i = .int .i64 k ∧ s = .int .i64 (sumW (fun i => wishS (I i) + (I i).extra) k) ∧ LineW w wx L bs bf sl n cap room false I (fun i => if i < k then wishS (I i) else 0) (fun _ => false)) (fun _ i _ => n - (intOf i).toNat)
    case atStart => exact ⟨0, Nat.zero_le _, rfl, rfl, HL0.out.congr (fun i hi => by simp) (fun i hi => rfl)⟩
    case round =>
      obtain ⟨k, hkn, rfl, rfl, hl⟩ := hrel
      by_cases hlt2 : k < n
      · have hi1 : (k : Int) < (n : Int) := by omega
        have hi0 : (0 : Int) ≤ (k : Int) := Int.natCast_nonneg _
        have V := hl.view
        obtain ⟨b, off, rfl, hit⟩ := V.it (by omega)
        have c0 := hit.base k hlt2
        have c1 := hit.min k hlt2
        have c2 := hit.max k hlt2
        have c3 := hit.grow k hlt2
        have c4 := hit.shrink k hlt2
        have c5 := hit.extra k hlt2
        have hx := itemB_parts (HI.out k hlt2)
        have hwb := wishS_bd (HI.out k hlt2)
        have hsm := HO.out k hkn
        have HSM := Lib.hid (show sumW (fun i => wishS (I i) + (I i).extra) (k + 1) = sumW (fun i => wishS (I i) + (I i).extra) k + (wishS (I k) + (I k).extra) from rfl)
        have d3 := V.c3
        have s0 := V.s k hlt2
        rw [if_neg (by omega)] at s0
        have sf := hl.freeS k
        have lB := World.block_lt_of_cell? _ _ c0
        obtain ⟨lL, lS, lF⟩ := hl.lt
        clear V hit
        generalize hy : I k = y at *
        replace hy := Lib.hid hy
        generalize sumW (fun i => wishS (I i) + (I i).extra) k = t at *
        replace hl := Lib.hid hl
        go_upto_region 6 with fail
        obtain ⟨X, eX, kX, bX⟩ := boxes1 wr #[.int .i64 y.base, .int .i64 y.min, .int .i64 y.max, .int .i64 y.grow, .int .i64 y.shrink, .int .i64 y.extra] 38
        rw [← eX]
        clear eX
        have i0 := bX.at 0 _ rfl
        have i1 := bX.at 1 _ rfl
        have i2 := bX.at 2 _ rfl
        have i3 := bX.at 3 _ rfl
        have i4 := bX.at 4 _ rfl
        have i5 := bX.at 5 _ rfl
        replace d3 := cell_kept kX d3
        replace s0 := cell_kept kX s0
        replace sf := (kX.below.frozen lS).trans sf
        have kaX := hl.out.k.trans kX
        have lX := kX.size
        have lXS : bs < X.heap.size := by omega
        replace kX := Lib.hid kX
        clear bX c0 c1 c2 c3 c4 c5
        generalize hz : wr.heap.size = z at *
        replace hz := Lib.hid hz
        have gS := hl.out.gS
        have nLS := hl.out.n1
        have nzS : z ≠ bs := by omega
        have hS := heldIt (x := ⟨L, 3, none⟩) ⟨kaX, d3, i0, i1, i2, i3, i4, i5⟩ (Kept.refl X).drew
        go_region_held3 (fun W => Kept w W ∧ W.cell? ⟨L, 3, none⟩ = some (.slice (some ⟨bs, 0, none⟩) n n) ∧ W.cell? ⟨z, 0, none⟩ = some (.int .i64 y.base) ∧ W.cell? ⟨z, 1, none⟩ = some (.int .i64 y.min) ∧ W.cell? ⟨z, 2, none⟩ = some (.int .i64 y.max) ∧ W.cell? ⟨z, 3, none⟩ = some (.int .i64 y.grow) ∧ W.cell? ⟨z, 4, none⟩ = some (.int .i64 y.shrink) ∧ W.cell? ⟨z, 5, none⟩ = some (.int .i64 y.extra))
          (first | exact hS | assumption | exact heldIt hS hn | exact heldItSet (heldIt hS hn) gS nLS nzS nzS nzS nzS nzS nzS)
          (first
            | (go_at_call 36; (with_reducible refine (rowWish_any y _).mono ?_); rintro e w3 ⟨rfl, hn⟩; have q1 := cell_kept hn (show X.drew.cell? ⟨bs, k, none⟩ = some (.int .i64 0) from s0); have q2 := (hn.below.frozen (show bs < X.drew.heap.size from lXS)).trans (show X.drew.frozen? ⟨bs, k, none⟩ = false from sf)))
        have i5' := cell_other (p := ⟨bs, k, none⟩) (v := .int .i64 (wishS y)) (cell_kept hn i5) nzS
        have hl9 := ((hl.out.kept kX.out).kept ((Kept.refl X).drew.trans hn)).setS hlt2 (wishS y)
        obtain ⟨Z, eZ⟩ : ∃ Z, w3.setCell ⟨bs, k, none⟩ (.int .i64 (wishS y)) = Z := ⟨_, rfl⟩
        rw [eZ] at hl9 i5' ⊢
        have d3' := hl9.view.c3
        have s1 := hl9.view.s k hlt2
        rw [if_pos rfl] at s1
        replace hl9 := Lib.hid hl9
        clear eZ hS q1 q2 hn i0 i1 i2 i3 i4 i5 d3 s0 sf kaX lX lXS kX
        have HWY2 := Lib.hid (show wishS (I k) = wishS y by rw [hy.out])
        generalize wishS y = v at *
        go_wp2
        go_quiet (fail)
        go_wp2
        exact ⟨⟨k + 1, by omega, by first | rfl | go_num, by rw [HSM.out], (hl9.out.kept ((Kept.refl _).drewN _)).congr (fun i hi => wish_step HWY2.out i) (fun i hi => rfl)⟩, by first | (simp [intOf]; done) | (simp [intOf]; omega)⟩
      · obtain rfl : k = n := by omega
        have d2 := hl.view.c2
        have sf2 := hl.oL.free 2
        have hsm := HO.out k hkn
        have hgs : growS I room k = decide (sumW (fun i => wishS (I i) + (I i).extra) k < room) := rfl
        obtain ⟨t, ht⟩ : ∃ t, sumW (fun i => wishS (I i) + (I i).extra) k = t := ⟨_, rfl⟩
        rw [ht] at hgs hsm ⊢
        clear ht HL0
        have hl2 := hl.congr (S2 := fun i => wishS (I i)) (F2 := fun _ => false) (fun i hi => by rw [if_pos hi]) (fun i hi => rfl)
        have HLA := Lib.hid hl2
        clear hl hl2
        have n0 := HLA.out.view.c0
        by_cases hgr : t < room
        · have HG := Lib.hid (hgs.trans (decide_eq_true hgr))
          have HL2 := Lib.hid (HLA.out.setG (g2 := true))
          clear hgs HLA
          go_wp2
          go_loopw [57] (fun i wx => ∃ k2 : Nat, k2 ≤ k ∧ i = .int .i64 k2 ∧ LineW w wx L bs bf sl k cap room true I (fun i => wishS (I i)) (fun i => if i < k2 then firstF true I i else false)) (fun i _ => k - (intOf i).toNat)
          case atStart => exact ⟨0, Nat.zero_le _, rfl, HL2.out.congr (fun i hi => rfl) (fun i hi => by simp)⟩
          case round =>
            obtain ⟨k2, hkn, rfl, hl⟩ := hrel
            by_cases hlt2 : k2 < k
            · have hi1 : (k2 : Int) < (k : Int) := by omega
              have hi0 : (0 : Int) ≤ (k2 : Int) := Int.natCast_nonneg _
              have V := hl.view
              obtain ⟨b, off, rfl, hit⟩ := V.it (by omega)
              have c0 := hit.base k2 hlt2
              have c1 := hit.min k2 hlt2
              have c2 := hit.max k2 hlt2
              have c3 := hit.grow k2 hlt2
              have c4 := hit.shrink k2 hlt2
              have c5 := hit.extra k2 hlt2
              have d2 := V.c2
              have d3 := V.c3
              have d4 := V.c4
              have s0 := V.s k2 hlt2
              have f0 := V.f k2 hlt2
              rw [if_neg (by omega)] at f0
              have sf := hl.freeF k2
              have lB := World.block_lt_of_cell? _ _ c0
              obtain ⟨lL, lS, lF⟩ := hl.lt
              have HFF := Lib.hid (show firstF true I k2 = ((I k2).grow == 0 || decide (wishS (I k2) < (I k2).base)) from rfl)
              clear V hit
              generalize hy : I k2 = y at *
              replace hy := Lib.hid hy
              replace hl := Lib.hid hl
              go_upto_region 14 with fail
              obtain ⟨X, eX, kX, bX⟩ := boxes1 wr #[.int .i64 y.base, .int .i64 y.min, .int .i64 y.max, .int .i64 y.grow, .int .i64 y.shrink, .int .i64 y.extra] 38
              rw [← eX]
              clear eX
              have i0 := bX.at 0 _ rfl
              have i3 := bX.at 3 _ rfl
              have i4 := bX.at 4 _ rfl
              have i5 := bX.at 5 _ rfl
              replace d3 := cell_kept kX d3
              replace d4 := cell_kept kX d4
              replace s0 := cell_kept kX s0
              replace f0 := cell_kept kX f0
              replace sf := (kX.below.frozen lF).trans sf
              have kaX := hl.out.k.trans kX
              replace kX := Lib.hid kX
              clear bX c0 c1 c2 c3 c4 c5 d2
              generalize hz : wr.heap.size = z at *
              replace hz := Lib.hid hz
              have gF := hl.out.gF
              have nLF := hl.out.n2
              have nSF := hl.out.n3
              have nzF : z ≠ bf := by omega
              have hS := heldIt (x := ⟨L, 4, none⟩) ⟨kaX, d4, d3, i0, i3, i4, i5, s0⟩ (Kept.refl X).drew
              by_cases h0 : y.grow = 0
              · have h1 : (y.grow == 0) = true := by simp [h0]
                go_region
                have HV := Lib.hid (show firstF true I k2 = true by rw [HFF.out]; simp [h0, h1])
                have hl9 := ((hl.out.kept kX.out).setF hlt2 true).kept (Kept.refl _).drew
                go_wp2
                exact ⟨⟨k2 + 1, by omega, by first | rfl | go_num, hl9.congr (fun i hi => rfl) (fun i hi => first_step HV.out i)⟩, by first | (simp [intOf]; done) | (simp [intOf]; omega)⟩
              · have h1' : (y.grow == 0) = false := by simp [h0]
                by_cases h1 : (wishS y < y.base)
                · go_region
                  have HV := Lib.hid (show firstF true I k2 = true by rw [HFF.out]; simp [h0, h1])
                  have hl9 := ((hl.out.kept kX.out).setF hlt2 true).kept (Kept.refl _).drew
                  go_wp2
                  exact ⟨⟨k2 + 1, by omega, by first | rfl | go_num, hl9.congr (fun i hi => rfl) (fun i hi => first_step HV.out i)⟩, by first | (simp [intOf]; done) | (simp [intOf]; omega)⟩
                · go_region
                  have HV := Lib.hid (show firstF true I k2 = false by rw [HFF.out]; simp [h0, h1])
                  have hl9 := ((hl.out.kept kX.out).setF hlt2 false).kept (Kept.refl _).drew
                  go_wp2
                  exact ⟨⟨k2 + 1, by omega, by first | rfl | go_num, hl9.congr (fun i hi => rfl) (fun i hi => first_step HV.out i)⟩, by first | (simp [intOf]; done) | (simp [intOf]; omega)⟩
            · obtain rfl : k2 = k := by omega
              have HLL := Lib.hid hl
              clear hl
              go_wp2
              go_ret
              exact ⟨L, bs, bf, rfl, by rw [HG.out]; exact HLL.out.congr (fun i hi => rfl) (fun i hi => by rw [if_pos hi])⟩
        · have HG := Lib.hid (hgs.trans (decide_eq_false hgr))
          have HL2 := Lib.hid (HLA.out.setG (g2 := false))
          clear hgs HLA
          go_wp2
          go_loopw [57] (fun i wx => ∃ k2 : Nat, k2 ≤ k ∧ i = .int .i64 k2 ∧ LineW w wx L bs bf sl k cap room false I (fun i => wishS (I i)) (fun i => if i < k2 then firstF false I i else false)) (fun i _ => k - (intOf i).toNat)
          case atStart => exact ⟨0, Nat.zero_le _, rfl, HL2.out.congr (fun i hi => rfl) (fun i hi => by simp)⟩
          case round =>
            obtain ⟨k2, hkn, rfl, hl⟩ := hrel
            by_cases hlt2 : k2 < k
            · have hi1 : (k2 : Int) < (k : Int) := by omega
              have hi0 : (0 : Int) ≤ (k2 : Int) := Int.natCast_nonneg _
              have V := hl.view
              obtain ⟨b, off, rfl, hit⟩ := V.it (by omega)
              have c0 := hit.base k2 hlt2
              have c1 := hit.min k2 hlt2
              have c2 := hit.max k2 hlt2
              have c3 := hit.grow k2 hlt2
              have c4 := hit.shrink k2 hlt2
              have c5 := hit.extra k2 hlt2
              have d2 := V.c2
              have d3 := V.c3
              have d4 := V.c4
              have s0 := V.s k2 hlt2
              have f0 := V.f k2 hlt2
              rw [if_neg (by omega)] at f0
              have sf := hl.freeF k2
              have lB := World.block_lt_of_cell? _ _ c0
              obtain ⟨lL, lS, lF⟩ := hl.lt
              have HFF := Lib.hid (show firstF false I k2 = ((I k2).shrink == 0 || decide ((I k2).base < wishS (I k2))) from rfl)
              clear V hit
              generalize hy : I k2 = y at *
              replace hy := Lib.hid hy
              replace hl := Lib.hid hl
              go_upto_region 15 with fail
              obtain ⟨X, eX, kX, bX⟩ := boxes1 wr #[.int .i64 y.base, .int .i64 y.min, .int .i64 y.max, .int .i64 y.grow, .int .i64 y.shrink, .int .i64 y.extra] 38
              rw [← eX]
              clear eX
              have i0 := bX.at 0 _ rfl
              have i3 := bX.at 3 _ rfl
              have i4 := bX.at 4 _ rfl
              have i5 := bX.at 5 _ rfl
              replace d3 := cell_kept kX d3
              replace d4 := cell_kept kX d4
              replace s0 := cell_kept kX s0
              replace f0 := cell_kept kX f0
              replace sf := (kX.below.frozen lF).trans sf
              have kaX := hl.out.k.trans kX
              replace kX := Lib.hid kX
              clear bX c0 c1 c2 c3 c4 c5 d2
              generalize hz : wr.heap.size = z at *
              replace hz := Lib.hid hz
              have gF := hl.out.gF
              have nLF := hl.out.n2
              have nSF := hl.out.n3
              have nzF : z ≠ bf := by omega
              have hS := heldIt (x := ⟨L, 4, none⟩) ⟨kaX, d4, d3, i0, i3, i4, i5, s0⟩ (Kept.refl X).drew
              by_cases h0 : y.shrink = 0
              · have h1 : (y.shrink == 0) = true := by simp [h0]
                go_region
                have HV := Lib.hid (show firstF false I k2 = true by rw [HFF.out]; simp [h0, h1])
                have hl9 := ((hl.out.kept kX.out).setF hlt2 true).kept (Kept.refl _).drew
                go_wp2
                exact ⟨⟨k2 + 1, by omega, by first | rfl | go_num, hl9.congr (fun i hi => rfl) (fun i hi => first_step HV.out i)⟩, by first | (simp [intOf]; done) | (simp [intOf]; omega)⟩
              · have h1' : (y.shrink == 0) = false := by simp [h0]
                by_cases h1 : (y.base < wishS y)
                · go_region
                  have HV := Lib.hid (show firstF false I k2 = true by rw [HFF.out]; simp [h0, h1])
                  have hl9 := ((hl.out.kept kX.out).setF hlt2 true).kept (Kept.refl _).drew
                  go_wp2
                  exact ⟨⟨k2 + 1, by omega, by first | rfl | go_num, hl9.congr (fun i hi => rfl) (fun i hi => first_step HV.out i)⟩, by first | (simp [intOf]; done) | (simp [intOf]; omega)⟩
                · go_region
                  have HV := Lib.hid (show firstF false I k2 = false by rw [HFF.out]; simp [h0, h1])
                  have hl9 := ((hl.out.kept kX.out).setF hlt2 false).kept (Kept.refl _).drew
                  go_wp2
                  exact ⟨⟨k2 + 1, by omega, by first | rfl | go_num, hl9.congr (fun i hi => rfl) (fun i hi => first_step HV.out i)⟩, by first | (simp [intOf]; done) | (simp [intOf]; omega)⟩
            · obtain rfl : k2 = k := by omega
              have HLL := Lib.hid hl
              clear hl
              go_wp2
              go_ret
              exact ⟨L, bs, bf, rfl, by rw [HG.out]; exact HLL.out.congr (fun i hi => rfl) (fun i hi => by rw [if_pos hi])⟩
  · clear hmk hmb
    obtain ⟨W1, eW⟩ : ∃ z, (((w.alloc (.cells (madeCells #[.bool false] n) 4)).alloc (.cells (madeCells #[.int .i64 0] n) 3)).alloc (.cells #[.slice sl n cap, .int .i64 room, .bool false, .slice (some ⟨(w.heap.size + 1), 0, none⟩) n n, .slice (some ⟨w.heap.size, 0, none⟩) n n] 58)).drew = z := ⟨_, rfl⟩
    have hl : LineW w W1 (w.heap.size + 1 + 1) (w.heap.size + 1) w.heap.size sl n cap room false I (fun _ => 0) (fun _ => false) := by
      rw [← eW]
      refine (show LineW w (((w.alloc (.cells (madeCells #[.bool false] n) 4)).alloc (.cells (madeCells #[.int .i64 0] n) 3)).alloc (.cells #[.slice sl n cap, .int .i64 room, .bool false, .slice (some ⟨(w.heap.size + 1), 0, none⟩) n n, .slice (some ⟨w.heap.size, 0, none⟩) n n] 58)) (w.heap.size + 1 + 1) (w.heap.size + 1) w.heap.size sl n cap room false I (fun _ => 0) (fun _ => false) from ?_).kept (Kept.refl _).drew
      exact ⟨(((Kept.refl w).alloc _).alloc _).alloc _, HIT.out, Own.at_ _ _ _ (by simp), ⟨_, ((Own.at_ (w.alloc (.cells (madeCells #[.bool false] n) 4)) (madeCells #[.int .i64 0] n) 3 (b := w.heap.size + 1) (by simp)).alloc _), size_madeCells _ _, made_cell _ n⟩, ⟨_, ((Own.new w (madeCells #[.bool false] n) 4).alloc _).alloc _, size_madeCells _ _, made_cell _ n⟩, by omega, by omega, by omega, by omega, by omega, by omega⟩
    rw [eW]
    clear eW
    generalize w.heap.size + 1 + 1 = L at *
    obtain ⟨bs, h1⟩ : ∃ z, w.heap.size + 1 = z := ⟨_, rfl⟩
    rw [h1] at hl ⊢
    clear h1
    obtain ⟨bf, h0⟩ : ∃ z, w.heap.size = z := ⟨_, rfl⟩
    rw [h0] at hl ⊢
    clear h0
    have c0 := hl.view.c0
    have HL0 := Lib.hid hl
    clear hl
    go_wp2
    clear c0
    go_loopw [6, 23] (fun s i wx => ∃ k : Nat, k ≤ n ∧ i = .int .i64 k ∧ s = .int .i64 (sumW (fun i => wishS (I i) + (I i).extra) k) ∧ LineW w wx L bs bf sl n cap room false I (fun i => if i < k then wishS (I i) else 0) (fun _ => false)) (fun _ i _ => n - (intOf i).toNat)
    case atStart => exact ⟨0, Nat.zero_le _, rfl, rfl, HL0.out.congr (fun i hi => by simp) (fun i hi => rfl)⟩
    case round =>
      obtain ⟨k, hkn, rfl, rfl, hl⟩ := hrel
      by_cases hlt2 : k < n
      · have hi1 : (k : Int) < (n : Int) := by omega
        have hi0 : (0 : Int) ≤ (k : Int) := Int.natCast_nonneg _
        have V := hl.view
        obtain ⟨b, off, rfl, hit⟩ := V.it (by omega)
        have c0 := hit.base k hlt2
        have c1 := hit.min k hlt2
        have c2 := hit.max k hlt2
        have c3 := hit.grow k hlt2
        have c4 := hit.shrink k hlt2
        have c5 := hit.extra k hlt2
        have hx := itemB_parts (HI.out k hlt2)
        have hwb := wishS_bd (HI.out k hlt2)
        have hsm := HO.out k hkn
        have HSM := Lib.hid (show sumW (fun i => wishS (I i) + (I i).extra) (k + 1) = sumW (fun i => wishS (I i) + (I i).extra) k + (wishS (I k) + (I k).extra) from rfl)
        have d3 := V.c3
        have s0 := V.s k hlt2
        rw [if_neg (by omega)] at s0
        have sf := hl.freeS k
        have lB := World.block_lt_of_cell? _ _ c0
        obtain ⟨lL, lS, lF⟩ := hl.lt
        clear V hit
        generalize hy : I k = y at *
        replace hy := Lib.hid hy
        generalize sumW (fun i => wishS (I i) + (I i).extra) k = t at *
        replace hl := Lib.hid hl
        go_upto_region 6 with fail
        obtain ⟨X, eX, kX, bX⟩ := boxes1 wr #[.int .i64 y.base, .int .i64 y.min, .int .i64 y.max, .int .i64 y.grow, .int .i64 y.shrink, .int .i64 y.extra] 38
        rw [← eX]
        clear eX
        have i0 := bX.at 0 _ rfl
        have i1 := bX.at 1 _ rfl
        have i2 := bX.at 2 _ rfl
        have i3 := bX.at 3 _ rfl
        have i4 := bX.at 4 _ rfl
        have i5 := bX.at 5 _ rfl
        replace d3 := cell_kept kX d3
        replace s0 := cell_kept kX s0
        replace sf := (kX.below.frozen lS).trans sf
        have kaX := hl.out.k.trans kX
        have lX := kX.size
        have lXS : bs < X.heap.size := by omega
        replace kX := Lib.hid kX
        clear bX c0 c1 c2 c3 c4 c5
        generalize hz : wr.heap.size = z at *
        replace hz := Lib.hid hz
        have gS := hl.out.gS
        have nLS := hl.out.n1
        have nzS : z ≠ bs := by omega
        have hS := heldIt (x := ⟨L, 3, none⟩) ⟨kaX, d3, i0, i1, i2, i3, i4, i5⟩ (Kept.refl X).drew
        go_region_held3 (fun W => Kept w W ∧ W.cell? ⟨L, 3, none⟩ = some (.slice (some ⟨bs, 0, none⟩) n n) ∧ W.cell? ⟨z, 0, none⟩ = some (.int .i64 y.base) ∧ W.cell? ⟨z, 1, none⟩ = some (.int .i64 y.min) ∧ W.cell? ⟨z, 2, none⟩ = some (.int .i64 y.max) ∧ W.cell? ⟨z, 3, none⟩ = some (.int .i64 y.grow) ∧ W.cell? ⟨z, 4, none⟩ = some (.int .i64 y.shrink) ∧ W.cell? ⟨z, 5, none⟩ = some (.int .i64 y.extra))
          (first | exact hS | assumption | exact heldIt hS hn | exact heldItSet (heldIt hS hn) gS nLS nzS nzS nzS nzS nzS nzS)
          (first
            | (go_at_call 36; (with_reducible refine (rowWish_any y _).mono ?_); rintro e w3 ⟨rfl, hn⟩; have q1 := cell_kept hn (show X.drew.cell? ⟨bs, k, none⟩ = some (.int .i64 0) from s0); have q2 := (hn.below.frozen (show bs < X.drew.heap.size from lXS)).trans (show X.drew.frozen? ⟨bs, k, none⟩ = false from sf)))
        have i5' := cell_other (p := ⟨bs, k, none⟩) (v := .int .i64 (wishS y)) (cell_kept hn i5) nzS
        have hl9 := ((hl.out.kept kX.out).kept ((Kept.refl X).drew.trans hn)).setS hlt2 (wishS y)
        obtain ⟨Z, eZ⟩ : ∃ Z, w3.setCell ⟨bs, k, none⟩ (.int .i64 (wishS y)) = Z := ⟨_, rfl⟩
        rw [eZ] at hl9 i5' ⊢
        have d3' := hl9.view.c3
        have s1 := hl9.view.s k hlt2
        rw [if_pos rfl] at s1
        replace hl9 := Lib.hid hl9
        clear eZ hS q1 q2 hn i0 i1 i2 i3 i4 i5 d3 s0 sf kaX lX lXS kX
        have HWY2 := Lib.hid (show wishS (I k) = wishS y by rw [hy.out])
        generalize wishS y = v at *
        go_wp2
        go_quiet (fail)
        go_wp2
        exact ⟨⟨k + 1, by omega, by first | rfl | go_num, by rw [HSM.out], (hl9.out.kept ((Kept.refl _).drewN _)).congr (fun i hi => wish_step HWY2.out i) (fun i hi => rfl)⟩, by first | (simp [intOf]; done) | (simp [intOf]; omega)⟩
      · obtain rfl : k = n := by omega
        have d2 := hl.view.c2
        have sf2 := hl.oL.free 2
        have hsm := HO.out k hkn
        have hgs : growS I room k = decide (sumW (fun i => wishS (I i) + (I i).extra) k < room) := rfl
        obtain ⟨t, ht⟩ : ∃ t, sumW (fun i => wishS (I i) + (I i).extra) k = t := ⟨_, rfl⟩
        rw [ht] at hgs hsm ⊢
        clear ht HL0
        have hl2 := hl.congr (S2 := fun i => wishS (I i)) (F2 := fun _ => false) (fun i hi => by rw [if_pos hi]) (fun i hi => rfl)
        have HLA := Lib.hid hl2
        clear hl hl2
        have n0 := HLA.out.view.c0
        by_cases hgr : t < room
        · have HG := Lib.hid (hgs.trans (decide_eq_true hgr))
          have HL2 := Lib.hid (HLA.out.setG (g2 := true))
          clear hgs HLA
          go_wp2
          go_loopw [57] (fun i wx => ∃ k2 : Nat, k2 ≤ k ∧ i = .int .i64 k2 ∧ LineW w wx L bs bf sl k cap room true I (fun i => wishS (I i)) (fun i => if i < k2 then firstF true I i else false)) (fun i _ => k - (intOf i).toNat)
          case atStart => exact ⟨0, Nat.zero_le _, rfl, HL2.out.congr (fun i hi => rfl) (fun i hi => by simp)⟩
          case round =>
            obtain ⟨k2, hkn, rfl, hl⟩ := hrel
            by_cases hlt2 : k2 < k
            · have hi1 : (k2 : Int) < (k : Int) := by omega
              have hi0 : (0 : Int) ≤ (k2 : Int) := Int.natCast_nonneg _
              have V := hl.view
              obtain ⟨b, off, rfl, hit⟩ := V.it (by omega)
              have c0 := hit.base k2 hlt2
              have c1 := hit.min k2 hlt2
              have c2 := hit.max k2 hlt2
              have c3 := hit.grow k2 hlt2
              have c4 := hit.shrink k2 hlt2
              have c5 := hit.extra k2 hlt2
              have d2 := V.c2
              have d3 := V.c3
              have d4 := V.c4
              have s0 := V.s k2 hlt2
              have f0 := V.f k2 hlt2
              rw [if_neg (by omega)] at f0
              have sf := hl.freeF k2
              have lB := World.block_lt_of_cell? _ _ c0
              obtain ⟨lL, lS, lF⟩ := hl.lt
              have HFF := Lib.hid (show firstF true I k2 = ((I k2).grow == 0 || decide (wishS (I k2) < (I k2).base)) from rfl)
              clear V hit
              generalize hy : I k2 = y at *
              replace hy := Lib.hid hy
              replace hl := Lib.hid hl
              go_upto_region 14 with fail
              obtain ⟨X, eX, kX, bX⟩ := boxes1 wr #[.int .i64 y.base, .int .i64 y.min, .int .i64 y.max, .int .i64 y.grow, .int .i64 y.shrink, .int .i64 y.extra] 38
              rw [← eX]
              clear eX
              have i0 := bX.at 0 _ rfl
              have i3 := bX.at 3 _ rfl
              have i4 := bX.at 4 _ rfl
              have i5 := bX.at 5 _ rfl
              replace d3 := cell_kept kX d3
              replace d4 := cell_kept kX d4
              replace s0 := cell_kept kX s0
              replace f0 := cell_kept kX f0
              replace sf := (kX.below.frozen lF).trans sf
              have kaX := hl.out.k.trans kX
              replace kX := Lib.hid kX
              clear bX c0 c1 c2 c3 c4 c5 d2
              generalize hz : wr.heap.size = z at *
              replace hz := Lib.hid hz
              have gF := hl.out.gF
              have nLF := hl.out.n2
              have nSF := hl.out.n3
              have nzF : z ≠ bf := by omega
              have hS := heldIt (x := ⟨L, 4, none⟩) ⟨kaX, d4, d3, i0, i3, i4, i5, s0⟩ (Kept.refl X).drew
              by_cases h0 : y.grow = 0
              · have h1 : (y.grow == 0) = true := by simp [h0]
                go_region
                have HV := Lib.hid (show firstF true I k2 = true by rw [HFF.out]; simp [h0, h1])
                have hl9 := ((hl.out.kept kX.out).setF hlt2 true).kept (Kept.refl _).drew
                go_wp2
                exact ⟨⟨k2 + 1, by omega, by first | rfl | go_num, hl9.congr (fun i hi => rfl) (fun i hi => first_step HV.out i)⟩, by first | (simp [intOf]; done) | (simp [intOf]; omega)⟩
              · have h1' : (y.grow == 0) = false := by simp [h0]
                by_cases h1 : (wishS y < y.base)
                · go_region
                  have HV := Lib.hid (show firstF true I k2 = true by rw [HFF.out]; simp [h0, h1])
                  have hl9 := ((hl.out.kept kX.out).setF hlt2 true).kept (Kept.refl _).drew
                  go_wp2
                  exact ⟨⟨k2 + 1, by omega, by first | rfl | go_num, hl9.congr (fun i hi => rfl) (fun i hi => first_step HV.out i)⟩, by first | (simp [intOf]; done) | (simp [intOf]; omega)⟩
                · go_region
                  have HV := Lib.hid (show firstF true I k2 = false by rw [HFF.out]; simp [h0, h1])
                  have hl9 := ((hl.out.kept kX.out).setF hlt2 false).kept (Kept.refl _).drew
                  go_wp2
                  exact ⟨⟨k2 + 1, by omega, by first | rfl | go_num, hl9.congr (fun i hi => rfl) (fun i hi => first_step HV.out i)⟩, by first | (simp [intOf]; done) | (simp [intOf]; omega)⟩
            · obtain rfl : k2 = k := by omega
              have HLL := Lib.hid hl
              clear hl
              go_wp2
              go_ret
              exact ⟨L, bs, bf, rfl, by rw [HG.out]; exact HLL.out.congr (fun i hi => rfl) (fun i hi => by rw [if_pos hi])⟩
        · have HG := Lib.hid (hgs.trans (decide_eq_false hgr))
          have HL2 := Lib.hid (HLA.out.setG (g2 := false))
          clear hgs HLA
          go_wp2
          go_loopw [57] (fun i wx => ∃ k2 : Nat, k2 ≤ k ∧ i = .int .i64 k2 ∧ LineW w wx L bs bf sl k cap room false I (fun i => wishS (I i)) (fun i => if i < k2 then firstF false I i else false)) (fun i _ => k - (intOf i).toNat)
          case atStart => exact ⟨0, Nat.zero_le _, rfl, HL2.out.congr (fun i hi => rfl) (fun i hi => by simp)⟩
          case round =>
            obtain ⟨k2, hkn, rfl, hl⟩ := hrel
            by_cases hlt2 : k2 < k
            · have hi1 : (k2 : Int) < (k : Int) := by omega
              have hi0 : (0 : Int) ≤ (k2 : Int) := Int.natCast_nonneg _
              have V := hl.view
              obtain ⟨b, off, rfl, hit⟩ := V.it (by omega)
              have c0 := hit.base k2 hlt2
              have c1 := hit.min k2 hlt2
              have c2 := hit.max k2 hlt2
              have c3 := hit.grow k2 hlt2
              have c4 := hit.shrink k2 hlt2
              have c5 := hit.extra k2 hlt2
              have d2 := V.c2
              have d3 := V.c3
              have d4 := V.c4
              have s0 := V.s k2 hlt2
              have f0 := V.f k2 hlt2
              rw [if_neg (by omega)] at f0
              have sf := hl.freeF k2
              have lB := World.block_lt_of_cell? _ _ c0
              obtain ⟨lL, lS, lF⟩ := hl.lt
              have HFF := Lib.hid (show firstF false I k2 = ((I k2).shrink == 0 || decide ((I k2).base < wishS (I k2))) from rfl)
              clear V hit
              generalize hy : I k2 = y at *
              replace hy := Lib.hid hy
              replace hl := Lib.hid hl
              go_upto_region 15 with fail
              obtain ⟨X, eX, kX, bX⟩ := boxes1 wr #[.int .i64 y.base, .int .i64 y.min, .int .i64 y.max, .int .i64 y.grow, .int .i64 y.shrink, .int .i64 y.extra] 38
              rw [← eX]
              clear eX
              have i0 := bX.at 0 _ rfl
              have i3 := bX.at 3 _ rfl
              have i4 := bX.at 4 _ rfl
              have i5 := bX.at 5 _ rfl
              replace d3 := cell_kept kX d3
              replace d4 := cell_kept kX d4
              replace s0 := cell_kept kX s0
              replace f0 := cell_kept kX f0
              replace sf := (kX.below.frozen lF).trans sf
              have kaX := hl.out.k.trans kX
              replace kX := Lib.hid kX
              clear bX c0 c1 c2 c3 c4 c5 d2
              generalize hz : wr.heap.size = z at *
              replace hz := Lib.hid hz
              have gF := hl.out.gF
              have nLF := hl.out.n2
              have nSF := hl.out.n3
              have nzF : z ≠ bf := by omega
              have hS := heldIt (x := ⟨L, 4, none⟩) ⟨kaX, d4, d3, i0, i3, i4, i5, s0⟩ (Kept.refl X).drew
              by_cases h0 : y.shrink = 0
              · have h1 : (y.shrink == 0) = true := by simp [h0]
                go_region
                have HV := Lib.hid (show firstF false I k2 = true by rw [HFF.out]; simp [h0, h1])
                have hl9 := ((hl.out.kept kX.out).setF hlt2 true).kept (Kept.refl _).drew
                go_wp2
                exact ⟨⟨k2 + 1, by omega, by first | rfl | go_num, hl9.congr (fun i hi => rfl) (fun i hi => first_step HV.out i)⟩, by first | (simp [intOf]; done) | (simp [intOf]; omega)⟩
              · have h1' : (y.shrink == 0) = false := by simp [h0]
                by_cases h1 : (y.base < wishS y)
                · go_region
                  have HV := Lib.hid (show firstF false I k2 = true by rw [HFF.out]; simp [h0, h1])
                  have hl9 := ((hl.out.kept kX.out).setF hlt2 true).kept (Kept.refl _).drew
                  go_wp2
                  exact ⟨⟨k2 + 1, by omega, by first | rfl | go_num, hl9.congr (fun i hi => rfl) (fun i hi => first_step HV.out i)⟩, by first | (simp [intOf]; done) | (simp [intOf]; omega)⟩
                · go_region
                  have HV := Lib.hid (show firstF false I k2 = false by rw [HFF.out]; simp [h0, h1])
                  have hl9 := ((hl.out.kept kX.out).setF hlt2 false).kept (Kept.refl _).drew
                  go_wp2
                  exact ⟨⟨k2 + 1, by omega, by first | rfl | go_num, hl9.congr (fun i hi => rfl) (fun i hi => first_step HV.out i)⟩, by first | (simp [intOf]; done) | (simp [intOf]; omega)⟩
            · obtain rfl : k2 = k := by omega
              have HLL := Lib.hid hl
              clear hl
              go_wp2
              go_ret
              exact ⟨L, bs, bf, rfl, by rw [HG.out]; exact HLL.out.congr (fun i hi => rfl) (fun i hi => by rw [if_pos hi])⟩
end Go.Proofs.Yticnfoppdgeioaa
