/- Layer 11: are nodes a tree? by the document. -/
import Derived.Test.YtpblajjfgnhkdaaDoorRefTree
import Derived.Test.YtpblajjfgnhkdaaDoorIntRow
import Derived.Laws.MakeOwn
namespace Go.Proofs.YtpblajjfgnhkdaaDoor
open Go.RowKit
set_option linter.unusedSimpArgs false
set_option linter.unusedVariables false
theorem made_zero11 (n : Nat) : ∀ i, i < n → (madeCells #[Value.int .i64 0] n)[i]? = some (.int .i64 0) := by
  intro i h
  unfold madeCells
  rw [Array.getElem?_map, Array.getElem?_range, if_pos (by simpa using h)]
  simp [Nat.mod_one]
/-- the depths of the first k, in a row of n -/
structure DepR (t : TypeId) (w : World) (b n k : Nat) (N : Nat → Nd) : Prop where
  own : ∃ cs, Own w b t cs ∧ cs.size = n ∧ (∀ i, i < n → ∃ x : Int, cs[i]? = some (.int .i64 x)) ∧ cs[0]? = some (.int .i64 0) ∧ ∀ i, i < k → cs[i]? = some (.int .i64 (depS N k i))
theorem DepR.kept {t : TypeId} {w w' : World} {b n k : Nat} {N : Nat → Nd} (h : DepR t w b n k N) (kp : Kept w w') : DepR t w' b n k N := by
  obtain ⟨cs, h1, h2, h3, h4, h5⟩ := h.own
  exact ⟨cs, h1.kept kp, h2, h3, h4, h5⟩
theorem DepR.lt {t : TypeId} {w : World} {b n k : Nat} {N : Nat → Nd} (h : DepR t w b n k N) : b < w.heap.size := by obtain ⟨cs, h1, _⟩ := h.own; exact h1.lt
theorem DepR.free {t : TypeId} {w : World} {b n k : Nat} {N : Nat → Nd} (h : DepR t w b n k N) (i : Nat) : w.frozen? ⟨b, i, none⟩ = false := by obtain ⟨cs, h1, _⟩ := h.own; exact h1.free i
theorem DepR.at_ {t : TypeId} {w : World} {b n k : Nat} {N : Nat → Nd} (h : DepR t w b n k N) {i : Nat} (hi : i < k) : w.cell? ⟨b, i, none⟩ = some (.int .i64 (depS N k i)) := by obtain ⟨cs, h1, h2, h3, h4, h5⟩ := h.own; exact (h1.cell i).trans (h5 i hi)
theorem DepR.old {t : TypeId} {w : World} {b n k : Nat} {N : Nat → Nd} (h : DepR t w b n k N) {i : Nat} (hi : i < n) : ∃ x : Int, w.cell? ⟨b, i, none⟩ = some (.int .i64 x) := by obtain ⟨cs, h1, h2, h3, h4⟩ := h.own; obtain ⟨x, hx⟩ := h3 i hi; exact ⟨x, (h1.cell i).trans hx⟩
theorem DepR.first {t : TypeId} {w : World} {b n : Nat} {N : Nat → Nd} (h : DepR t w b n 0 N) : DepR t w b n 1 N := by
  obtain ⟨cs, h1, h2, h3, h4, h5⟩ := h.own
  refine ⟨cs, h1, h2, h3, h4, fun i hi => ?_⟩
  obtain rfl : i = 0 := by omega
  exact h4
theorem DepR.put {t : TypeId} {w : World} {b n k : Nat} {N : Nat → Nd} (h : DepR t w b n k N) (h0 : 0 < k) (hk : k < n) {v : Int} (hv : depS N (k + 1) k = v) : DepR t (w.setCell ⟨b, k, none⟩ (.int .i64 v)) b n (k + 1) N := by
  obtain ⟨cs, h1, h2, h3, h4, h5⟩ := h.own
  refine ⟨_, h1.set k _, by rw [Array.size_setIfInBounds]; exact h2, fun i hi => ?_, by rw [Array.getElem?_setIfInBounds_ne (by omega)]; exact h4, fun i hi => ?_⟩
  · by_cases e : i = k
    · subst e; exact ⟨v, by rw [Array.getElem?_setIfInBounds_self_of_lt (by omega)]⟩
    · rw [Array.getElem?_setIfInBounds_ne (by omega)]; exact h3 i hi
  · by_cases e : i = k
    · subst e; rw [Array.getElem?_setIfInBounds_self_of_lt (by omega), hv]
    · rw [Array.getElem?_setIfInBounds_ne (by omega), h5 i (by omega)]
      show _ = some (Value.int .i64 (if i = k then _ else depS N k i))
      rw [if_neg e]
theorem depR_new (w : World) (n : Nat) (hn : 0 < n) (N : Nat → Nd) : DepR 3 (w.alloc (.cells (madeCells #[.int .i64 0] n) 3)) w.heap.size n 0 N :=
  ⟨_, Own.new w _ _, size_madeCells #[Value.int .i64 0] n, fun i hi => ⟨0, made_zero11 n i hi⟩, made_zero11 n 0 hn, fun i hi => by omega⟩
set_option maxRecDepth 200000 in
set_option maxHeartbeats 4000000 in
theorem refTree_main (b off n cap : Nat) (N : Nat → Nd) (D : Nat → Value) (w : World) (hv : NodesV w (.slice (some ⟨b, off, none⟩) n cap) n N D) (hrow : RowAt w b off 6 n (nodeC N D)) (h1 : 1 ≤ n) (h32 : n ≤ 32) :
    Calls Tryd.prog 20 #[.slice (some ⟨b, off, none⟩) n cap] w fun e w' => e = .returned (.bool (treeB N n)) ∧ Kept w w' := by
  have Hs := Lib.hid (show treeB N n = (nodesB N n && rootB (N 0) && linksB N n) by unfold treeB; rw [inB_true.2 ⟨by omega, by omega⟩]; rfl)
  have HV := Lib.hid hv
  have HROW := Lib.hid hrow
  obtain ⟨c0, c1, c2, c3, c4, c5⟩ := node_cells hrow (show 0 < n by omega)
  rw [Nat.zero_mul, Nat.add_zero] at c0 c1 c2 c3 c4 c5
  have lB : b < w.heap.size := World.block_lt_of_cell? _ _ c0
  obtain ⟨o0, cap0, hD0⟩ := (hv.each 0 (by omega)).decls.shape
  rw [hD0] at c4
  clear hv hrow hD0
  have hi1 : ¬ (n : Int) < 1 := by omega
  have hi2 : ¬ (32 : Int) < (n : Int) := by omega
  have hi3 : (0 : Int) < (n : Int) := by omega
  have HRB := Lib.hid (show rootB (N 0) = ((N 0).parent == -1 && !((N 0).kind == 1) && plainN (N 0)) from rfl)
  have HPL := Lib.hid (plain_any (N 0) (.slice o0 (N 0).m cap0))
  have hmk := run_make_row' (P := Tryd.prog) 24 3 (.int .i64 0) 8 Tryd.underlying24 intInfo1 rfl .i64 .i64 n (by omega) (by omega)
  generalize treeB N n = tb at *
  generalize hy : N 0 = y at *
  generalize rootB y = rb at *
  generalize plainN y = pl at *
  obtain ⟨pa, ki, fl, cl, m, P, T, te⟩ := y
  dsimp only at c0 c1 c2 c3 c4 c5 HRB HPL
  have hk := Kept.refl w
  by_cases hr1 : pa = -1
  · subst hr1
    by_cases hr2 : ki = 1
    · subst hr2
      have hrb : rb = false := by rw [HRB.out]; simp
      go_enter Tryd.func20, Tryd.ntmps20
      go_wp2
      go_ret
      exact ⟨ret_bool (by rw [Hs.out, hrb]; simp), hk⟩
    · have hr3 : (ki == 1) = false := by simpa using hr2
      cases pl with
      | false =>
        have HRF := Lib.hid (show rb = false by rw [HRB.out]; simp)
        go_enter Tryd.func20, Tryd.ntmps20
        go_wp2_with fail
        refine (HPL.out _).mono ?_
        rintro e w1 ⟨rfl, hn⟩
        replace hk := hk.trans hn
        clear hn
        go_wp2
        go_ret
        exact ⟨ret_bool (by rw [Hs.out, HRF.out]; simp), hk⟩
      | true =>
        have HRT := Lib.hid (show rb = true by rw [HRB.out]; simp; exact hr2)
        go_enter Tryd.func20, Tryd.ntmps20
        go_wp2_with fail
        refine (HPL.out _).mono ?_
        rintro e w1 ⟨rfl, hn⟩
        replace hk := hk.trans hn
        clear hn
        rw [HRT.out, Bool.and_true] at Hs
        obtain ⟨W0, hW0⟩ : ∃ z, z = w1 := ⟨_, rfl⟩
        rw [← hW0] at hk ⊢
        have HK0 := Lib.hid hk
        clear hW0 hk c0 c1 c2 c3 c4 c5 HRB HPL HRT hy
        go_wp2
        clear hmk hr2 hr3
        have hd0 := depR_new W0 n (by omega) N
        have hk1 : Kept W0 (W0.alloc (.cells (madeCells #[.int .i64 0] n) 3)) := (Kept.refl W0).alloc _
        generalize W0.alloc (.cells (madeCells #[.int .i64 0] n) 3) = W1 at *
        have HD0 := Lib.hid hd0
        have HK1 := Lib.hid hk1
        clear hd0 hk1
        obtain ⟨dB, hdB⟩ : ∃ z, W0.heap.size = z := ⟨_, rfl⟩
        have hgd : W0.heap.size ≤ dB := by omega
        have hwd : w.heap.size ≤ dB := by have := HK0.out.size; omega
        rw [hdB] at HD0 ⊢
        clear hdB
        go_loopw [4, 5] (fun i _ wx => ∃ k : Nat, k ≤ n ∧ i = .int .i64 k ∧ Kept W0 wx ∧ DepR 3 wx dB n k N ∧ linksB N k = true ∧ nodesB N k = true) (fun i _ _ => n - (intOf i).toNat)
        case atStart => exact ⟨0, Nat.zero_le _, rfl, HK1.out, HD0.out, rfl, rfl⟩
        case round =>
          obtain ⟨k, hkn, rfl, kX, hd, hall, hnod⟩ := hrel
          have HALL := Lib.hid hall
          have HNOD := Lib.hid hnod
          clear hall hnod
          by_cases hlt : k < n
          · have hi4 : (k : Int) < (n : Int) := by omega
            have hi0 : (0 : Int) ≤ (k : Int) := Int.natCast_nonneg _
            have hr := HROW.out.kept (HK0.out.trans kX)
            have hnd := (HV.out.kept (HK0.out.trans kX)).each k hlt
            obtain ⟨c0, c1, c2, c3, c4, c5⟩ := node_cells hr hlt
            obtain ⟨o2, cap2, hD⟩ := hnd.decls.shape
            rw [hD] at c4 hnd
            have HND := Lib.hid (refNode_any (N k) o2 cap2 wr hnd)
            have HNB := Lib.hid (fun (h : nodeB (N k) = false) => nodesB_no (n := n) hlt h)
            have HNY := Lib.hid (fun (h : nodeB (N k) = true) => (show nodesB N (k + 1) = true by unfold nodesB; rw [HNOD.out, h]; rfl))
            clear hnd hD
            cases hnb : nodeB (N k) with
            | false =>
              rw [hnb] at HND
              have hq := HNB.out hnb
              clear hnb
              generalize N k = y at *
              go_wp2_with (first
                | (go_at_call 37; (refine HND.out.mono ?_); rintro e w3 ⟨rfl, hn⟩))
              go_ret
              exact ⟨ret_bool (by rw [Hs.out, hq]; rfl), (HK0.out.trans kX).trans hn⟩
            | true =>
              rw [hnb] at HND
              have HNY1 := Lib.hid (HNY.out hnb)
              clear hnb HNB HNY
              rcases Nat.eq_zero_or_pos k with hk0 | hk0
              · subst hk0
                rw [Nat.zero_mul, Nat.add_zero] at c0 c1 c2 c3 c4 c5
                generalize N 0 = y at *
                go_wp2_with (first
                  | (go_at_call 37; (refine HND.out.mono ?_); rintro e w3 ⟨rfl, hn⟩))
                go_roundw
                case rel => exact ⟨0 + 1, by omega, by first | rfl | go_num, kX.trans hn, hd.first.kept hn, rfl, HNY1.out⟩
                case measure => first | (simp [intOf]; done) | (simp [intOf]; omega)
              · have hk0i : ((k : Int) == 0) = false := by simp; omega
                have HNO := Lib.hid (fun (h : linkB N k = false) => linksB_no (n := n) hk0 hlt h)
                have HYES := Lib.hid (fun (h : linkB N k = true) => (show linksB N (k + 1) = true by unfold linksB; rw [HALL.out, if_neg (by omega), h]; rfl))
                have HDB := Lib.hid (depS_bd HALL.out k (Nat.le_refl _))
                have HL1 := Lib.hid (fun h => linkB_no1 (N := N) (i := k) h)
                have HL2 := Lib.hid (fun h => linkB_no2 (N := N) (i := k) h)
                have HL3 := Lib.hid (fun h h' => linkB_is (N := N) (i := k) h h')
                have HDP := Lib.hid (show depS N (k + 1) k = depS N k (N k).parent.toNat + 1 by show (if k = k then _ else _) = _; rw [if_pos rfl, if_neg (by omega)])
                have HX := Lib.hid (fun p (hp : p < n) => node_cells hr hp)
                have HPL := Lib.hid (plain_any (N k) (.slice o2 (N k).m cap2))
                clear hr
                obtain ⟨⟨pa, ki, fl, cl, m, P, T, te⟩, hy⟩ : ∃ y, N k = y := ⟨_, rfl⟩
                rw [hy] at c0 c1 c2 c3 c4 c5 HL1 HL2 HL3 HDP HND HPL
                dsimp only at c0 c1 c2 c3 c4 c5 HL1 HL2 HL3 HDP HND HPL
                clear hy
                generalize linkB N k = lk at *
                by_cases hp1 : 0 ≤ pa ∧ pa ≤ (k : Int) - 1
                · obtain ⟨p0, p1⟩ := hp1
                  obtain ⟨p, rfl⟩ := Int.eq_ofNat_of_zero_le p0
                  have hpk : p < k := by omega
                  rw [show ((p : Int)).toNat = p from rfl] at HL2 HL3 HDP
                  have HIN := Lib.hid (show inB 0 ((k : Int) - 1) (p : Int) = true from inB_true.2 ⟨p0, p1⟩)
                  have d0 := hd.at_ hpk
                  have lD := hd.lt
                  have hpi0 : (0 : Int) ≤ (p : Int) := Int.natCast_nonneg _
                  have hpi1 : ¬ (p : Int) < 0 := by omega
                  have hpi2 : ¬ (k : Int) ≤ (p : Int) := by omega
                  have hpin : (p : Int) < (n : Int) := by omega
                  have e1 := (HX.out p (by omega)).c1
                  have db := HDB.out p
                  have HDQ := Lib.hid hd
                  clear HX HDB HL1 p0 p1 hd
                  have HUB := Lib.hid (show underB (N p) ⟨(p : Int), ki, fl, cl, m, P, T, te⟩ = (!((N p).kind == 1) && (!((N p).kind == 2) || plainN ⟨(p : Int), ki, fl, cl, m, P, T, te⟩)) from rfl)
                  generalize underB (N p) ⟨(p : Int), ki, fl, cl, m, P, T, te⟩ = ub at *
                  generalize plainN ⟨(p : Int), ki, fl, cl, m, P, T, te⟩ = pl at *
                  generalize (N p).kind = kp at *
                  generalize depS N k p = dp at *
                  by_cases hkp : kp = 1
                  · subst hkp
                    have hub : ub = false := by rw [HUB.out]; rfl
                    by_cases hd6 : dp < 6
                    · have hq : lk = false := by rw [HL3.out HIN.out hd6, hub]
                      subst hq
                      go_wp2_with (first
                        | (go_at_call 37; (refine HND.out.mono ?_); rintro e w3 ⟨rfl, hn⟩; have c00 := cell_kept11 hn c0; have c01 := cell_kept11 hn c1; have c02 := cell_kept11 hn c2; have c03 := cell_kept11 hn c3; have c04 := cell_kept11 hn c4; have c05 := cell_kept11 hn c5; have e11 := cell_kept11 hn e1; have d01 := cell_kept11 hn d0; have ld1 := Nat.lt_of_lt_of_le lD hn.size))
                      go_ret
                      exact ⟨ret_bool (by rw [Hs.out, HNO.out (by first | exact trivial | rfl), Bool.and_false]), (HK0.out.trans kX).trans hn⟩
                    · have hd7 : (6 : Int) ≤ dp := by omega
                      have hq : lk = false := HL2.out hd6
                      subst hq
                      go_wp2_with (first
                        | (go_at_call 37; (refine HND.out.mono ?_); rintro e w3 ⟨rfl, hn⟩; have c00 := cell_kept11 hn c0; have c01 := cell_kept11 hn c1; have c02 := cell_kept11 hn c2; have c03 := cell_kept11 hn c3; have c04 := cell_kept11 hn c4; have c05 := cell_kept11 hn c5; have e11 := cell_kept11 hn e1; have d01 := cell_kept11 hn d0; have ld1 := Nat.lt_of_lt_of_le lD hn.size))
                      go_ret
                      exact ⟨ret_bool (by rw [Hs.out, HNO.out (by first | exact trivial | rfl), Bool.and_false]), (HK0.out.trans kX).trans hn⟩
                  · by_cases hd6 : dp < 6
                    · have hd7 : ¬ (6 : Int) ≤ dp := by omega
                      have hlk := HL3.out HIN.out hd6
                      by_cases hk2 : kp = 2
                      · subst hk2
                        cases pl with
                        | false =>
                          have hub : ub = false := by rw [HUB.out]; rfl
                          have hq : lk = false := by rw [hlk, hub]
                          subst hq
                          clear hlk hub HUB HL2 HL3
                          go_wp2_with (first
                            | (go_at_call 37; (refine HND.out.mono ?_); rintro e w3 ⟨rfl, hn⟩; have c00 := cell_kept11 hn c0; have c01 := cell_kept11 hn c1; have c02 := cell_kept11 hn c2; have c03 := cell_kept11 hn c3; have c04 := cell_kept11 hn c4; have c05 := cell_kept11 hn c5; have e11 := cell_kept11 hn e1; have d01 := cell_kept11 hn d0; have ld1 := Nat.lt_of_lt_of_le lD hn.size)
                            | (go_at_call 36; (with_reducible refine (HPL.out _).mono ?_); rintro e w4 ⟨rfl, hn4⟩))
                          go_ret
                          exact ⟨ret_bool (by rw [Hs.out, HNO.out (by first | exact trivial | rfl), Bool.and_false]), ((HK0.out.trans kX).trans hn).trans hn4⟩
                        | true =>
                          have hub : ub = true := by rw [HUB.out]; rfl
                          have hq : lk = true := by rw [hlk, hub]
                          subst hq
                          clear hlk hub HUB HL2 HL3 HNO
                          have HST := Lib.hid (fun (w4 : World) (h : Kept wr w4) => (HDQ.out.kept h))
                          obtain ⟨ox, hox⟩ := HDQ.out.old hlt
                          have df := HDQ.out.free k
                          go_wp2_with (first
                            | (go_at_call 37; (refine HND.out.mono ?_); rintro e w3 ⟨rfl, hn⟩; have c00 := cell_kept11 hn c0; have c01 := cell_kept11 hn c1; have c02 := cell_kept11 hn c2; have c03 := cell_kept11 hn c3; have c04 := cell_kept11 hn c4; have c05 := cell_kept11 hn c5; have e11 := cell_kept11 hn e1; have d01 := cell_kept11 hn d0; have hox1 := cell_kept11 hn hox; have df1 := (hn.below.frozen lD).trans df; have ld1 := Nat.lt_of_lt_of_le lD hn.size)
                            | (go_at_call 36; (with_reducible refine (HPL.out _).mono ?_); rintro e w4 ⟨rfl, hn4⟩; have hnn := hn.trans hn4; have d02 := cell_kept11 hn4 d01; have hox2 := cell_kept11 hn4 hox1; have df2 := (hn4.below.frozen ld1).trans df1; have ld2 := Nat.lt_of_lt_of_le ld1 hn4.size))
                          go_roundw
                          case rel => exact ⟨k + 1, by omega, by first | rfl | go_num, (kX.trans hnn).set hgd _, (HST.out _ hnn).put hk0 hlt HDP.out, HYES.out (by first | exact trivial | rfl), HNY1.out⟩
                          case measure => first | (simp [intOf]; done) | (simp [intOf]; omega)
                      · have hub : ub = true := by rw [HUB.out, show (kp == 1) = false by simpa using hkp, show (kp == 2) = false by simpa using hk2]; rfl
                        have hq : lk = true := by rw [hlk, hub]
                        subst hq
                        have hkp1 : (kp == 1) = false := by simpa using hkp
                        have hkp2 : (kp == 2) = false := by simpa using hk2
                        clear hlk hub HUB HL2 HL3 HNO HPL
                        have HST := Lib.hid (fun (w4 : World) (h : Kept wr w4) => (HDQ.out.kept h))
                        obtain ⟨ox, hox⟩ := HDQ.out.old hlt
                        have df := HDQ.out.free k
                        go_wp2_with (first
                          | (go_at_call 37; (refine HND.out.mono ?_); rintro e w3 ⟨rfl, hn⟩; have c00 := cell_kept11 hn c0; have c01 := cell_kept11 hn c1; have c02 := cell_kept11 hn c2; have c03 := cell_kept11 hn c3; have c04 := cell_kept11 hn c4; have c05 := cell_kept11 hn c5; have e11 := cell_kept11 hn e1; have d01 := cell_kept11 hn d0; have hox1 := cell_kept11 hn hox; have df1 := (hn.below.frozen lD).trans df; have ld1 := Nat.lt_of_lt_of_le lD hn.size; have hnn := hn))
                        go_roundw
                        case rel => exact ⟨k + 1, by omega, by first | rfl | go_num, (kX.trans hnn).set hgd _, (HST.out _ hnn).put hk0 hlt HDP.out, HYES.out (by first | exact trivial | rfl), HNY1.out⟩
                        case measure => first | (simp [intOf]; done) | (simp [intOf]; omega)
                    · have hd7 : (6 : Int) ≤ dp := by omega
                      have hq : lk = false := HL2.out hd6
                      subst hq
                      go_wp2_with (first
                        | (go_at_call 37; (refine HND.out.mono ?_); rintro e w3 ⟨rfl, hn⟩; have c00 := cell_kept11 hn c0; have c01 := cell_kept11 hn c1; have c02 := cell_kept11 hn c2; have c03 := cell_kept11 hn c3; have c04 := cell_kept11 hn c4; have c05 := cell_kept11 hn c5; have e11 := cell_kept11 hn e1; have d01 := cell_kept11 hn d0; have ld1 := Nat.lt_of_lt_of_le lD hn.size))
                      go_ret
                      exact ⟨ret_bool (by rw [Hs.out, HNO.out (by first | exact trivial | rfl), Bool.and_false]), (HK0.out.trans kX).trans hn⟩
                · have hpp : pa < 0 ∨ (k : Int) ≤ pa := by omega
                  have hin : inB 0 ((k : Int) - 1) pa = false := by
                    cases hin : inB 0 ((k : Int) - 1) pa with
                    | false => rfl
                    | true => exact absurd (inB_true.1 hin) hp1
                  rcases hpp with hpp | hpp
                  · have hq : lk = false := HL1.out hin
                    subst hq
                    go_wp2_with (first
                      | (go_at_call 37; (refine HND.out.mono ?_); rintro e w3 ⟨rfl, hn⟩; have c00 := cell_kept11 hn c0))
                    go_ret
                    exact ⟨ret_bool (by rw [Hs.out, HNO.out (by first | exact trivial | rfl), Bool.and_false]), (HK0.out.trans kX).trans hn⟩
                  · have hpq : ¬ pa < 0 := by omega
                    have hq : lk = false := HL1.out hin
                    subst hq
                    go_wp2_with (first
                      | (go_at_call 37; (refine HND.out.mono ?_); rintro e w3 ⟨rfl, hn⟩; have c00 := cell_kept11 hn c0))
                    go_ret
                    exact ⟨ret_bool (by rw [Hs.out, HNO.out (by first | exact trivial | rfl), Bool.and_false]), (HK0.out.trans kX).trans hn⟩
          · obtain rfl : k = n := by omega
            go_wp2
            go_ret
            exact ⟨ret_bool (by rw [Hs.out, HALL.out, HNOD.out]; rfl), HK0.out.trans kX⟩
  · have hrb : rb = false := by rw [HRB.out]; simp [hr1]
    go_enter Tryd.func20, Tryd.ntmps20
    go_wp2
    go_ret
    exact ⟨ret_bool (by rw [Hs.out, hrb]; simp), hk⟩
end Go.Proofs.YtpblajjfgnhkdaaDoor
