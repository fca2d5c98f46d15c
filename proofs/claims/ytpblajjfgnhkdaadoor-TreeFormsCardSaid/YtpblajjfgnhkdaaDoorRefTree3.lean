/- Layer 11: are nodes a tree? any; kids, depths, by the document. -/
import Derived.Test.YtpblajjfgnhkdaaDoorRefTree2
namespace Go.Proofs.YtpblajjfgnhkdaaDoor
open Go.RowKit
set_option linter.unusedSimpArgs false
set_option linter.unusedVariables false
set_option maxHeartbeats 2000000
theorem root_not {x : Nd} {a : Int} (h : rootB x = true) (ha : 0 ≤ a) : ¬ x.parent = a := by
  unfold rootB at h
  simp only [Bool.and_eq_true, beq_iff_eq] at h
  omega
theorem refTree_any (v : Value) (n : Nat) (N : Nat → Nd) (D : Nat → Value) (w : World) (hv : NodesV w v n N D) (hn : n ≤ 4611686018427387904) :
    Calls Tryd.prog 20 #[v] w fun e w' => e = .returned (.bool (treeB N n)) ∧ Kept w w' := by
  obtain ⟨sl, cap, rfl⟩ := hv.row.shape
  by_cases h0 : n = 0
  · subst h0
    have Hs := Lib.hid (show treeB N 0 = false from rfl)
    clear hv
    go_enter Tryd.func20, Tryd.ntmps20
    go_wp2
    go_ret
    exact ⟨ret_bool (by rw [Hs.out]), Kept.refl _⟩
  · by_cases h1 : n ≤ 32
    · obtain ⟨b, off, rfl, hle, hr⟩ := hv.row.row (by omega)
      exact refTree_main b off n cap N D w hv hr (by omega) h1
    · have Hs := Lib.hid (show treeB N n = false by
        cases h : treeB N n with
        | false => rfl
        | true => have := (treeB_true.1 h).1; omega)
      clear hv
      have hi1 : ¬ (n : Int) < 1 := by omega
      have hi2 : (32 : Int) < (n : Int) := by omega
      go_enter Tryd.func20, Tryd.ntmps20
      go_wp2
      go_ret
      exact ⟨ret_bool (by rw [Hs.out]), Kept.refl _⟩
theorem refTree_is (v : Value) (n : Nat) (N : Nat → Nd) (D : Nat → Value) (w : World) (hv : NodesV w v n N D) (hn : n ≤ 4611686018427387904) (b : Bool) (hb : treeB N n = b) :
    Calls Tryd.prog 20 #[v] w fun e w' => e = .returned (.bool b) ∧ Kept w w' := by
  subst hb
  exact refTree_any v n N D w hv hn
set_option maxRecDepth 20000 in
theorem refKidsRow_any (b off n cap : Nat) (N : Nat → Nd) (D : Nat → Value) (a : Int) (w : World) (hr : RowAt w b off 6 n (nodeC N D)) (hd : ∀ i, i < n → ∃ o c, D i = .slice o (N i).m c) (hn : n ≤ 32) (hn1 : 1 ≤ n) (h0 : ¬ (N 0).parent = a) :
    Calls Tryd.prog 31 #[.slice (some ⟨b, off, none⟩) n cap, .int .i64 a] w fun e w' => ∃ u, e = .returned u ∧ NewOnes 3 w w' u (kidN N a n) (kidZ N a n) ∧ Kept w w' := by
  obtain ⟨i0, hi, hz0, hz1, hz2⟩ := info_parts intInfo1
  have HR := Lib.hid hr
  have HD := Lib.hid hd
  have K1 : kidN N a 1 = 0 := by show 0 + (if (N 0).parent = a then 1 else 0) = 0; rw [if_neg h0]
  clear hr hd h0
  go_enter Tryd.func31, Tryd.ntmps31
  go_wp2
  go_loopw [5, 6] (fun v i wx => ∃ k : Nat, 1 ≤ k ∧ k ≤ n ∧ i = .int .i64 k ∧ OR wx w.heap.size 3 1 v (kidN N a k) (ones (kidZ N a k) (kidN N a k)) ∧ Kept w wx) (fun _ i _ => n - (intOf i).toNat)
  case atStart => exact ⟨1, Nat.le_refl _, hn1, rfl, by rw [K1]; exact ⟨World.ownsRow_nil _ _ _ _⟩, Kept.refl _⟩
  case round =>
    obtain ⟨k, hk1, hkn, rfl, ho, hk⟩ := hrel
    by_cases hlt : k < n
    · have hi1 : (k : Int) < (n : Int) := by omega
      obtain ⟨c0, c1, c2, c3, c4, c5⟩ := node_cells (HR.out.kept hk) hlt
      obtain ⟨o2, cap2, hD⟩ := HD.out k hlt
      rw [hD] at c4
      have hle := hk.size
      have hkl := kidN_le N a k
      have HO := Lib.hid ho
      have e1 := Lib.hid (show kidN N a (k + 1) = kidN N a k + if (N k).parent = a then 1 else 0 from rfl)
      have e2 := Lib.hid (fun h => kidZ_new (N := N) (a := a) (k := k) h)
      have e3 := Lib.hid (fun j (h : j < kidN N a k) => kidZ_step N a k j h)
      have e4 := Lib.hid (show ones (kidZ N a (k + 1)) (kidN N a k) = ones (kidZ N a k) (kidN N a k) from ones_congr fun j hj => kidZ_step N a k j hj)
      clear ho hD
      obtain ⟨m, hm⟩ : ∃ m, kidN N a k = m := ⟨_, rfl⟩
      rw [hm] at e1 e2 e4 HO hkl
      clear hm e3
      generalize N k = y at *
      by_cases hp : y.parent = a
      · have HF : kidN N a (k + 1) = m + 1 := by rw [e1.out, if_pos hp]
        have HFL := Lib.hid (show ones (kidZ N a k) m ++ [.int .i64 (k : Int)] = ones (kidZ N a (k + 1)) (m + 1) by rw [← e4.out, ← e2.out hp]; rfl)
        have HF1 := Lib.hid HF
        clear HF e2 e4 e1
        subst hp
        go_wp2_with (at_builtin; refine wpList_append_own _ rfl _ _ 24 rfl w.heap.size 3 i0 (.int .i64 0) 1 8 Tryd.underlying24 hi hz0 hz1 hz2 rfl (by decide) _ _ _ rfl (HO.out.own.alloc _) ⟨wr.heap.size, 0, none⟩ 1 1 [.int .i64 (k : Int)] rfl rfl (lit_cells wr #[.int .i64 (k : Int)] 3) (by simp [Value.oneCell']) (by unfold maxLen; omega) (by omega) (by simp; omega) ?_; intro v2 w2 hown2 hg2 _)
        exact ⟨⟨k + 1, by omega, by omega, by first | rfl | go_num, by rw [HF1.out]; exact ⟨by rw [← HFL.out]; exact hown2⟩, (hk.alloc _).grown hg2 (row_ge HO.out.own)⟩, by first | (simp [intOf]; done) | (simp [intOf]; omega)⟩
      · have HF1 := Lib.hid (show kidN N a (k + 1) = m by rw [e1.out, if_neg hp]; rfl)
        clear e2 e1
        go_wp2
        exact ⟨⟨k + 1, by omega, by omega, by first | rfl | go_num, by rw [HF1.out, e4.out]; exact HO.out, hk⟩, by first | (simp [intOf]; done) | (simp [intOf]; omega)⟩
    · obtain rfl : k = n := by omega
      go_wp2
      go_ret
      exact ⟨_, rfl, newOnes_of ho.own, hk⟩
theorem refKids_any (v : Value) (n : Nat) (N : Nat → Nd) (D : Nat → Value) (a : Int) (w : World) (hv : NodesV w v n N D) (hn : n ≤ 4611686018427387904) :
    Calls Tryd.prog 14 #[v, .int .i64 a] w (KidsPost w n N a) := by
  obtain ⟨sl, cap, rfl⟩ := hv.row.shape
  cases h1 : treeB N n with
  | false =>
    have Hs := Lib.hid (show goodT N n a = false by unfold goodT; rw [h1]; rfl)
    have HM := Lib.hid (fun wx (hk : Kept w wx) => refTree_is _ n N D wx (hv.kept hk) hn _ h1)
    clear hv
    have hk : Kept w w := Kept.refl w
    go_enter Tryd.func14, Tryd.ntmps14
    go_wp2_with fail
    refine (HM.out _ hk).mono ?_
    rintro e w1 ⟨rfl, hn⟩
    replace hk := hk.trans hn
    clear hn
    go_wp2
    go_ret2
    exact ⟨_, by unfold numT; rw [Hs.out]; rfl, .inl ⟨by unfold kidM; rw [Hs.out]; rfl, _, _, rfl, by decide⟩, hk⟩
  | true =>
    have HM := Lib.hid (fun wx (hk : Kept w wx) => refTree_is _ n N D wx (hv.kept hk) hn _ h1)
    obtain ⟨⟨n0, n1⟩, _, hroot, _⟩ := treeB_true.1 h1
    cases h2 : inB 0 ((n : Int) - 1) a with
    | false =>
      have Hs := Lib.hid (show goodT N n a = false by unfold goodT; rw [h1, h2]; rfl)
      clear hv
      have hk : Kept w w := Kept.refl w
      go_enter Tryd.func14, Tryd.ntmps14
      have hb : a < 0 ∨ (n : Int) ≤ a := by
        rcases Int.lt_or_le a 0 with h | h
        · exact .inl h
        · rcases Int.lt_or_le a (n : Int) with h' | h'
          · rw [inB_true.2 ⟨h, by omega⟩] at h2; cases h2
          · exact .inr h'
      have hb' := Lib.hid hb
      clear hb h2
      go_wp2_with fail
      refine (HM.out _ hk).mono ?_
      rintro e w1 ⟨rfl, hn⟩
      replace hk := hk.trans hn
      clear hn
      rcases hb'.out with hb | hb
      · go_wp2
        go_ret2
        exact ⟨_, by unfold numT; rw [Hs.out]; rfl, .inl ⟨by unfold kidM; rw [Hs.out]; rfl, _, _, rfl, by decide⟩, hk⟩
      · have hb2 : ¬ a < 0 := by omega
        go_wp2
        go_ret2
        exact ⟨_, by unfold numT; rw [Hs.out]; rfl, .inl ⟨by unfold kidM; rw [Hs.out]; rfl, _, _, rfl, by decide⟩, hk⟩
    | true =>
      have Hs := Lib.hid (show goodT N n a = true by unfold goodT; rw [h1, h2]; rfl)
      obtain ⟨b, off, rfl, hle, hr⟩ := hv.row.row (by omega)
      have HK := Lib.hid (fun wx (hk : Kept w wx) => refKidsRow_any b off n cap N D a wx (hr.kept hk) (fun i hi => (hv.each i hi).decls.shape) n1 n0 (root_not hroot (inB_true.1 h2).1))
      clear hv hr
      have hk : Kept w w := Kept.refl w
      go_enter Tryd.func14, Tryd.ntmps14
      have ha0 : ¬ a < 0 := by have := inB_true.1 h2; omega
      have ha1 : ¬ (n : Int) ≤ a := by have := inB_true.1 h2; omega
      go_wp2_with fail
      refine (HM.out _ hk).mono ?_
      rintro e w1 ⟨rfl, hn⟩
      replace hk := hk.trans hn
      clear hn
      go_wp2_with fail
      refine (HK.out _ hk).mono ?_
      rintro e w2 ⟨u, rfl, hu, hn2⟩
      replace hu := newOnes_earlier hu hk
      replace hk := hk.trans hn2
      go_wp2
      go_ret2
      exact ⟨_, by unfold numT; rw [Hs.out]; rfl, by unfold kidM; rw [Hs.out, if_pos rfl]; exact hu, hk⟩
theorem refDepth_any (v : Value) (n : Nat) (N : Nat → Nd) (D : Nat → Value) (a : Int) (w : World) (hv : NodesV w v n N D) (hn : n ≤ 4611686018427387904) :
    Calls Tryd.prog 16 #[v, .int .i64 a] w fun e w' => e = .returned (.tuple #[.int .i64 (depV N n a), .int .i64 (numT N n a)]) ∧ Kept w w' := by
  obtain ⟨sl, cap, rfl⟩ := hv.row.shape
  cases h1 : treeB N n with
  | false =>
    have Hs := Lib.hid (show goodT N n a = false by unfold goodT; rw [h1]; rfl)
    have HM := Lib.hid (fun wx (hk : Kept w wx) => refTree_is _ n N D wx (hv.kept hk) hn _ h1)
    clear hv
    have hk : Kept w w := Kept.refl w
    go_enter Tryd.func16, Tryd.ntmps16
    go_wp2_with fail
    refine (HM.out _ hk).mono ?_
    rintro e w1 ⟨rfl, hn⟩
    replace hk := hk.trans hn
    clear hn
    go_wp2
    go_ret2
    exact ⟨by unfold numT depV; rw [Hs.out]; rfl, hk⟩
  | true =>
    have HM := Lib.hid (fun wx (hk : Kept w wx) => refTree_is _ n N D wx (hv.kept hk) hn _ h1)
    obtain ⟨⟨n0, n1⟩, _, hroot, hlinks⟩ := treeB_true.1 h1
    cases h2 : inB 0 ((n : Int) - 1) a with
    | false =>
      have Hs := Lib.hid (show goodT N n a = false by unfold goodT; rw [h1, h2]; rfl)
      clear hv
      have hk : Kept w w := Kept.refl w
      go_enter Tryd.func16, Tryd.ntmps16
      have hb : a < 0 ∨ (n : Int) ≤ a := by
        rcases Int.lt_or_le a 0 with h | h
        · exact .inl h
        · rcases Int.lt_or_le a (n : Int) with h' | h'
          · rw [inB_true.2 ⟨h, by omega⟩] at h2; cases h2
          · exact .inr h'
      have hb' := Lib.hid hb
      clear hb h2
      go_wp2_with fail
      refine (HM.out _ hk).mono ?_
      rintro e w1 ⟨rfl, hn⟩
      replace hk := hk.trans hn
      clear hn
      rcases hb'.out with hb | hb
      · go_wp2
        go_ret2
        exact ⟨by unfold numT depV; rw [Hs.out]; rfl, hk⟩
      · have hb2 : ¬ a < 0 := by omega
        go_wp2
        go_ret2
        exact ⟨by unfold numT depV; rw [Hs.out]; rfl, hk⟩
    | true =>
      have Hs := Lib.hid (show goodT N n a = true by unfold goodT; rw [h1, h2]; rfl)
      obtain ⟨a0, a1⟩ := inB_true.1 h2
      obtain ⟨j0, rfl⟩ := Int.eq_ofNat_of_zero_le a0
      obtain ⟨b, off, rfl, hle, hr⟩ := hv.row.row (by omega)
      have HR := Lib.hid hr
      have HUP := Lib.hid (fun i (h0 : 0 < i) (hi : i < n) => depS_up hlinks h0 hi)
      have HPT := Lib.hid (fun i (h0 : 0 < i) (hi : i < n) => (linkB_parts (linksB_at hlinks i h0 hi)).1)
      have HDB := Lib.hid (depS_bd hlinks n (Nat.le_refl _))
      have HRT := Lib.hid (depS_root N (n := n) (by omega))
      clear hv hr hlinks hroot
      have hk : Kept w w := Kept.refl w
      go_enter Tryd.func16, Tryd.ntmps16
      have ha0 : ¬ (j0 : Int) < 0 := by have := inB_true.1 h2; omega
      have ha1 : ¬ (n : Int) ≤ (j0 : Int) := by have := inB_true.1 h2; omega
      go_wp2_with fail
      refine (HM.out _ hk).mono ?_
      rintro e w1 ⟨rfl, hn⟩
      replace hk := hk.trans hn
      clear hn
      obtain ⟨W0, hW0⟩ : ∃ z, z = w1 := ⟨_, rfl⟩
      rw [← hW0] at hk ⊢
      clear hW0
      have HK := Lib.hid hk
      have HD0 := Lib.hid (HDB.out j0)
      obtain ⟨T, hT⟩ : ∃ T, depS N n j0 = T := ⟨_, rfl⟩
      have HT := Lib.hid hT
      rw [hT] at HD0
      clear hT hk
      go_wp2
      go_loopw [1, 6] (fun x d wx => ∃ j : Nat, j < n ∧ x = .int .i64 j ∧ d = .int .i64 (T - depS N n j) ∧ wx = W0) (fun x _ _ => (intOf x).toNat)
      case atStart => exact ⟨j0, by omega, rfl, by rw [HT.out]; simp, by first | rfl | trivial⟩
      case round =>
        obtain ⟨j, hj, rfl, rfl, rfl⟩ := hrel
        rcases Nat.eq_zero_or_pos j with h0 | h0
        · subst h0
          rw [HRT.out, Int.sub_zero]
          go_wp2
          go_ret2
          exact ⟨by unfold numT depV; rw [Hs.out, if_pos rfl, if_pos rfl, ← HT.out]; rfl, HK.out⟩
        · have hi0 : (0 : Int) < (j : Int) := by omega
          have hi1 : (j : Int) < (n : Int) := by omega
          have c0 := (node_cells (HR.out.kept HK.out) hj).c0
          obtain ⟨p0, p1⟩ := HPT.out j h0 hj
          have hu := HUP.out j h0 hj
          have hd := HDB.out j
          have hdT := HD0.out
          obtain ⟨p, hp⟩ := Int.eq_ofNat_of_zero_le p0
          have hpj : p < j := by omega
          rw [hp] at hu c0
          rw [show ((p : Int)).toNat = p from rfl] at hu
          have HU := Lib.hid (show T - depS N n j + 1 = T - depS N n p by omega)
          clear hu hp p0 p1
          generalize depS N n j = dj at *
          go_wp2
          exact ⟨⟨p, by omega, rfl, by rw [HU.out], by first | rfl | trivial⟩, by first | (simp [intOf]; done) | (simp [intOf]; omega)⟩
end Go.Proofs.YtpblajjfgnhkdaaDoor
