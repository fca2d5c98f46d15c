/- Layer 11: kids, depths, by the program. -/
import Derived.Test.YtpblajjfgnhkdaaDoorTreeMay3
namespace Go.Proofs.YtpblajjfgnhkdaaDoor
open Go.RowKit
set_option linter.unusedSimpArgs false
set_option linter.unusedVariables false
set_option maxHeartbeats 2000000
theorem newOnes_earlier {t : TypeId} {a c w : World} {v : Value} {m : Nat} {Z : Nat → Int} (hv : NewOnes t a w v m Z) (k : Kept c a) : NewOnes t c w v m Z := by
  rcases hv with h0 | ⟨b, cap, cur, h1, h2, h3, h4, h5, h6, h7, h8⟩
  · exact .inl h0
  · exact .inr ⟨b, cap, cur, h1, h2, h3, h4, Nat.le_trans k.size h5, h6, h7, h8⟩
/-- a tree, and a node's number -/
def goodT (N : Nat → Nd) (n : Nat) (a : Int) : Bool := treeB N n && inB 0 ((n : Int) - 1) a
def numT (N : Nat → Nd) (n : Nat) (a : Int) : Int := if goodT N n a = true then 0 else 1100
def kidM (N : Nat → Nd) (n : Nat) (a : Int) : Nat := if goodT N n a = true then kidN N a n else 0
def depV (N : Nat → Nd) (n : Nat) (a : Int) : Int := if goodT N n a = true then depS N n a.toNat else 0
def KidsPost (w : World) (n : Nat) (N : Nat → Nd) (a : Int) (e : Ending) (w' : World) : Prop :=
  ∃ u, e = .returned (.tuple #[u, .int .i64 (numT N n a)]) ∧ NewOnes 3 w w' u (kidM N n a) (kidZ N a n) ∧ Kept w w'
theorem treeKids_any (v : Value) (n : Nat) (N : Nat → Nd) (D : Nat → Value) (a : Int) (w : World) (hv : NodesV w v n N D) (hn : n ≤ 4611686018427387904) (ht : NameT w) :
    Calls Tryd.prog 13 #[v, .int .i64 a] w (KidsPost w n N a) := by
  obtain ⟨sl, cap, rfl⟩ := hv.row.shape
  cases h1 : treeB N n with
  | false =>
    have Hs := Lib.hid (show goodT N n a = false by unfold goodT; rw [h1]; rfl)
    have HM := Lib.hid (fun wx (hk : Kept w wx) => treeMay_is _ n N D wx (hv.kept hk) hn (ht.kept hk) _ h1)
    clear hv
    have hk : Kept w w := Kept.refl w
    go_enter Tryd.func13, Tryd.ntmps13
    go_wp2_with fail
    refine (HM.out _ hk).mono ?_
    rintro e w1 ⟨rfl, hn⟩
    replace hk := hk.trans hn
    clear hn
    go_wp2
    go_ret2
    exact ⟨_, by unfold numT; rw [Hs.out]; rfl, .inl ⟨by unfold kidM; rw [Hs.out]; rfl, _, _, rfl, by decide⟩, hk⟩
  | true =>
    have HM := Lib.hid (fun wx (hk : Kept w wx) => treeMay_is _ n N D wx (hv.kept hk) hn (ht.kept hk) _ h1)
    obtain ⟨⟨n0, n1⟩, _⟩ := treeB_true.1 h1
    cases h2 : inB 0 ((n : Int) - 1) a with
    | false =>
      have Hs := Lib.hid (show goodT N n a = false by unfold goodT; rw [h1, h2]; rfl)
      clear hv
      have hk : Kept w w := Kept.refl w
      go_enter Tryd.func13, Tryd.ntmps13
      go_wp2_with fail
      refine (HM.out _ hk).mono ?_
      rintro e w1 ⟨rfl, hn⟩
      replace hk := hk.trans hn
      clear hn
      go_wp2_with fail
      refine with_boxes1 ?_
      intro X hX q
      have hsz := hk.size
      replace hk := hk.trans hX
      clear hX
      replace q_l := q.lt
      replace q_0 := q.at 0 _ rfl
      refine (each1_any _ _ _ _ _ q_0).mono ?_
      rintro e w1 ⟨rfl, rfl⟩
      go_wp2
      go_ret2
      exact ⟨_, by unfold numT; rw [Hs.out]; rfl, .inl ⟨by unfold kidM; rw [Hs.out]; rfl, _, _, rfl, by decide⟩, hk⟩
    | true =>
      have Hs := Lib.hid (show goodT N n a = true by unfold goodT; rw [h1, h2]; rfl)
      obtain ⟨b, off, rfl, hle, hr⟩ := hv.row.row (by omega)
      have HK := Lib.hid (fun wx (hk : Kept w wx) => nodeKids_any b off n cap N D a wx (hr.kept hk) (fun i hi => (hv.each i hi).decls.shape) n1)
      clear hv hr
      have hk : Kept w w := Kept.refl w
      go_enter Tryd.func13, Tryd.ntmps13
      go_wp2_with fail
      refine (HM.out _ hk).mono ?_
      rintro e w1 ⟨rfl, hn⟩
      replace hk := hk.trans hn
      clear hn
      go_wp2_with fail
      refine with_boxes1 ?_
      intro X hX q
      have hsz := hk.size
      replace hk := hk.trans hX
      clear hX
      replace q_l := q.lt
      replace q_0 := q.at 0 _ rfl
      refine (each1_any _ _ _ _ _ q_0).mono ?_
      rintro e w1 ⟨rfl, rfl⟩
      clear q
      clear q_l q_0
      go_wp2_with fail
      refine (HK.out _ hk).mono ?_
      rintro e w2 ⟨u, rfl, hu, hn2⟩
      replace hu := newOnes_earlier hu hk
      replace hk := hk.trans hn2
      go_wp2
      go_ret2
      exact ⟨_, by unfold numT; rw [Hs.out]; rfl, by unfold kidM; rw [Hs.out, if_pos rfl]; exact hu, hk⟩
theorem treeDepth_any (v : Value) (n : Nat) (N : Nat → Nd) (D : Nat → Value) (a : Int) (w : World) (hv : NodesV w v n N D) (hn : n ≤ 4611686018427387904) (ht : NameT w) :
    Calls Tryd.prog 15 #[v, .int .i64 a] w fun e w' => e = .returned (.tuple #[.int .i64 (depV N n a), .int .i64 (numT N n a)]) ∧ Kept w w' := by
  obtain ⟨sl, cap, rfl⟩ := hv.row.shape
  cases h1 : treeB N n with
  | false =>
    have Hs := Lib.hid (show goodT N n a = false by unfold goodT; rw [h1]; rfl)
    have HM := Lib.hid (fun wx (hk : Kept w wx) => treeMay_is _ n N D wx (hv.kept hk) hn (ht.kept hk) _ h1)
    clear hv
    have hk : Kept w w := Kept.refl w
    go_enter Tryd.func15, Tryd.ntmps15
    go_wp2_with fail
    refine (HM.out _ hk).mono ?_
    rintro e w1 ⟨rfl, hn⟩
    replace hk := hk.trans hn
    clear hn
    go_wp2
    go_ret2
    exact ⟨by unfold numT depV; rw [Hs.out]; rfl, hk⟩
  | true =>
    have HM := Lib.hid (fun wx (hk : Kept w wx) => treeMay_is _ n N D wx (hv.kept hk) hn (ht.kept hk) _ h1)
    obtain ⟨⟨n0, n1⟩, _, hroot, hlinks⟩ := treeB_true.1 h1
    cases h2 : inB 0 ((n : Int) - 1) a with
    | false =>
      have Hs := Lib.hid (show goodT N n a = false by unfold goodT; rw [h1, h2]; rfl)
      clear hv
      have hk : Kept w w := Kept.refl w
      go_enter Tryd.func15, Tryd.ntmps15
      go_wp2_with fail
      refine (HM.out _ hk).mono ?_
      rintro e w1 ⟨rfl, hn⟩
      replace hk := hk.trans hn
      clear hn
      go_wp2_with fail
      refine with_boxes1 ?_
      intro X hX q
      have hsz := hk.size
      replace hk := hk.trans hX
      clear hX
      replace q_l := q.lt
      replace q_0 := q.at 0 _ rfl
      refine (each1_any _ _ _ _ _ q_0).mono ?_
      rintro e w1 ⟨rfl, rfl⟩
      go_wp2
      go_ret2
      exact ⟨by unfold numT depV; rw [Hs.out]; rfl, hk⟩
    | true =>
      have Hs := Lib.hid (show goodT N n a = true by unfold goodT; rw [h1, h2]; rfl)
      obtain ⟨a0, a1⟩ := inB_true.1 h2
      obtain ⟨j0, rfl⟩ := Int.eq_ofNat_of_zero_le a0
      obtain ⟨b, off, rfl, hle, hr⟩ := hv.row.row (by omega)
      have HR := Lib.hid hr
      have HUP := Lib.hid (fun i (h0 : 0 < i) (hi : i < n) => depS_up hlinks h0 hi)
      have HPT := Lib.hid (fun i (h0 : 0 < i) (hi : i < n) => (linkB_parts (linksB_at hlinks i h0 hi)).1)
      have HDB := Lib.hid (depS_bd hlinks n (Nat.le_refl _))
      have HRT := Lib.hid (depS_root N (n := n) (by omega))
      clear hv hr hlinks hroot
      have hk : Kept w w := Kept.refl w
      go_enter Tryd.func15, Tryd.ntmps15
      go_wp2_with fail
      refine (HM.out _ hk).mono ?_
      rintro e w1 ⟨rfl, hn⟩
      replace hk := hk.trans hn
      clear hn
      go_wp2_with fail
      refine with_boxes1 ?_
      intro X hX q
      have hsz := hk.size
      replace hk := hk.trans hX
      clear hX
      replace q_l := q.lt
      replace q_0 := q.at 0 _ rfl
      refine (each1_any _ _ _ _ _ q_0).mono ?_
      rintro e w1 ⟨rfl, rfl⟩
      clear q
      clear q_l q_0
      obtain ⟨W0, hW0⟩ : ∃ z, z = X := ⟨_, rfl⟩
      rw [← hW0] at hk ⊢
      clear hW0
      have HK := Lib.hid hk
      have HD0 := Lib.hid (HDB.out j0)
      obtain ⟨T, hT⟩ : ∃ T, depS N n j0 = T := ⟨_, rfl⟩
      have HT := Lib.hid hT
      rw [hT] at HD0
      clear hT hk
      go_wp2
      go_loopw [1, 6] (fun x d wx => ∃ j : Nat, j < n ∧ x = .int .i64 j ∧ d = .int .i64 (T - depS N n j) ∧ wx = W0) (fun x _ _ => (intOf x).toNat)
      case atStart => exact ⟨j0, by omega, rfl, by rw [HT.out]; simp, by first | rfl | trivial⟩
      case round =>
        obtain ⟨j, hj, rfl, rfl, rfl⟩ := hrel
        rcases Nat.eq_zero_or_pos j with h0 | h0
        · subst h0
          rw [HRT.out, Int.sub_zero]
          go_wp2
          go_ret2
          exact ⟨by unfold numT depV; rw [Hs.out, if_pos rfl, if_pos rfl, ← HT.out]; rfl, HK.out⟩
        · have hi0 : (0 : Int) < (j : Int) := by omega
          have hi1 : (j : Int) < (n : Int) := by omega
          have c0 := (node_cells (HR.out.kept HK.out) hj).c0
          obtain ⟨p0, p1⟩ := HPT.out j h0 hj
          have hu := HUP.out j h0 hj
          have hd := HDB.out j
          have hdT := HD0.out
          obtain ⟨p, hp⟩ := Int.eq_ofNat_of_zero_le p0
          have hpj : p < j := by omega
          rw [hp] at hu c0
          rw [show ((p : Int)).toNat = p from rfl] at hu
          have HU := Lib.hid (show T - depS N n j + 1 = T - depS N n p by omega)
          clear hu hp p0 p1
          generalize depS N n j = dj at *
          go_wp2
          exact ⟨⟨p, by omega, rfl, by rw [HU.out], by first | rfl | trivial⟩, by first | (simp [intOf]; done) | (simp [intOf]; omega)⟩
end Go.Proofs.YtpblajjfgnhkdaaDoor
