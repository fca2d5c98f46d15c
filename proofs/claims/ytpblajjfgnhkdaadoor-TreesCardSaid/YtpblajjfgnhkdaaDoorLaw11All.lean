/- Layer 11: any nodes, any number: every call; they stay. -/
import Derived.Test.YtpblajjfgnhkdaaDoorAwake11
import Derived.Test.YtpblajjfgnhkdaaDoorSameNodes
namespace Go.Proofs.YtpblajjfgnhkdaaDoor
open Go.RowKit Go.Deep
set_option linter.unusedSimpArgs false
set_option linter.unusedVariables false
set_option maxRecDepth 20000 in
set_option maxHeartbeats 4000000 in
theorem trees_main (sl : Option Addr) (n cap : Nat) (N : Nat → Nd) (D : Nat → Value) (a : Int) (E d : Int) (M : Nat) (Y : Nat → Int) (tb : Bool) (hE : numT N n a = E) (hd : depV N n a = d) (hM : kidM N n a = M) (hY : kidZ N a n = Y) (htb : treeB N n = tb) (hMb : M ≤ 32)
    (w : World) (hv : NodesV w (.slice sl n cap) n N D) (hb : n ≤ 1954687338268) (ht : NameT w) :
    Calls Tryd.prog 3 #[.slice sl n cap, .int .i64 a] w fun e w' => e = .returned (.bool true) ∧ Kept w w' := by
  have H1 := Lib.hid (fun wx x D' (hx : NodesV wx x n N D') (hz : NameT wx) => (show Calls Tryd.prog 13 #[x, .int .i64 a] wx (fun e w' => ∃ u, e = .returned (.tuple #[u, .int .i64 E]) ∧ NewOnes 3 wx w' u M Y ∧ Kept wx w') from by
    subst hE hM hY; exact treeKids_any x n N D' a wx hx (by omega) hz))
  have H2 := Lib.hid (fun wx x D' (hx : NodesV wx x n N D') => (show Calls Tryd.prog 14 #[x, .int .i64 a] wx (fun e w' => ∃ u, e = .returned (.tuple #[u, .int .i64 E]) ∧ NewOnes 3 wx w' u M Y ∧ Kept wx w') from by
    subst hE hM hY; exact refKids_any x n N D' a wx hx (by omega)))
  have H3 := Lib.hid (fun wx x D' (hx : NodesV wx x n N D') (hz : NameT wx) => (show Calls Tryd.prog 15 #[x, .int .i64 a] wx (fun e w' => e = .returned (.tuple #[.int .i64 d, .int .i64 E]) ∧ Kept wx w') from by
    subst hE hd; exact treeDepth_any x n N D' a wx hx (by omega) hz))
  have H4 := Lib.hid (fun wx x D' (hx : NodesV wx x n N D') => (show Calls Tryd.prog 16 #[x, .int .i64 a] wx (fun e w' => e = .returned (.tuple #[.int .i64 d, .int .i64 E]) ∧ Kept wx w') from by
    subst hE hd; exact refDepth_any x n N D' a wx hx (by omega)))
  have H5 := Lib.hid (fun wx x D' (hx : NodesV wx x n N D') (hz : NameT wx) => (show Calls Tryd.prog 19 #[x] wx (fun e w' => e = .returned (.bool tb) ∧ Kept wx w') from by
    subst htb; exact treeMay_any x n N D' wx hx (by omega) hz))
  have H6 := Lib.hid (fun wx x D' (hx : NodesV wx x n N D') => (show Calls Tryd.prog 20 #[x] wx (fun e w' => e = .returned (.bool tb) ∧ Kept wx w') from by
    subst htb; exact refTree_any x n N D' wx hx (by omega)))
  clear hE hd hM hY htb
  have hk : Kept w w := Kept.refl w
  go_enter Tryd.func3, Tryd.ntmps3
  go_wp2_with fail
  refine (copyNodes_main sl n cap N D w hv hb).mono ?_
  rintro e w1 ⟨x, D', rfl, ho, hn⟩
  replace hk := hk.trans hn
  have lx := ho.view hv.each
  obtain ⟨sx, cx, rfl⟩ := lx.row.shape
  clear hn ho
  go_wp2_with fail
  obtain ⟨wq, rfl⟩ : ∃ wq : World, wq = w1 := ⟨_, rfl⟩
  have hkq : Kept wq wq := Kept.refl wq
  have lx0 := lx
  have hk0 := hk
  go_wp2_with fail
  refine (H1.out _ _ _ lx (ht.kept hk)).mono ?_
  rintro e w1 ⟨u, rfl, hu, hn⟩
  replace hk := hk.trans hn
  replace hkq := hkq.kept hn
  replace lx := lx.kept hn
  clear hn
  go_wp2_with fail
  refine (H2.out _ _ _ (hv.kept hk)).mono ?_
  rintro e w1 ⟨u2, rfl, hu2, hn⟩
  replace hk := hk.trans hn
  replace hkq := hkq.kept hn
  replace lx := lx.kept hn
  replace hu := hu.kept hn
  clear hn
  go_wp2_with fail
  refine (H3.out _ _ _ lx (ht.kept hk)).mono ?_
  rintro e w1 ⟨rfl, hn⟩
  replace hk := hk.trans hn
  replace hkq := hkq.kept hn
  replace lx := lx.kept hn
  replace hu := hu.kept hn
  replace hu2 := hu2.kept hn
  clear hn
  go_wp2_with fail
  refine (H4.out _ _ _ (hv.kept hk)).mono ?_
  rintro e w1 ⟨rfl, hn⟩
  replace hk := hk.trans hn
  replace hkq := hkq.kept hn
  replace lx := lx.kept hn
  replace hu := hu.kept hn
  replace hu2 := hu2.kept hn
  clear hn
  go_wp2_with fail
  refine (sameIV_yes hu.iv hu2.iv (by omega)).mono ?_
  rintro e w1 ⟨rfl, hn⟩
  replace hk := hk.trans hn
  replace hkq := hkq.kept hn
  replace lx := lx.kept hn
  replace hu := hu.kept hn
  replace hu2 := hu2.kept hn
  clear hn
  go_wp2_with fail
  refine (num_any _ _).mono ?_
  rintro e w1 ⟨rfl, rfl⟩
  go_wp2_with fail
  refine (num_any _ _).mono ?_
  rintro e w1 ⟨rfl, rfl⟩
  go_wp2_with fail
  refine (H5.out _ _ _ lx (ht.kept hk)).mono ?_
  rintro e w1 ⟨rfl, hn⟩
  replace hk := hk.trans hn
  replace hkq := hkq.kept hn
  replace lx := lx.kept hn
  replace hu := hu.kept hn
  replace hu2 := hu2.kept hn
  clear hn
  go_wp2_with fail
  refine (H6.out _ _ _ (hv.kept hk)).mono ?_
  rintro e w1 ⟨rfl, hn⟩
  replace hk := hk.trans hn
  replace hkq := hkq.kept hn
  replace lx := lx.kept hn
  replace hu := hu.kept hn
  replace hu2 := hu2.kept hn
  clear hn
  go_wp2_with fail
  refine (spoilInts_any hkq (by omega) hu).mono ?_
  rintro e w9 ⟨rfl, hn⟩
  replace hk := hk0.trans hn
  replace lx := lx0.kept hn
  clear lx0 hk0 hu hu2 hkq
  go_wp2_with fail
  refine (sameNodes_yes _ _ n _ _ N D' D _ lx (hv.kept hk) (by omega)).mono ?_
  rintro e w10 ⟨rfl, hn⟩
  replace hk := hk.trans hn
  go_wp2_with fail
  refine (awake11_any _ (ht.kept hk)).mono ?_
  rintro e w11 ⟨rfl, hn⟩
  replace hk := hk.trans hn
  go_wp2
  go_ret
  exact ⟨rfl, hk⟩
theorem trees_walk (v : Value) (n : Nat) (N : Nat → Nd) (D : Nat → Value) (a : Int) (w : World) (hv : NodesV w v n N D) (hb : n ≤ 1954687338268) (ht : NameT w) :
    Calls Tryd.prog 3 #[v, .int .i64 a] w fun e w' => e = .returned (.bool true) ∧ Kept w w' := by
  obtain ⟨sl, cap, rfl⟩ := hv.row.shape
  refine trees_main sl n cap N D a _ _ _ _ _ rfl rfl rfl rfl rfl ?_ w hv hb ht
  unfold kidM
  split
  · rename_i h
    unfold goodT at h
    simp only [Bool.and_eq_true] at h
    have := (treeB_true.1 h.1).1
    have := kidN_le N a n
    omega
  · decide
end Go.Proofs.YtpblajjfgnhkdaaDoor
