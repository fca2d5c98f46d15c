/- Layer 11: of a tree each beginning is one; kids there are those that are left. -/
import Derived.Test.YtpblajjfgnhkdaaDoorKidS
import Derived.Test.YtpblajjfgnhkdaaDoorMask
import Derived.BigRegion
import Derived.Deep.QuietTactic
import Derived.BigQuiet
namespace Go.Proofs.YtpblajjfgnhkdaaDoor
open Go.RowKit Go.Deep
set_option linter.unusedSimpArgs false
set_option linter.unusedVariables false
theorem wrap64_small (x : Int) (h0 : 0 ≤ x) (h1 : x ≤ 32) : wrap64 x = x := by unfold wrap64; omega
theorem iv_cell11 {w : World} {o : Option Addr} {n cap : Nat} {Z : Nat → Int} (h : IV w (.slice o n cap) n Z) (hn : 0 < n) : ∃ b off, o = some ⟨b, off, none⟩ ∧ ∀ i, i < n → w.cell? ⟨b, off + i, none⟩ = some (.int .i64 (Z i)) := by
  rcases h with ⟨h0, _⟩ | ⟨b, off, c, hv, _, h3, h4⟩
  · omega
  · injection hv with e1 e2 e3
    subst e1
    exact ⟨b, off, rfl, h4⟩
set_option maxRecDepth 20000 in
set_option maxHeartbeats 800000 in
theorem treeCut_main (sl : Option Addr) (n cap : Nat) (N : Nat → Nd) (D : Nat → Value) (cut at_ : Int) (w : World) (hv : NodesV w (.slice sl n cap) n N D) (hb : n ≤ 1954687338268) (ht : NameT w) :
    Calls Tryd.prog 7 #[.slice sl n cap, .int .i64 cut, .int .i64 at_] w fun e w' => e = .returned (.bool true) ∧ Kept w w' := by
  cases htb : treeB N n with
  | false =>
    have HM := Lib.hid (fun wx (hk : Kept w wx) => treeMay_is _ n N D wx (hv.kept hk) (by omega) (ht.kept hk) false htb)
    clear hv htb
    have hk : Kept w w := Kept.refl w
    go_enter Tryd.func7, Tryd.ntmps7
    go_wp2_with fail
    refine (awake11_any _ (ht.kept hk)).mono ?_
    rintro e w1 ⟨rfl, hn⟩
    replace hk := hk.trans hn
    clear hn
    go_wp2_with fail
    refine (HM.out _ hk).mono ?_
    rintro e w1 ⟨rfl, hn⟩
    replace hk := hk.trans hn
    clear hn
    go_wp2
    go_ret
    exact ⟨rfl, hk⟩
  | true =>
    have HM := Lib.hid (fun wx (hk : Kept w wx) => treeMay_is _ n N D wx (hv.kept hk) (by omega) (ht.kept hk) true htb)
    obtain ⟨⟨n1, n32⟩, _⟩ := treeB_true.1 htb
    obtain ⟨b, off, rfl, hle, hrow⟩ := hv.row.row (by omega)
    have hi1 : ¬ (n : Int) < 1 := by omega
    have hn0 : (0 : Int) < (n : Int) := by omega
    obtain ⟨q, hq, q0, q1⟩ := urest2 cut (n : Int) (by omega)
    obtain ⟨p, rfl⟩ := Int.eq_ofNat_of_zero_le q0
    have hpn : p < n := by omega
    obtain ⟨r, hr, r0, r1⟩ := urest2 at_ (1 + (p : Int)) (by omega)
    obtain ⟨i, rfl⟩ := Int.eq_ofNat_of_zero_le r0
    have hwn : IntKind.u64.wrap (n : Int) = (n : Int) := by rw [IntKind.wrap_u64]; omega
    have hwp : IntKind.u64.wrap (1 + (p : Int)) = 1 + (p : Int) := by rw [IntKind.wrap_u64]; omega
    obtain ⟨k, hk0⟩ : ∃ k : Nat, k = p + 1 := ⟨_, rfl⟩
    have hik : i < k := by omega
    have hkn : k ≤ n := by omega
    have hke : (1 : Int) + (p : Int) = (k : Int) := by omega
    have hv2 : NodesV w (.slice (some ⟨b, off, none⟩) k cap) k N D := hv.less hkn
    have hc0 : (0 : Int) ≤ (k : Int) := Int.natCast_nonneg _
    have hc1 : (k : Int) ≤ (cap : Int) := by omega
    have HK1 := Lib.hid (fun wx (hk : Kept w wx) => treeKids_yes _ n N D (i : Int) wx (hv.kept hk) (by omega) (ht.kept hk) (good_of htb (by omega)) _ rfl)
    have HK2 := Lib.hid (fun wx (hk : Kept w wx) => treeKids_yes _ k N D (i : Int) wx (hv2.kept hk) (by omega) (ht.kept hk) (good_of (tree_less htb (by omega) hkn) hik) _ rfl)
    have HM2 := Lib.hid (fun wx (hk : Kept w wx) => treeMay_is _ k N D wx (hv2.kept hk) (by omega) (ht.kept hk) true (tree_less htb (by omega) hkn))
    have hAB : kidN N (i : Int) k ≤ kidN N (i : Int) n := kidN_mono N _ hkn
    have hA32 := kidN_le N (i : Int) n
    have HZ1 := Lib.hid (fun j (hj : j < kidN N (i : Int) k) => (show kidZ N (i : Int) n j = kidZ N (i : Int) k j ∧ kidZ N (i : Int) k j < (k : Int) from ⟨kidZ_less hkn hj, (kidZ_low hj).2⟩))
    have HZ2 := Lib.hid (fun j (h1 : kidN N (i : Int) k ≤ j) (h2 : j < kidN N (i : Int) n) => (kidZ_high h1 h2).1)
    clear hv hv2 htb hrow
    rw [hke] at hwp hr r1
    generalize kidN N (i : Int) n = A at *
    generalize kidN N (i : Int) k = B at *
    generalize kidZ N (i : Int) n = ZA at *
    generalize kidZ N (i : Int) k = ZB at *
    have HBD := Lib.hid (show B ≤ A ∧ A ≤ 32 ∧ i < k ∧ k ≤ n ∧ n ≤ 32 from ⟨hAB, by omega, hik, hkn, n32⟩)
    have hp0 : (0 : Int) ≤ (p : Int) := Int.natCast_nonneg _
    have hpb : (p : Int) ≤ 31 := by omega
    have hcz : (k : Int) ≤ 32 := by omega
    have hib : (i : Int) ≤ 32 := Int.le_trans (Int.ofNat_le.2 (Nat.le_of_lt (Nat.lt_of_lt_of_le hik hkn))) (Int.ofNat_le.2 n32)
    have hib0 : (0 : Int) ≤ (i : Int) := Int.natCast_nonneg _
    have hwi : wrap64 (i : Int) = (i : Int) := wrap64_small _ hib0 hib
    clear hAB hA32 hik hkn n32 n1 hpn hk0 q0 q1 r0 r1 hle hb
    have hk : Kept w w := Kept.refl w
    go_enter Tryd.func7, Tryd.ntmps7
    go_wp2_with fail
    refine (awake11_any _ (ht.kept hk)).mono ?_
    rintro e w1 ⟨rfl, hn⟩
    replace hk := hk.trans hn
    clear hn
    go_wp2_with fail
    refine (HM.out _ hk).mono ?_
    rintro e w1 ⟨rfl, hn⟩
    replace hk := hk.trans hn
    clear hn
    go_upto_region 7 with fail
    go_wp2_with fail
    refine (HK1.out _ hk).mono ?_
    rintro e w2 ⟨u, rfl, hu, hn⟩
    replace hk := hk.trans hn
    obtain ⟨ou, cu, rfl⟩ := hu.iv.shape
    clear hn
    go_wp2_with fail
    refine (HK2.out _ hk).mono ?_
    rintro e w3 ⟨u2, rfl, hu2, hn⟩
    replace hk := hk.trans hn
    replace hu := hu.kept hn
    obtain ⟨ou2, cu2, rfl⟩ := hu2.iv.shape
    clear hn
    have hAB : ¬ (A : Int) < (B : Int) := by have := HBD.out; omega
    go_wp2_with (first
      | (go_at_call 18; (with_reducible refine (num_any _ _).mono ?_); rintro e w4 ⟨rfl, rfl⟩)
      | (go_at_call 19; (refine (HM2.out _ hk).mono ?_); rintro e w4 ⟨rfl, hn⟩; replace hk := hk.trans hn; replace hu := hu.kept hn; replace hu2 := hu2.kept hn; clear hn))
    obtain ⟨W0, hW0⟩ : ∃ z, z = w4 := ⟨_, rfl⟩
    rw [← hW0] at hk hu hu2 ⊢
    clear hW0
    have HK := Lib.hid hk
    have HU := Lib.hid hu.iv
    have HU2 := Lib.hid hu2.iv
    clear hk hu hu2 hq hr hwn hwp hi1
    go_loopw [13] (fun i wx => ∃ j : Nat, j ≤ A ∧ i = .int .i64 j ∧ Kept W0 wx) (fun i _ => A - (intOf i).toNat)
    case atStart => exact ⟨0, Nat.zero_le _, rfl, Kept.refl _⟩
    case round =>
      obtain ⟨j, hjA, rfl, kX⟩ := hrel
      have hA9 : (A : Int) ≤ 32 := by have := HBD.out; omega
      by_cases hlt : j < A
      · have hi2 : (j : Int) < (A : Int) := by omega
        have hi0 : (0 : Int) ≤ (j : Int) := Int.natCast_nonneg _
        obtain ⟨ba, oa, rfl, hca⟩ := iv_cell11 (HU.out.kept kX) (by omega)
        have a0 := hca j hlt
        clear hca
        by_cases hB : j < B
        · have hi3 : (j : Int) < (B : Int) := by omega
          have hi4 : ¬ (B : Int) ≤ (j : Int) := by omega
          obtain ⟨bb, ob, rfl, hcb⟩ := iv_cell11 (HU2.out.kept kX) (by omega)
          have b0 := hcb j hB
          obtain ⟨z1, z2⟩ := HZ1.out j hB
          rw [z1] at a0
          have hi5 : decide ((k : Int) ≤ ZB j) = false := decide_eq_false (by omega)
          have hi6 : decide ((B : Int) ≤ (j : Int)) = false := decide_eq_false hi4
          clear hcb z1 z2
          generalize ZB j = z at *
          go_upto_region 14 with fail
          go_quiet (fail)
          go_wp2
          exact ⟨⟨j + 1, by omega, by first | rfl | go_num, kX.drewN _⟩, by first | (simp [intOf]; done) | (simp [intOf]; omega)⟩
        · have hi3 : ¬ (j : Int) < (B : Int) := by omega
          have hi4 : (B : Int) ≤ (j : Int) := by omega
          have hz := HZ2.out j (by omega) hlt
          have hi5 : decide (ZA j < (k : Int)) = false := decide_eq_false (by omega)
          have hi6 : decide ((j : Int) < (B : Int)) = false := decide_eq_false hi3
          clear hz
          generalize ZA j = z at *
          go_upto_region 14 with fail
          go_quiet (fail)
          go_wp2
          exact ⟨⟨j + 1, by omega, by first | rfl | go_num, kX.drewN _⟩, by first | (simp [intOf]; done) | (simp [intOf]; omega)⟩
      · obtain rfl : j = A := by omega
        go_wp2
        go_ret
        exact ⟨rfl, HK.out.trans kX⟩
theorem treeCut_walk (v : Value) (n : Nat) (N : Nat → Nd) (D : Nat → Value) (cut at_ : Int) (w : World) (hv : NodesV w v n N D) (hb : n ≤ 1954687338268) (ht : NameT w) :
    Calls Tryd.prog 7 #[v, .int .i64 cut, .int .i64 at_] w fun e w' => e = .returned (.bool true) ∧ Kept w w' := by
  obtain ⟨sl, cap, rfl⟩ := hv.row.shape
  exact treeCut_main sl n cap N D cut at_ w hv hb ht
end Go.Proofs.YtpblajjfgnhkdaaDoor
