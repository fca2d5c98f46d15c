/- Layer 19: any items: every call; they stay. -/
import Derived.Test.YtpjppnomfponfaaAwake19
import Derived.Test.YtpjppnomfponfaaCells
namespace Go.Proofs.Ytpjppnomfponfaa
open Go.RowKit Go.Deep
set_option linter.unusedSimpArgs false
set_option linter.unusedVariables false
set_option maxHeartbeats 2000000 in
theorem flexlines_main (v : Value) (n : Nat) (Z : Nat → Nat → Int) (room : Int) (wrap : Bool) (E : Int) (M : Nat) (Y : Nat → Int) (hE : colE n (itemOf Z) room = E) (hM : colM n (itemOf Z) room wrap = M) (hY : (linC (outS (itemOf Z)) room wrap n).Z = Y) (hMb : M ≤ 32)
    (w : World) (hv : RV 6 w v n (intC Z)) (hb : n ≤ 2932031007317) :
    Calls Try.prog 7 #[v, .int .i64 room, .bool wrap] w fun e w' => e = .returned (.bool true) ∧ Kept w w' := by
  obtain ⟨sl, cap, rfl⟩ := hv.shape
  have H1 := Lib.hid (fun wx x (hx : RV 6 wx x n (intC Z)) => (show Calls Try.prog 18 #[x, .int .i64 room, .bool wrap] wx (fun e w' => ∃ u, e = .returned (.tuple #[u, .int .i64 E]) ∧ NewOnes 3 wx w' u M Y ∧ Kept wx w') from by
    subst hE hM hY; exact flexCollect_any x n _ room wrap wx (itv_row hx) (by omega)))
  have H2 := Lib.hid (fun wx x (hx : RV 6 wx x n (intC Z)) => (show Calls Try.prog 19 #[x, .int .i64 room, .bool wrap] wx (fun e w' => ∃ u, e = .returned (.tuple #[u, .int .i64 E]) ∧ NewOnes 3 wx w' u M Y ∧ Kept wx w') from by
    subst hE hM hY; exact refCollect_any x n _ room wrap wx (itv_row hx) (by omega)))
  clear hE hM hY
  have hk : Kept w w := Kept.refl w
  go_enter Try.func7, Try.ntmps7
  go_wp2_with fail
  refine (lendItems_any sl n cap _ (intC_one Z) _ (hv.kept hk) hb).mono ?_
  rintro e w1 ⟨x, rfl, lx, hn⟩
  replace hk := hk.trans hn
  clear hn
  go_wp2_with fail
  obtain ⟨wq, rfl⟩ : ∃ wq : World, wq = w1 := ⟨_, rfl⟩
  have hkq : Kept wq wq := Kept.refl wq
  have lx0 := lx
  have hk0 := hk
  go_wp2_with fail
  refine (H1.out _ _ lx.rv).mono ?_
  rintro e w1 ⟨u, rfl, hu, hn⟩
  replace hk := hk.trans hn
  replace lx := lx.kept hn
  replace hkq := hkq.kept hn
  clear hn
  go_wp2_with fail
  refine (H2.out _ _ (hv.kept hk)).mono ?_
  rintro e w1 ⟨u2, rfl, hu2, hn⟩
  replace hk := hk.trans hn
  replace lx := lx.kept hn
  replace hkq := hkq.kept hn
  replace hu := hu.kept hn
  clear hn
  go_wp2_with fail
  refine (sameIV_yes hu.iv hu2.iv (by omega)).mono ?_
  rintro e w1 ⟨rfl, hn⟩
  replace hk := hk.trans hn
  replace lx := lx.kept hn
  replace hkq := hkq.kept hn
  replace hu := hu.kept hn
  replace hu2 := hu2.kept hn
  clear hn
  go_wp2_with fail
  refine (num_any _ _).mono ?_
  rintro e w1 ⟨rfl, rfl⟩
  go_wp2_with fail
  refine (flexMay_any _ n _ _ (itv_row lx.rv) (by omega)).mono ?_
  rintro e w1 ⟨rfl, hn⟩
  replace hk := hk.trans hn
  replace lx := lx.kept hn
  replace hkq := hkq.kept hn
  replace hu := hu.kept hn
  replace hu2 := hu2.kept hn
  clear hn
  go_wp2_with fail
  refine (refItemsMay_any _ n _ _ (itv_row (hv.kept hk)) (by omega)).mono ?_
  rintro e w1 ⟨rfl, hn⟩
  replace hk := hk.trans hn
  replace lx := lx.kept hn
  replace hkq := hkq.kept hn
  replace hu := hu.kept hn
  replace hu2 := hu2.kept hn
  clear hn
  go_wp2_with fail
  refine (spoilInts_any hkq (by omega) hu).mono ?_
  rintro e w9 ⟨rfl, hn⟩
  replace hk := hk0.trans hn
  replace lx := lx0.kept hn
  clear lx0 hk0 hu hu2 hkq
  go_wp2_with fail
  refine (keptItems_yes lx (hv.kept hk) hb).mono ?_
  rintro e w10 ⟨rfl, hn⟩
  replace hk := hk.trans hn
  go_wp2_with fail
  refine (awake19_any _).mono ?_
  rintro e w11 ⟨rfl, hn⟩
  replace hk := hk.trans hn
  go_wp2
  go_ret
  exact ⟨rfl, hk⟩
theorem colM_le (n : Nat) (I : Nat → Item) (room : Int) (wrap : Bool) : colM n I room wrap ≤ 32 := by
  unfold colM
  split
  · rename_i h
    have h1 := (linC_m (outS I) room wrap n).1
    have h2 := (mayI_true.1 (goodC_true.1 h).1).1
    omega
  · decide
theorem flexlines_walk (v : Value) (n : Nat) (Z : Nat → Nat → Int) (room : Int) (wrap : Bool) (w : World) (hv : RV 6 w v n (intC Z)) (hb : n ≤ 2932031007317) (_hz : ∀ i j, inInt (Z i j)) :
    Calls Try.prog 7 #[v, .int .i64 room, .bool wrap] w fun e w' => e = .returned (.bool true) ∧ Kept w w' :=
  flexlines_main v n Z room wrap _ _ _ rfl rfl rfl (colM_le _ _ _ _) w hv hb
end Go.Proofs.Ytpjppnomfponfaa
