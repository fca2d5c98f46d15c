/- Layer 20: any items: every call; they stay. -/
import Derived.Test.YticnfoppdgeioaaRefResolve
import Derived.Test.YticnfoppdgeioaaAwake20
import Derived.Test.YticnfoppdgeioaaRowItems
import Derived.Test.YticnfoppdgeioaaCells
namespace Go.Proofs.Yticnfoppdgeioaa
open Go.RowKit Go.Deep
set_option linter.unusedSimpArgs false
set_option linter.unusedVariables false
theorem Made.ones {t : TypeId} {a w : World} {v : Value} {n : Nat} {Z : Nat → Int} (h : Made t a w v n (intZ Z)) (hn : n ≤ 32) : NewOnes t a w v n Z := by
  obtain ⟨b, cs, rfl, h2, h3, h4, h5⟩ := h
  rcases Nat.eq_zero_or_pos n with rfl | hp
  · exact .inl ⟨rfl, _, _, rfl, by decide⟩
  · exact .inr ⟨b, n, cs, rfl, hp, Nat.le_refl _, by unfold maxLen; omega, h2, h3, h4, h5⟩
/-- sizes, or none -/
theorem flexPost_ones {w w' : World} {n : Nat} {I : Nat → Item} {room : Int} {e : Ending} (h : FlexPost w n I room e w') :
    ∃ u, e = .returned (.tuple #[u, .int .i64 (if goodF n I room = true then 0 else 2000)]) ∧ NewOnes 3 w w' u (if goodF n I room = true then n else 0) (resS I room n) ∧ Kept w w' := by
  obtain ⟨u, E, he, hk, hu⟩ := h
  rcases hu with ⟨h1, rfl, hu⟩ | ⟨h1, rfl, rfl⟩
  · rw [if_pos h1, if_pos h1]
    refine ⟨u, he, hu.ones ?_, hk⟩
    unfold goodF at h1
    simp only [Bool.and_eq_true] at h1
    exact (mayI_true.1 h1.1).1
  · rw [if_neg (by rw [h1]; decide), if_neg (by rw [h1]; decide)]
    exact ⟨_, he, .inl ⟨rfl, _, _, rfl, by decide⟩, hk⟩
set_option maxHeartbeats 2000000 in
theorem flexibles_main (v : Value) (n : Nat) (Z : Nat → Nat → Int) (room : Int) (E : Int) (M : Nat) (Y : Nat → Int) (hE : (if goodF n (itemOf Z) room = true then 0 else 2000) = E) (hM : (if goodF n (itemOf Z) room = true then n else 0) = M) (hY : resS (itemOf Z) room n = Y) (hMb : M ≤ 32)
    (w : World) (hv : RV 6 w v n (intC Z)) (hb : n ≤ 2932031007317) :
    Calls Try.prog 3 #[v, .int .i64 room] w fun e w' => e = .returned (.bool true) ∧ Kept w w' := by
  obtain ⟨sl, cap, rfl⟩ := hv.shape
  have H1 := Lib.hid (fun wx x (hx : RV 6 wx x n (intC Z)) => (show Calls Try.prog 11 #[x, .int .i64 room] wx (fun e w' => ∃ u, e = .returned (.tuple #[u, .int .i64 E]) ∧ NewOnes 3 wx w' u M Y ∧ Kept wx w') from by
    subst hE hM hY; exact (flexible_any x n _ room wx (itv_row hx) (by omega)).mono fun e w' h => flexPost_ones h))
  have H2 := Lib.hid (fun wx x (hx : RV 6 wx x n (intC Z)) => (show Calls Try.prog 12 #[x, .int .i64 room] wx (fun e w' => ∃ u, e = .returned (.tuple #[u, .int .i64 E]) ∧ NewOnes 3 wx w' u M Y ∧ Kept wx w') from by
    subst hE hM hY; exact (refResolve_any x n _ room wx (itv_row hx) (by omega)).mono fun e w' h => flexPost_ones h))
  clear hE hM hY
  have hk : Kept w w := Kept.refl w
  go_enter Try.func3, Try.ntmps3
  go_wp2_with fail
  refine (lendItems_any sl n cap _ (intC_one Z) _ (hv.kept hk) hb).mono ?_
  rintro e w1 ⟨x, rfl, lx, hn⟩
  replace hk := hk.trans hn
  clear hn
  go_wp2_with fail
  obtain ⟨wq, rfl⟩ : ∃ wq : World, wq = w1 := ⟨_, rfl⟩
  have hkq : Kept wq wq := Kept.refl wq
  have lx0 := lx
  have hk0 := hk
  go_wp2_with fail
  refine (H1.out _ _ lx.rv).mono ?_
  rintro e w1 ⟨u, rfl, hu, hn⟩
  replace hk := hk.trans hn
  replace lx := lx.kept hn
  replace hkq := hkq.kept hn
  clear hn
  go_wp2_with fail
  refine (H2.out _ _ (hv.kept hk)).mono ?_
  rintro e w1 ⟨u2, rfl, hu2, hn⟩
  replace hk := hk.trans hn
  replace lx := lx.kept hn
  replace hkq := hkq.kept hn
  replace hu := hu.kept hn
  clear hn
  go_wp2_with fail
  refine (sameIV_yes hu.iv hu2.iv (by omega)).mono ?_
  rintro e w1 ⟨rfl, hn⟩
  replace hk := hk.trans hn
  replace lx := lx.kept hn
  replace hkq := hkq.kept hn
  replace hu := hu.kept hn
  replace hu2 := hu2.kept hn
  clear hn
  go_wp2_with fail
  refine (num_any _ _).mono ?_
  rintro e w1 ⟨rfl, rfl⟩
  go_wp2_with fail
  refine (spoilInts_any hkq (by omega) hu).mono ?_
  rintro e w9 ⟨rfl, hn⟩
  replace hk := hk0.trans hn
  replace lx := lx0.kept hn
  clear lx0 hk0 hu hu2 hkq
  go_wp2_with fail
  refine (keptItems_yes lx (hv.kept hk) hb).mono ?_
  rintro e w10 ⟨rfl, hn⟩
  replace hk := hk.trans hn
  go_wp2_with fail
  refine (awake20_any _).mono ?_
  rintro e w11 ⟨rfl, hn⟩
  replace hk := hk.trans hn
  go_wp2
  go_ret
  exact ⟨rfl, hk⟩
theorem flexibles_walk (v : Value) (n : Nat) (Z : Nat → Nat → Int) (room : Int) (w : World) (hv : RV 6 w v n (intC Z)) (hb : n ≤ 2932031007317) (_hz : ∀ i j, inInt (Z i j)) :
    Calls Try.prog 3 #[v, .int .i64 room] w fun e w' => e = .returned (.bool true) ∧ Kept w w' := by
  refine flexibles_main v n Z room _ _ _ rfl rfl rfl ?_ w hv hb
  split
  · rename_i h
    unfold goodF at h
    simp only [Bool.and_eq_true] at h
    exact (mayI_true.1 h.1).1
  · decide
end Go.Proofs.Yticnfoppdgeioaa
