/- Layer 18: any words, exclusions, numbers: every Flow; they stay. -/
import Derived.Test.YtkdidhhilcamkaaAwake18
import Derived.Test.YtkdidhhilcamkaaRefFlow2
import Derived.Test.YtkdidhhilcamkaaRefBand
import Derived.Test.YtkdidhhilcamkaaSame
import Derived.Test.YtkdidhhilcamkaaCells
namespace Go.Proofs.Ytkdidhhilcamkaa
open Go.RowKit Go.Deep
set_option linter.unusedSimpArgs false
set_option linter.unusedVariables false
/-- the lines come to an end -/
theorem Flw.ends (F : Flw) : ∃ l, (F.at l).1 = F.m := by
  have key : ∀ d, (∃ l, (F.at l).1 = F.m) ∨ (d ≤ (F.at d).1 ∧ (F.at d).1 < F.m) := by
    intro d
    induction d with
    | zero =>
      rcases Nat.eq_zero_or_pos F.m with h | h
      · exact .inl ⟨0, h.symm⟩
      · exact .inr ⟨Nat.zero_le _, h⟩
    | succ d ih =>
      rcases ih with h | ⟨h1, h2⟩
      · exact .inl h
      · have h3 := F.next_le h2
        have h4 := F.less d
        rcases Nat.lt_or_ge (F.at (d + 1)).1 F.m with h5 | h5
        · exact .inr ⟨by omega, h5⟩
        · exact .inl ⟨d + 1, by omega⟩
  rcases key F.m with h | ⟨h1, h2⟩
  · exact h
  · omega
theorem flowN_80 (F : Flw) : flowN F ≤ 80 := flowN_le F F.ends
set_option maxRecDepth 20000 in
set_option maxHeartbeats 4000000 in
theorem flows_main (v : Value) (m : Nat) (S : Nat → ByteArray) (A G : Nat → Int) (how : Int) (v2 : Value) (n : Nat) (Z : Nat → Nat → Int) (room y : Int) (w : World) (hv : WV w v m S A G) (hb : m ≤ 4398046510976) (hv2 : RV 5 w v2 n (intC Z)) (hb2 : n ≤ 3518437208780) :
    Calls Try.prog 8 #[v, .int .i64 how, v2, .int .i64 room, .int .i64 y] w fun e w' => e = .returned (.bool true) ∧ Kept w w' := by
  obtain ⟨sl, cap, rfl⟩ := hv.shape
  obtain ⟨sl2, cap2, rfl⟩ := hv2.shape
  have H1 := Lib.hid (fun wx u u2 (hu : WV wx u m S A G) (hu2 : RV 5 wx u2 n (intC Z)) => flowFlow_any u m S A G how u2 n Z room y wx hu hu2 (by omega))
  have H2 := Lib.hid (fun wx u u2 (hu : WV wx u m S A G) (hu2 : RV 5 wx u2 n (intC Z)) => refFlow_any u m S A G how u2 n Z room y wx hu hu2 hb (by omega))
  have hN := flowN_80 ⟨excOf Z, n, room, A, m, how, y⟩
  unfold FlowAll at H1 H2
  generalize flowN ⟨excOf Z, n, room, A, m, how, y⟩ = N at *
  generalize flowY ⟨excOf Z, n, room, A, m, how, y⟩ = Y at *
  generalize flowE ⟨excOf Z, n, room, A, m, how, y⟩ = E at *
  generalize Flw.Z ⟨excOf Z, n, room, A, m, how, y⟩ = R at *
  have hk : Kept w w := Kept.refl w
  go_enter Try.func8, Try.ntmps8
  go_wp2_with fail
  refine (lendWords_any sl m cap S A G _ (hv.kept hk) hb).mono ?_
  rintro e w1 ⟨x, rfl, lx, hn⟩
  replace hk := hk.trans hn
  clear hn
  go_wp2_with fail
  refine (lendExclusions_any sl2 n cap2 _ (intC_one Z) _ (hv2.kept hk) hb2).mono ?_
  rintro e w1 ⟨u, rfl, lu, hn⟩
  replace hk := hk.trans hn
  replace lx := lx.kept hn
  clear hn
  go_wp2_with fail
  obtain ⟨wq, hwq⟩ : ∃ wq : World, wq = w1 := ⟨_, rfl⟩
  have hkq : Kept wq w1 := hwq ▸ Kept.refl w1
  have hk0 : Kept w wq := hwq ▸ hk
  have lx0 : Lent w wq x m S A G := hwq ▸ lx
  have lu0 := hwq ▸ lu
  go_wp2_with fail
  refine (H1.out _ _ _ lx.wv lu.rv).mono ?_
  rintro e w1 ⟨u1, rfl, hu1, hn⟩
  replace hk := hk.trans hn
  replace lx := lx.kept hn
  replace lu := lu.kept hn
  replace hkq := hkq.kept hn
  clear hn
  go_wp2_with fail
  refine (H2.out _ _ _ (hv.kept hk) (hv2.kept hk)).mono ?_
  rintro e w1 ⟨u2, rfl, hu2, hn⟩
  replace hk := hk.trans hn
  replace lx := lx.kept hn
  replace lu := lu.kept hn
  replace hkq := hkq.kept hn
  replace hu1 := hu1.kept hn
  clear hn
  go_wp2_with fail
  refine (sameRects_yes hu1.rv hu2.rv (by omega)).mono ?_
  rintro e w1 ⟨rfl, hn⟩
  replace hk := hk.trans hn
  replace lx := lx.kept hn
  replace lu := lu.kept hn
  replace hkq := hkq.kept hn
  replace hu1 := hu1.kept hn
  replace hu2 := hu2.kept hn
  clear hn
  go_wp2_with fail
  refine (num_any _ _).mono ?_
  rintro e w1 ⟨rfl, rfl⟩
  rw [← hwq] at hu1
  go_wp2_with fail
  refine (spoilRects_any hkq (by omega) hu1).mono ?_
  rintro e w9 ⟨rfl, hn⟩
  replace hk := hk0.trans hn
  replace lx := lx0.kept hn
  replace lu := lu0.kept hn
  clear lx0 lu0 hk0 hu1 hu2 hkq hwq
  go_wp2_with fail
  refine (keptWords_yes lx (hv.kept hk) hb).mono ?_
  rintro e w10 ⟨rfl, hn⟩
  replace hk := hk.trans hn
  replace lu := lu.kept hn
  go_wp2_with fail
  refine (keptExclusions_yes lu (hv2.kept hk) hb2).mono ?_
  rintro e w11 ⟨rfl, hn⟩
  replace hk := hk.trans hn
  go_wp2_with fail
  refine (awake18_any _).mono ?_
  rintro e w12 ⟨rfl, hn⟩
  replace hk := hk.trans hn
  go_wp2
  go_ret
  exact ⟨rfl, hk⟩
theorem flows_walk (v : Value) (m : Nat) (S : Nat → ByteArray) (A G : Nat → Int) (how : Int) (v2 : Value) (n : Nat) (Z : Nat → Nat → Int) (room y : Int) (w : World) (hv : WV w v m S A G) (_hf : Fair m S A G) (hb : m ≤ 4398046510976) (hv2 : RV 5 w v2 n (intC Z)) (hb2 : n ≤ 3518437208780) (_hz : ∀ i j, inInt (Z i j)) :
    Calls Try.prog 8 #[v, .int .i64 how, v2, .int .i64 room, .int .i64 y] w fun e w' => e = .returned (.bool true) ∧ Kept w w' :=
  flows_main v m S A G how v2 n Z room y w hv hb hv2 hb2
end Go.Proofs.Ytkdidhhilcamkaa
