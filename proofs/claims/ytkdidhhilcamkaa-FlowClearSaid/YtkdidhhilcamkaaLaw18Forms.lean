/- Layer 18: words, aligns, floats, numbers that may not be. -/
import Derived.Test.YtkdidhhilcamkaaLaw18All
import Derived.Test.YtkdidhhilcamkaaMask
namespace Go.Proofs.Ytkdidhhilcamkaa
open Go.RowKit Go.Deep
set_option linter.unusedSimpArgs false
set_option linter.unusedVariables false
theorem rv_none (k : Nat) (w : World) (C : Nat → Nat → Value) : RV k w (.slice none 0 0) 0 C := .inl ⟨rfl, none, 0, rfl⟩
theorem wv_none (w : World) (S : Nat → ByteArray) (A G : Nat → Int) : WV w (.slice none 0 0) 0 S A G := .inl ⟨rfl, none, 0, rfl⟩
theorem wv_one {w : World} {b : Nat} {t : TypeId} {a : Int} (h : Own w b t #[.string ByteArray.empty, .int .i64 a, .int .i64 0]) : WV w (.slice (some ⟨b, 0, none⟩) 1 1) 1 (fun _ => ByteArray.empty) (fun _ => a) (fun _ => 0) := by
  refine .inr ⟨b, 0, 1, rfl, by decide, by decide, ⟨fun i hi => ?_, fun i hi => ?_, fun i hi => ?_⟩⟩
  · obtain rfl : i = 0 := by omega
    exact h.cell 0
  · obtain rfl : i = 0 := by omega
    exact h.cell 1
  · obtain rfl : i = 0 := by omega
    exact h.cell 2
theorem flowFlow_no (vw : Value) (m : Nat) (S : Nat → ByteArray) (A G : Nat → Int) (how : Int) (v : Value) (n : Nat) (Z : Nat → Nat → Int) (room y : Int) (w : World) (hw : WV w vw m S A G) (hv : RV 5 w v n (intC Z)) (hn : n ≤ 4611686018427387904) (hb : flowB ⟨excOf Z, n, room, A, m, how, y⟩ = false) :
    Calls Try.prog 21 #[vw, .int .i64 how, v, .int .i64 room, .int .i64 y] w fun e w' => ∃ o cap, e = .returned (.tuple #[.slice o 0 cap, .int .i64 0, .int .i64 1800]) ∧ Kept w w' :=
  (flowFlow_any vw m S A G how v n Z room y w hw hv hn).mono fun e w' ⟨u, he, hr, hk⟩ => by
    rw [show flowY ⟨excOf Z, n, room, A, m, how, y⟩ = 0 from if_neg (by rw [hb]; decide), show flowE ⟨excOf Z, n, room, A, m, how, y⟩ = 1800 from if_neg (by rw [hb]; decide)] at he
    rw [show flowN ⟨excOf Z, n, room, A, m, how, y⟩ = 0 from if_neg (by rw [hb]; decide)] at hr
    obtain ⟨o, cap, rfl⟩ := hr.rv.shape
    exact ⟨o, cap, he, hk⟩
theorem flowFlow_nil (w : World) :
    Calls Try.prog 21 #[.slice none 0 0, .int .i64 0, .slice none 0 0, .int .i64 100, .int .i64 7] w fun e w' => ∃ o cap, e = .returned (.tuple #[.slice o 0 cap, .int .i64 7, .int .i64 0]) ∧ Kept w w' :=
  (flowFlow_any (.slice none 0 0) 0 (fun _ => ByteArray.empty) (fun _ => 0) (fun _ => 0) 0 (.slice none 0 0) 0 (fun _ _ => 0) 100 7 w (wv_none _ _ _ _) (rv_none _ _ _) (by decide)).mono fun e w' ⟨u, he, hr, hk⟩ => by
    have hb : flowB ⟨excOf (fun _ _ => 0), 0, 100, fun _ => 0, 0, 0, 7⟩ = true := by decide
    have hn : Flw.N ⟨excOf (fun _ _ => 0), 0, 100, fun _ => 0, 0, 0, 7⟩ = 0 := Flw.N_is (l := 0) rfl
    rw [show flowY ⟨excOf (fun _ _ => 0), 0, 100, fun _ => 0, 0, 0, 7⟩ = 7 by unfold flowY; rw [if_pos hb, hn]; rfl, show flowE ⟨excOf (fun _ _ => 0), 0, 100, fun _ => 0, 0, 0, 7⟩ = 0 from if_pos hb] at he
    rw [show flowN ⟨excOf (fun _ _ => 0), 0, 100, fun _ => 0, 0, 0, 7⟩ = 0 by unfold flowN; rw [if_pos hb, hn]] at hr
    obtain ⟨o, cap, rfl⟩ := hr.rv.shape
    exact ⟨o, cap, he, hk⟩
set_option maxRecDepth 20000 in
set_option maxHeartbeats 4000000 in
theorem flowForms_0 (c x d : Int) (hi : (IntKind.u64.wrap c).tmod 8 = 0) (q : Int) (hq : bits .and .i64 x 1023 = q) (hqd : 1 + q = d) (d1 : 1 ≤ d) (d2 : d ≤ 1024) (w : World) :
    Calls Try.prog 10 #[.int .i64 c, .int .i64 x] w fun e w' => e = .returned (.bool true) ∧ Kept w w' := by
  have hb : flowB ⟨excOf fun _ _ => 0, 0, 100, fun _ => -d, 1, 0, 0⟩ = false := by unfold flowB; rw [show mayW 1 (fun _ => -d) = false by unfold mayW allB; rw [show inB 0 4194304 (-d) = false from inB_false.2 (by omega)]; simp]; rfl
  have Hb := Lib.hid hb
  clear hb
  have hk : Kept w w := Kept.refl w
  go_enter Try.func10, Try.ntmps10
  go_wp2_with fail
  refine (awake18_any _).mono ?_
  rintro e w1 ⟨rfl, hn⟩
  replace hk := hk.trans hn
  clear hn
  go_wp2_with fail
  refine with_boxes1 ?_
  intro X hX a
  have hsz := hk.size
  replace hk := hk.trans hX
  clear hX
  refine (flowFlow_no _ 1 _ (fun _ => -d) _ _ _ 0 (fun _ _ => 0) _ _ _ (wv_one a) (rv_none _ _ _) (by decide) Hb.out).mono ?_
  rintro e w1 ⟨o1, cap1, rfl, hn⟩
  replace hk := hk.trans hn
  replace a := a.kept hn
  clear hn
  go_wp2_with fail
  refine (flowFlow_nil _).mono ?_
  rintro e w1 ⟨o2, cap2, rfl, hn⟩
  replace hk := hk.trans hn
  replace a := a.kept hn
  clear hn
  go_wp2_with fail
  refine (num_any _ _).mono ?_
  rintro e w1 ⟨rfl, rfl⟩
  go_wp2_with fail
  refine (num_any _ _).mono ?_
  rintro e w1 ⟨rfl, rfl⟩
  go_wp2
  go_ret
  exact ⟨rfl, hk⟩
set_option maxRecDepth 20000 in
set_option maxHeartbeats 4000000 in
theorem flowForms_1 (c x d : Int) (hi : (IntKind.u64.wrap c).tmod 8 = 1) (q : Int) (hq : bits .and .i64 x 1023 = q) (hqd : 1 + q = d) (d1 : 1 ≤ d) (d2 : d ≤ 1024) (w : World) :
    Calls Try.prog 10 #[.int .i64 c, .int .i64 x] w fun e w' => e = .returned (.bool true) ∧ Kept w w' := by
  have hb : flowB ⟨excOf fun _ _ => 0, 0, 100, fun _ => 5, 1, -d, 0⟩ = false := by unfold flowB; rw [show inB 0 3 (-d) = false from inB_false.2 (by omega)]; simp
  have Hb := Lib.hid hb
  clear hb
  have hk : Kept w w := Kept.refl w
  go_enter Try.func10, Try.ntmps10
  go_wp2_with fail
  refine (awake18_any _).mono ?_
  rintro e w1 ⟨rfl, hn⟩
  replace hk := hk.trans hn
  clear hn
  go_wp2_with fail
  refine with_boxes1 ?_
  intro X hX a
  have hsz := hk.size
  replace hk := hk.trans hX
  clear hX
  refine (flowFlow_no _ 1 _ (fun _ => 5) _ _ _ 0 (fun _ _ => 0) _ _ _ (wv_one a) (rv_none _ _ _) (by decide) Hb.out).mono ?_
  rintro e w1 ⟨o1, cap1, rfl, hn⟩
  replace hk := hk.trans hn
  replace a := a.kept hn
  clear hn
  go_wp2_with fail
  refine (flowFlow_nil _).mono ?_
  rintro e w1 ⟨o2, cap2, rfl, hn⟩
  replace hk := hk.trans hn
  replace a := a.kept hn
  clear hn
  go_wp2_with fail
  refine (num_any _ _).mono ?_
  rintro e w1 ⟨rfl, rfl⟩
  go_wp2_with fail
  refine (num_any _ _).mono ?_
  rintro e w1 ⟨rfl, rfl⟩
  go_wp2
  go_ret
  exact ⟨rfl, hk⟩
set_option maxRecDepth 20000 in
set_option maxHeartbeats 4000000 in
theorem flowForms_2 (c x d : Int) (hi : (IntKind.u64.wrap c).tmod 8 = 2) (q : Int) (hq : bits .and .i64 x 1023 = q) (hqd : 1 + q = d) (d1 : 1 ≤ d) (d2 : d ≤ 1024) (w : World) :
    Calls Try.prog 10 #[.int .i64 c, .int .i64 x] w fun e w' => e = .returned (.bool true) ∧ Kept w w' := by
  have hb : flowB ⟨excOf fun _ _ => 0, 0, 100, fun _ => 5, 1, 3 + d, 0⟩ = false := by unfold flowB; rw [show inB 0 3 (3 + d) = false from inB_false.2 (by omega)]; simp
  have Hb := Lib.hid hb
  clear hb
  have hk : Kept w w := Kept.refl w
  go_enter Try.func10, Try.ntmps10
  go_wp2_with fail
  refine (awake18_any _).mono ?_
  rintro e w1 ⟨rfl, hn⟩
  replace hk := hk.trans hn
  clear hn
  go_wp2_with fail
  refine with_boxes1 ?_
  intro X hX a
  have hsz := hk.size
  replace hk := hk.trans hX
  clear hX
  refine (flowFlow_no _ 1 _ (fun _ => 5) _ _ _ 0 (fun _ _ => 0) _ _ _ (wv_one a) (rv_none _ _ _) (by decide) Hb.out).mono ?_
  rintro e w1 ⟨o1, cap1, rfl, hn⟩
  replace hk := hk.trans hn
  replace a := a.kept hn
  clear hn
  go_wp2_with fail
  refine (flowFlow_nil _).mono ?_
  rintro e w1 ⟨o2, cap2, rfl, hn⟩
  replace hk := hk.trans hn
  replace a := a.kept hn
  clear hn
  go_wp2_with fail
  refine (num_any _ _).mono ?_
  rintro e w1 ⟨rfl, rfl⟩
  go_wp2_with fail
  refine (num_any _ _).mono ?_
  rintro e w1 ⟨rfl, rfl⟩
  go_wp2
  go_ret
  exact ⟨rfl, hk⟩
set_option maxRecDepth 20000 in
set_option maxHeartbeats 4000000 in
theorem flowForms_3 (c x d : Int) (hi : (IntKind.u64.wrap c).tmod 8 = 3) (q : Int) (hq : bits .and .i64 x 1023 = q) (hqd : 1 + q = d) (d1 : 1 ≤ d) (d2 : d ≤ 1024) (w : World) :
    Calls Try.prog 10 #[.int .i64 c, .int .i64 x] w fun e w' => e = .returned (.bool true) ∧ Kept w w' := by
  have hb : flowB ⟨excOf fun _ _ => 0, 1, 100, fun _ => 5, 1, 0, 0⟩ = false := rfl
  have Hb := Lib.hid hb
  clear hb
  have hk : Kept w w := Kept.refl w
  go_enter Try.func10, Try.ntmps10
  go_wp2_with fail
  refine (awake18_any _).mono ?_
  rintro e w1 ⟨rfl, hn⟩
  replace hk := hk.trans hn
  clear hn
  go_wp2_with fail
  refine with_boxes2 ?_
  intro X hX a b
  have hsz := hk.size
  replace hk := hk.trans hX
  clear hX
  refine (flowFlow_no _ 1 _ (fun _ => 5) _ _ _ 1 (fun _ _ => 0) _ _ _ (wv_one a) (rv_lit b 5 1 (by decide) (intC fun _ _ => 0) rfl) (by decide) Hb.out).mono ?_
  rintro e w1 ⟨o1, cap1, rfl, hn⟩
  replace hk := hk.trans hn
  replace a := a.kept hn
  replace b := b.kept hn
  clear hn
  go_wp2_with fail
  refine (flowFlow_nil _).mono ?_
  rintro e w1 ⟨o2, cap2, rfl, hn⟩
  replace hk := hk.trans hn
  replace a := a.kept hn
  replace b := b.kept hn
  clear hn
  go_wp2_with fail
  refine (num_any _ _).mono ?_
  rintro e w1 ⟨rfl, rfl⟩
  go_wp2_with fail
  refine (num_any _ _).mono ?_
  rintro e w1 ⟨rfl, rfl⟩
  go_wp2
  go_ret
  exact ⟨rfl, hk⟩
set_option maxRecDepth 20000 in
set_option maxHeartbeats 4000000 in
theorem flowForms_4 (c x d : Int) (hi : (IntKind.u64.wrap c).tmod 8 = 4) (q : Int) (hq : bits .and .i64 x 1023 = q) (hqd : 1 + q = d) (d1 : 1 ≤ d) (d2 : d ≤ 1024) (w : World) :
    Calls Try.prog 10 #[.int .i64 c, .int .i64 x] w fun e w' => e = .returned (.bool true) ∧ Kept w w' := by
  have hb : flowB ⟨excOf fun _ _ => 0, 0, -d, fun _ => 5, 1, 0, 0⟩ = false := by unfold flowB mayX; rw [show inB 0 4194304 (-d) = false from inB_false.2 (by omega)]; simp
  have Hb := Lib.hid hb
  clear hb
  have hk : Kept w w := Kept.refl w
  go_enter Try.func10, Try.ntmps10
  go_wp2_with fail
  refine (awake18_any _).mono ?_
  rintro e w1 ⟨rfl, hn⟩
  replace hk := hk.trans hn
  clear hn
  go_wp2_with fail
  refine with_boxes1 ?_
  intro X hX a
  have hsz := hk.size
  replace hk := hk.trans hX
  clear hX
  refine (flowFlow_no _ 1 _ (fun _ => 5) _ _ _ 0 (fun _ _ => 0) _ _ _ (wv_one a) (rv_none _ _ _) (by decide) Hb.out).mono ?_
  rintro e w1 ⟨o1, cap1, rfl, hn⟩
  replace hk := hk.trans hn
  replace a := a.kept hn
  clear hn
  go_wp2_with fail
  refine (flowFlow_nil _).mono ?_
  rintro e w1 ⟨o2, cap2, rfl, hn⟩
  replace hk := hk.trans hn
  replace a := a.kept hn
  clear hn
  go_wp2_with fail
  refine (num_any _ _).mono ?_
  rintro e w1 ⟨rfl, rfl⟩
  go_wp2_with fail
  refine (num_any _ _).mono ?_
  rintro e w1 ⟨rfl, rfl⟩
  go_wp2
  go_ret
  exact ⟨rfl, hk⟩
set_option maxRecDepth 20000 in
set_option maxHeartbeats 4000000 in
theorem flowForms_5 (c x d : Int) (hi : (IntKind.u64.wrap c).tmod 8 = 5) (q : Int) (hq : bits .and .i64 x 1023 = q) (hqd : 1 + q = d) (d1 : 1 ≤ d) (d2 : d ≤ 1024) (w : World) :
    Calls Try.prog 10 #[.int .i64 c, .int .i64 x] w fun e w' => e = .returned (.bool true) ∧ Kept w w' := by
  have hb : flowB ⟨excOf fun _ _ => 0, 0, 4194304 + d, fun _ => 5, 1, 0, 0⟩ = false := by unfold flowB mayX; rw [show inB 0 4194304 (4194304 + d) = false from inB_false.2 (by omega)]; simp
  have Hb := Lib.hid hb
  clear hb
  have hk : Kept w w := Kept.refl w
  go_enter Try.func10, Try.ntmps10
  go_wp2_with fail
  refine (awake18_any _).mono ?_
  rintro e w1 ⟨rfl, hn⟩
  replace hk := hk.trans hn
  clear hn
  go_wp2_with fail
  refine with_boxes1 ?_
  intro X hX a
  have hsz := hk.size
  replace hk := hk.trans hX
  clear hX
  refine (flowFlow_no _ 1 _ (fun _ => 5) _ _ _ 0 (fun _ _ => 0) _ _ _ (wv_one a) (rv_none _ _ _) (by decide) Hb.out).mono ?_
  rintro e w1 ⟨o1, cap1, rfl, hn⟩
  replace hk := hk.trans hn
  replace a := a.kept hn
  clear hn
  go_wp2_with fail
  refine (flowFlow_nil _).mono ?_
  rintro e w1 ⟨o2, cap2, rfl, hn⟩
  replace hk := hk.trans hn
  replace a := a.kept hn
  clear hn
  go_wp2_with fail
  refine (num_any _ _).mono ?_
  rintro e w1 ⟨rfl, rfl⟩
  go_wp2_with fail
  refine (num_any _ _).mono ?_
  rintro e w1 ⟨rfl, rfl⟩
  go_wp2
  go_ret
  exact ⟨rfl, hk⟩
set_option maxRecDepth 20000 in
set_option maxHeartbeats 4000000 in
theorem flowForms_6 (c x d : Int) (hi : (IntKind.u64.wrap c).tmod 8 = 6) (q : Int) (hq : bits .and .i64 x 1023 = q) (hqd : 1 + q = d) (d1 : 1 ≤ d) (d2 : d ≤ 1024) (w : World) :
    Calls Try.prog 10 #[.int .i64 c, .int .i64 x] w fun e w' => e = .returned (.bool true) ∧ Kept w w' := by
  have hb : flowB ⟨excOf fun _ _ => 0, 0, 100, fun _ => 5, 1, 0, -d⟩ = false := by unfold flowB; rw [show inB 0 4194304 (-d) = false from inB_false.2 (by omega)]; simp
  have Hb := Lib.hid hb
  clear hb
  have hk : Kept w w := Kept.refl w
  go_enter Try.func10, Try.ntmps10
  go_wp2_with fail
  refine (awake18_any _).mono ?_
  rintro e w1 ⟨rfl, hn⟩
  replace hk := hk.trans hn
  clear hn
  go_wp2_with fail
  refine with_boxes1 ?_
  intro X hX a
  have hsz := hk.size
  replace hk := hk.trans hX
  clear hX
  refine (flowFlow_no _ 1 _ (fun _ => 5) _ _ _ 0 (fun _ _ => 0) _ _ _ (wv_one a) (rv_none _ _ _) (by decide) Hb.out).mono ?_
  rintro e w1 ⟨o1, cap1, rfl, hn⟩
  replace hk := hk.trans hn
  replace a := a.kept hn
  clear hn
  go_wp2_with fail
  refine (flowFlow_nil _).mono ?_
  rintro e w1 ⟨o2, cap2, rfl, hn⟩
  replace hk := hk.trans hn
  replace a := a.kept hn
  clear hn
  go_wp2_with fail
  refine (num_any _ _).mono ?_
  rintro e w1 ⟨rfl, rfl⟩
  go_wp2_with fail
  refine (num_any _ _).mono ?_
  rintro e w1 ⟨rfl, rfl⟩
  go_wp2
  go_ret
  exact ⟨rfl, hk⟩
set_option maxRecDepth 20000 in
set_option maxHeartbeats 4000000 in
theorem flowForms_7 (c x d : Int) (hi : (IntKind.u64.wrap c).tmod 8 = 7) (q : Int) (hq : bits .and .i64 x 1023 = q) (hqd : 1 + q = d) (d1 : 1 ≤ d) (d2 : d ≤ 1024) (w : World) :
    Calls Try.prog 10 #[.int .i64 c, .int .i64 x] w fun e w' => e = .returned (.bool true) ∧ Kept w w' := by
  have hb : flowB ⟨excOf fun _ _ => 0, 0, 100, fun _ => 5, 1, 0, 4194304 + d⟩ = false := by unfold flowB; rw [show inB 0 4194304 (4194304 + d) = false from inB_false.2 (by omega)]; simp
  have Hb := Lib.hid hb
  clear hb
  have hk : Kept w w := Kept.refl w
  go_enter Try.func10, Try.ntmps10
  go_wp2_with fail
  refine (awake18_any _).mono ?_
  rintro e w1 ⟨rfl, hn⟩
  replace hk := hk.trans hn
  clear hn
  go_wp2_with fail
  refine with_boxes1 ?_
  intro X hX a
  have hsz := hk.size
  replace hk := hk.trans hX
  clear hX
  refine (flowFlow_no _ 1 _ (fun _ => 5) _ _ _ 0 (fun _ _ => 0) _ _ _ (wv_one a) (rv_none _ _ _) (by decide) Hb.out).mono ?_
  rintro e w1 ⟨o1, cap1, rfl, hn⟩
  replace hk := hk.trans hn
  replace a := a.kept hn
  clear hn
  go_wp2_with fail
  refine (flowFlow_nil _).mono ?_
  rintro e w1 ⟨o2, cap2, rfl, hn⟩
  replace hk := hk.trans hn
  replace a := a.kept hn
  clear hn
  go_wp2_with fail
  refine (num_any _ _).mono ?_
  rintro e w1 ⟨rfl, rfl⟩
  go_wp2_with fail
  refine (num_any _ _).mono ?_
  rintro e w1 ⟨rfl, rfl⟩
  go_wp2
  go_ret
  exact ⟨rfl, hk⟩
theorem flowForms_walk (c x : Int) (w : World) :
    Calls Try.prog 10 #[.int .i64 c, .int .i64 x] w fun e w' => e = .returned (.bool true) ∧ Kept w w' := by
  obtain ⟨i, hi, i0, i1⟩ := urest2 c 8 (by decide)
  obtain ⟨q, hq, q0, q1⟩ := masked x 10 1023 (by decide) (by decide)
  rcases (by omega : i = 0 ∨ i = 1 ∨ i = 2 ∨ i = 3 ∨ i = 4 ∨ i = 5 ∨ i = 6 ∨ i = 7) with rfl | rfl | rfl | rfl | rfl | rfl | rfl | rfl
  · exact flowForms_0 c x (1 + q) hi q hq rfl (by omega) (by omega) w
  · exact flowForms_1 c x (1 + q) hi q hq rfl (by omega) (by omega) w
  · exact flowForms_2 c x (1 + q) hi q hq rfl (by omega) (by omega) w
  · exact flowForms_3 c x (1 + q) hi q hq rfl (by omega) (by omega) w
  · exact flowForms_4 c x (1 + q) hi q hq rfl (by omega) (by omega) w
  · exact flowForms_5 c x (1 + q) hi q hq rfl (by omega) (by omega) w
  · exact flowForms_6 c x (1 + q) hi q hq rfl (by omega) (by omega) w
  · exact flowForms_7 c x (1 + q) hi q hq rfl (by omega) (by omega) w
end Go.Proofs.Ytkdidhhilcamkaa
