/- Layer 17: numbers that may not be. -/
import Derived.Test.YtkdidhhilcamkaaLaw17All
import Derived.Test.YtkdidhhilcamkaaMask
namespace Go.Proofs.Ytkdidhhilcamkaa
open Go.RowKit Go.Deep
set_option linter.unusedSimpArgs false
set_option linter.unusedVariables false
set_option maxRecDepth 20000 in
set_option maxHeartbeats 4000000 in
theorem placeForms_0 (c x d : Int) (hi : (IntKind.u64.wrap c).tmod 11 = 0) (q : Int) (hq : bits .and .i64 x 1023 = q) (hqd : 1 + q = d) (d1 : 1 ≤ d) (d2 : d ≤ 1024) (w : World) :
    Calls Try.prog 5 #[.int .i64 c, .int .i64 x] w fun e w' => e = .returned (.bool true) ∧ Kept w w' := by
  have hb : placeB (excOf (zR [])) (-d) 0 0 1 0 5 5 = false := by unfold placeB mayX; rw [show inB 0 4194304 (-d) = false from inB_false.2 (by omega)]; rfl
  have Hb := Lib.hid (placeR_no hb)
  clear hb
  have hk : Kept w w := Kept.refl w
  go_enter Try.func5, Try.ntmps5
  go_wp2_with fail
  refine (awake17_any _).mono ?_
  rintro e w1 ⟨rfl, hn⟩
  replace hk := hk.trans hn
  clear hn
  go_wp2_with fail
  refine with_boxes1 ?_
  intro X hX s
  have hsz := hk.size
  replace hk := hk.trans hX
  clear hX
  replace s_l := s.lt
  replace s_0 := s.at 0 _ rfl
  replace s_1 := s.at 1 _ rfl
  refine (placePlace_is _ 0 (zR []) _ _ _ _ _ _ _ _ _ (rv_nil _ _ _) (by decide) Hb.out).mono ?_
  rintro e w1 ⟨rfl, hn⟩
  replace hk := hk.trans hn
  replace s := s.kept hn
  clear hn
  replace s_l := s.lt
  replace s_0 := s.at 0 _ rfl
  replace s_1 := s.at 1 _ rfl
  go_wp2_with fail
  refine with_boxes1 ?_
  intro X hX a
  have hsz := hk.size
  replace hk := hk.trans hX
  replace s := s.kept hX
  clear hX
  replace s_l := s.lt
  replace s_0 := s.at 0 _ rfl
  replace s_1 := s.at 1 _ rfl
  replace a_l := a.lt
  replace a_0 := a.at 0 _ rfl
  replace a_1 := a.at 1 _ rfl
  replace a_2 := a.at 2 _ rfl
  replace a_3 := a.at 3 _ rfl
  replace a_4 := a.at 4 _ rfl
  refine (num_any _ _).mono ?_
  rintro e w1 ⟨rfl, rfl⟩
  go_wp2
  go_ret
  exact ⟨rfl, hk⟩
set_option maxRecDepth 20000 in
set_option maxHeartbeats 4000000 in
theorem placeForms_1 (c x d : Int) (hi : (IntKind.u64.wrap c).tmod 11 = 1) (q : Int) (hq : bits .and .i64 x 1023 = q) (hqd : 1 + q = d) (d1 : 1 ≤ d) (d2 : d ≤ 1024) (w : World) :
    Calls Try.prog 5 #[.int .i64 c, .int .i64 x] w fun e w' => e = .returned (.bool true) ∧ Kept w w' := by
  have hb : placeB (excOf (zR [])) 100 0 (-d) 1 0 5 5 = false := by unfold placeB; rw [show inB 0 4194304 (-d) = false from inB_false.2 (by omega)]; simp
  have Hb := Lib.hid (placeR_no hb)
  clear hb
  have hk : Kept w w := Kept.refl w
  go_enter Try.func5, Try.ntmps5
  go_wp2_with fail
  refine (awake17_any _).mono ?_
  rintro e w1 ⟨rfl, hn⟩
  replace hk := hk.trans hn
  clear hn
  go_wp2_with fail
  refine with_boxes1 ?_
  intro X hX s
  have hsz := hk.size
  replace hk := hk.trans hX
  clear hX
  replace s_l := s.lt
  replace s_0 := s.at 0 _ rfl
  replace s_1 := s.at 1 _ rfl
  refine (placePlace_is _ 0 (zR []) _ _ _ _ _ _ _ _ _ (rv_nil _ _ _) (by decide) Hb.out).mono ?_
  rintro e w1 ⟨rfl, hn⟩
  replace hk := hk.trans hn
  replace s := s.kept hn
  clear hn
  replace s_l := s.lt
  replace s_0 := s.at 0 _ rfl
  replace s_1 := s.at 1 _ rfl
  go_wp2_with fail
  refine with_boxes1 ?_
  intro X hX a
  have hsz := hk.size
  replace hk := hk.trans hX
  replace s := s.kept hX
  clear hX
  replace s_l := s.lt
  replace s_0 := s.at 0 _ rfl
  replace s_1 := s.at 1 _ rfl
  replace a_l := a.lt
  replace a_0 := a.at 0 _ rfl
  replace a_1 := a.at 1 _ rfl
  replace a_2 := a.at 2 _ rfl
  replace a_3 := a.at 3 _ rfl
  replace a_4 := a.at 4 _ rfl
  refine (num_any _ _).mono ?_
  rintro e w1 ⟨rfl, rfl⟩
  go_wp2
  go_ret
  exact ⟨rfl, hk⟩
set_option maxRecDepth 20000 in
set_option maxHeartbeats 4000000 in
theorem placeForms_2 (c x d : Int) (hi : (IntKind.u64.wrap c).tmod 11 = 2) (q : Int) (hq : bits .and .i64 x 1023 = q) (hqd : 1 + q = d) (d1 : 1 ≤ d) (d2 : d ≤ 1024) (w : World) :
    Calls Try.prog 5 #[.int .i64 c, .int .i64 x] w fun e w' => e = .returned (.bool true) ∧ Kept w w' := by
  have hb : placeB (excOf (zR [])) 100 0 (4194304 + d) 1 0 5 5 = false := by unfold placeB; rw [show inB 0 4194304 (4194304 + d) = false from inB_false.2 (by omega)]; simp
  have Hb := Lib.hid (placeR_no hb)
  clear hb
  have hk : Kept w w := Kept.refl w
  go_enter Try.func5, Try.ntmps5
  go_wp2_with fail
  refine (awake17_any _).mono ?_
  rintro e w1 ⟨rfl, hn⟩
  replace hk := hk.trans hn
  clear hn
  go_wp2_with fail
  refine with_boxes1 ?_
  intro X hX s
  have hsz := hk.size
  replace hk := hk.trans hX
  clear hX
  replace s_l := s.lt
  replace s_0 := s.at 0 _ rfl
  replace s_1 := s.at 1 _ rfl
  refine (placePlace_is _ 0 (zR []) _ _ _ _ _ _ _ _ _ (rv_nil _ _ _) (by decide) Hb.out).mono ?_
  rintro e w1 ⟨rfl, hn⟩
  replace hk := hk.trans hn
  replace s := s.kept hn
  clear hn
  replace s_l := s.lt
  replace s_0 := s.at 0 _ rfl
  replace s_1 := s.at 1 _ rfl
  go_wp2_with fail
  refine with_boxes1 ?_
  intro X hX a
  have hsz := hk.size
  replace hk := hk.trans hX
  replace s := s.kept hX
  clear hX
  replace s_l := s.lt
  replace s_0 := s.at 0 _ rfl
  replace s_1 := s.at 1 _ rfl
  replace a_l := a.lt
  replace a_0 := a.at 0 _ rfl
  replace a_1 := a.at 1 _ rfl
  replace a_2 := a.at 2 _ rfl
  replace a_3 := a.at 3 _ rfl
  replace a_4 := a.at 4 _ rfl
  refine (num_any _ _).mono ?_
  rintro e w1 ⟨rfl, rfl⟩
  go_wp2
  go_ret
  exact ⟨rfl, hk⟩
set_option maxRecDepth 20000 in
set_option maxHeartbeats 4000000 in
theorem placeForms_3 (c x d : Int) (hi : (IntKind.u64.wrap c).tmod 11 = 3) (q : Int) (hq : bits .and .i64 x 1023 = q) (hqd : 1 + q = d) (d1 : 1 ≤ d) (d2 : d ≤ 1024) (w : World) :
    Calls Try.prog 5 #[.int .i64 c, .int .i64 x] w fun e w' => e = .returned (.bool true) ∧ Kept w w' := by
  have hb : placeB (excOf (zR [])) 100 0 0 (-d) 0 5 5 = false := by unfold placeB; rw [show inB 1 2 (-d) = false from inB_false.2 (by omega)]; simp
  have Hb := Lib.hid (placeR_no hb)
  clear hb
  have hk : Kept w w := Kept.refl w
  go_enter Try.func5, Try.ntmps5
  go_wp2_with fail
  refine (awake17_any _).mono ?_
  rintro e w1 ⟨rfl, hn⟩
  replace hk := hk.trans hn
  clear hn
  go_wp2_with fail
  refine with_boxes1 ?_
  intro X hX s
  have hsz := hk.size
  replace hk := hk.trans hX
  clear hX
  replace s_l := s.lt
  replace s_0 := s.at 0 _ rfl
  replace s_1 := s.at 1 _ rfl
  refine (placePlace_is _ 0 (zR []) _ _ _ _ _ _ _ _ _ (rv_nil _ _ _) (by decide) Hb.out).mono ?_
  rintro e w1 ⟨rfl, hn⟩
  replace hk := hk.trans hn
  replace s := s.kept hn
  clear hn
  replace s_l := s.lt
  replace s_0 := s.at 0 _ rfl
  replace s_1 := s.at 1 _ rfl
  go_wp2_with fail
  refine with_boxes1 ?_
  intro X hX a
  have hsz := hk.size
  replace hk := hk.trans hX
  replace s := s.kept hX
  clear hX
  replace s_l := s.lt
  replace s_0 := s.at 0 _ rfl
  replace s_1 := s.at 1 _ rfl
  replace a_l := a.lt
  replace a_0 := a.at 0 _ rfl
  replace a_1 := a.at 1 _ rfl
  replace a_2 := a.at 2 _ rfl
  replace a_3 := a.at 3 _ rfl
  replace a_4 := a.at 4 _ rfl
  refine (num_any _ _).mono ?_
  rintro e w1 ⟨rfl, rfl⟩
  go_wp2
  go_ret
  exact ⟨rfl, hk⟩
set_option maxRecDepth 20000 in
set_option maxHeartbeats 4000000 in
theorem placeForms_4 (c x d : Int) (hi : (IntKind.u64.wrap c).tmod 11 = 4) (q : Int) (hq : bits .and .i64 x 1023 = q) (hqd : 1 + q = d) (d1 : 1 ≤ d) (d2 : d ≤ 1024) (w : World) :
    Calls Try.prog 5 #[.int .i64 c, .int .i64 x] w fun e w' => e = .returned (.bool true) ∧ Kept w w' := by
  have hb : placeB (excOf (zR [])) 100 0 0 (2 + d) 0 5 5 = false := by unfold placeB; rw [show inB 1 2 (2 + d) = false from inB_false.2 (by omega)]; simp
  have Hb := Lib.hid (placeR_no hb)
  clear hb
  have hk : Kept w w := Kept.refl w
  go_enter Try.func5, Try.ntmps5
  go_wp2_with fail
  refine (awake17_any _).mono ?_
  rintro e w1 ⟨rfl, hn⟩
  replace hk := hk.trans hn
  clear hn
  go_wp2_with fail
  refine with_boxes1 ?_
  intro X hX s
  have hsz := hk.size
  replace hk := hk.trans hX
  clear hX
  replace s_l := s.lt
  replace s_0 := s.at 0 _ rfl
  replace s_1 := s.at 1 _ rfl
  refine (placePlace_is _ 0 (zR []) _ _ _ _ _ _ _ _ _ (rv_nil _ _ _) (by decide) Hb.out).mono ?_
  rintro e w1 ⟨rfl, hn⟩
  replace hk := hk.trans hn
  replace s := s.kept hn
  clear hn
  replace s_l := s.lt
  replace s_0 := s.at 0 _ rfl
  replace s_1 := s.at 1 _ rfl
  go_wp2_with fail
  refine with_boxes1 ?_
  intro X hX a
  have hsz := hk.size
  replace hk := hk.trans hX
  replace s := s.kept hX
  clear hX
  replace s_l := s.lt
  replace s_0 := s.at 0 _ rfl
  replace s_1 := s.at 1 _ rfl
  replace a_l := a.lt
  replace a_0 := a.at 0 _ rfl
  replace a_1 := a.at 1 _ rfl
  replace a_2 := a.at 2 _ rfl
  replace a_3 := a.at 3 _ rfl
  replace a_4 := a.at 4 _ rfl
  refine (num_any _ _).mono ?_
  rintro e w1 ⟨rfl, rfl⟩
  go_wp2
  go_ret
  exact ⟨rfl, hk⟩
set_option maxRecDepth 20000 in
set_option maxHeartbeats 4000000 in
theorem placeForms_5 (c x d : Int) (hi : (IntKind.u64.wrap c).tmod 11 = 5) (q : Int) (hq : bits .and .i64 x 1023 = q) (hqd : 1 + q = d) (d1 : 1 ≤ d) (d2 : d ≤ 1024) (w : World) :
    Calls Try.prog 5 #[.int .i64 c, .int .i64 x] w fun e w' => e = .returned (.bool true) ∧ Kept w w' := by
  have hb : placeB (excOf (zR [])) 100 0 0 1 (3 + d) 5 5 = false := by unfold placeB; rw [show inB 0 3 (3 + d) = false from inB_false.2 (by omega)]; simp
  have Hb := Lib.hid (placeR_no hb)
  clear hb
  have hk : Kept w w := Kept.refl w
  go_enter Try.func5, Try.ntmps5
  go_wp2_with fail
  refine (awake17_any _).mono ?_
  rintro e w1 ⟨rfl, hn⟩
  replace hk := hk.trans hn
  clear hn
  go_wp2_with fail
  refine with_boxes1 ?_
  intro X hX s
  have hsz := hk.size
  replace hk := hk.trans hX
  clear hX
  replace s_l := s.lt
  replace s_0 := s.at 0 _ rfl
  replace s_1 := s.at 1 _ rfl
  refine (placePlace_is _ 0 (zR []) _ _ _ _ _ _ _ _ _ (rv_nil _ _ _) (by decide) Hb.out).mono ?_
  rintro e w1 ⟨rfl, hn⟩
  replace hk := hk.trans hn
  replace s := s.kept hn
  clear hn
  replace s_l := s.lt
  replace s_0 := s.at 0 _ rfl
  replace s_1 := s.at 1 _ rfl
  go_wp2_with fail
  refine with_boxes1 ?_
  intro X hX a
  have hsz := hk.size
  replace hk := hk.trans hX
  replace s := s.kept hX
  clear hX
  replace s_l := s.lt
  replace s_0 := s.at 0 _ rfl
  replace s_1 := s.at 1 _ rfl
  replace a_l := a.lt
  replace a_0 := a.at 0 _ rfl
  replace a_1 := a.at 1 _ rfl
  replace a_2 := a.at 2 _ rfl
  replace a_3 := a.at 3 _ rfl
  replace a_4 := a.at 4 _ rfl
  refine (num_any _ _).mono ?_
  rintro e w1 ⟨rfl, rfl⟩
  go_wp2
  go_ret
  exact ⟨rfl, hk⟩
set_option maxRecDepth 20000 in
set_option maxHeartbeats 4000000 in
theorem placeForms_6 (c x d : Int) (hi : (IntKind.u64.wrap c).tmod 11 = 6) (q : Int) (hq : bits .and .i64 x 1023 = q) (hqd : 1 + q = d) (d1 : 1 ≤ d) (d2 : d ≤ 1024) (w : World) :
    Calls Try.prog 5 #[.int .i64 c, .int .i64 x] w fun e w' => e = .returned (.bool true) ∧ Kept w w' := by
  have hb : placeB (excOf (zR [])) 100 0 0 1 0 (-d) 5 = false := by unfold placeB; rw [show inB 0 4194304 (-d) = false from inB_false.2 (by omega)]; simp
  have Hb := Lib.hid (placeR_no hb)
  clear hb
  have hk : Kept w w := Kept.refl w
  go_enter Try.func5, Try.ntmps5
  go_wp2_with fail
  refine (awake17_any _).mono ?_
  rintro e w1 ⟨rfl, hn⟩
  replace hk := hk.trans hn
  clear hn
  go_wp2_with fail
  refine with_boxes1 ?_
  intro X hX s
  have hsz := hk.size
  replace hk := hk.trans hX
  clear hX
  replace s_l := s.lt
  replace s_0 := s.at 0 _ rfl
  replace s_1 := s.at 1 _ rfl
  refine (placePlace_is _ 0 (zR []) _ _ _ _ _ _ _ _ _ (rv_nil _ _ _) (by decide) Hb.out).mono ?_
  rintro e w1 ⟨rfl, hn⟩
  replace hk := hk.trans hn
  replace s := s.kept hn
  clear hn
  replace s_l := s.lt
  replace s_0 := s.at 0 _ rfl
  replace s_1 := s.at 1 _ rfl
  go_wp2_with fail
  refine with_boxes1 ?_
  intro X hX a
  have hsz := hk.size
  replace hk := hk.trans hX
  replace s := s.kept hX
  clear hX
  replace s_l := s.lt
  replace s_0 := s.at 0 _ rfl
  replace s_1 := s.at 1 _ rfl
  replace a_l := a.lt
  replace a_0 := a.at 0 _ rfl
  replace a_1 := a.at 1 _ rfl
  replace a_2 := a.at 2 _ rfl
  replace a_3 := a.at 3 _ rfl
  replace a_4 := a.at 4 _ rfl
  refine (num_any _ _).mono ?_
  rintro e w1 ⟨rfl, rfl⟩
  go_wp2
  go_ret
  exact ⟨rfl, hk⟩
set_option maxRecDepth 20000 in
set_option maxHeartbeats 4000000 in
theorem placeForms_7 (c x d : Int) (hi : (IntKind.u64.wrap c).tmod 11 = 7) (q : Int) (hq : bits .and .i64 x 1023 = q) (hqd : 1 + q = d) (d1 : 1 ≤ d) (d2 : d ≤ 1024) (w : World) :
    Calls Try.prog 5 #[.int .i64 c, .int .i64 x] w fun e w' => e = .returned (.bool true) ∧ Kept w w' := by
  have hb : placeB (excOf (zR [])) 100 0 0 1 0 5 (4194304 + d) = false := by unfold placeB; rw [show inB 0 4194304 (4194304 + d) = false from inB_false.2 (by omega)]; simp
  have Hb := Lib.hid (placeR_no hb)
  clear hb
  have hk : Kept w w := Kept.refl w
  go_enter Try.func5, Try.ntmps5
  go_wp2_with fail
  refine (awake17_any _).mono ?_
  rintro e w1 ⟨rfl, hn⟩
  replace hk := hk.trans hn
  clear hn
  go_wp2_with fail
  refine with_boxes1 ?_
  intro X hX s
  have hsz := hk.size
  replace hk := hk.trans hX
  clear hX
  replace s_l := s.lt
  replace s_0 := s.at 0 _ rfl
  replace s_1 := s.at 1 _ rfl
  refine (placePlace_is _ 0 (zR []) _ _ _ _ _ _ _ _ _ (rv_nil _ _ _) (by decide) Hb.out).mono ?_
  rintro e w1 ⟨rfl, hn⟩
  replace hk := hk.trans hn
  replace s := s.kept hn
  clear hn
  replace s_l := s.lt
  replace s_0 := s.at 0 _ rfl
  replace s_1 := s.at 1 _ rfl
  go_wp2_with fail
  refine with_boxes1 ?_
  intro X hX a
  have hsz := hk.size
  replace hk := hk.trans hX
  replace s := s.kept hX
  clear hX
  replace s_l := s.lt
  replace s_0 := s.at 0 _ rfl
  replace s_1 := s.at 1 _ rfl
  replace a_l := a.lt
  replace a_0 := a.at 0 _ rfl
  replace a_1 := a.at 1 _ rfl
  replace a_2 := a.at 2 _ rfl
  replace a_3 := a.at 3 _ rfl
  replace a_4 := a.at 4 _ rfl
  refine (num_any _ _).mono ?_
  rintro e w1 ⟨rfl, rfl⟩
  go_wp2
  go_ret
  exact ⟨rfl, hk⟩
set_option maxRecDepth 20000 in
set_option maxHeartbeats 4000000 in
theorem placeForms_8 (c x d : Int) (hi : (IntKind.u64.wrap c).tmod 11 = 8) (q : Int) (hq : bits .and .i64 x 1023 = q) (hqd : 1 + q = d) (d1 : 1 ≤ d) (d2 : d ≤ 1024) (w : World) :
    Calls Try.prog 5 #[.int .i64 c, .int .i64 x] w fun e w' => e = .returned (.bool true) ∧ Kept w w' := by
  have hb : placeB (excOf (zR [[0, 0, 0, 0, 0]])) 100 1 0 1 0 5 5 = false := by unfold placeB; rw [show mayX 100 1 (excOf (zR [[0, 0, 0, 0, 0]])) = false by decide]; rfl
  have Hb := Lib.hid (placeR_no hb)
  clear hb
  have hk : Kept w w := Kept.refl w
  go_enter Try.func5, Try.ntmps5
  go_wp2_with fail
  refine (awake17_any _).mono ?_
  rintro e w1 ⟨rfl, hn⟩
  replace hk := hk.trans hn
  clear hn
  go_wp2_with fail
  refine with_boxes2 ?_
  intro X hX s q
  have hsz := hk.size
  replace hk := hk.trans hX
  clear hX
  replace s_l := s.lt
  replace s_0 := s.at 0 _ rfl
  replace s_1 := s.at 1 _ rfl
  refine (placePlace_is _ 1 (zR [[0, 0, 0, 0, 0]]) _ _ _ _ _ _ _ _ _ (rv_lit q 5 1 (by decide) (intC (zR [[0, 0, 0, 0, 0]])) rfl) (by decide) Hb.out).mono ?_
  rintro e w1 ⟨rfl, hn⟩
  replace hk := hk.trans hn
  replace s := s.kept hn
  replace q := q.kept hn
  clear hn
  replace s_l := s.lt
  replace s_0 := s.at 0 _ rfl
  replace s_1 := s.at 1 _ rfl
  go_wp2_with fail
  refine with_boxes1 ?_
  intro X hX a
  have hsz := hk.size
  replace hk := hk.trans hX
  replace s := s.kept hX
  replace q := q.kept hX
  clear hX
  replace s_l := s.lt
  replace s_0 := s.at 0 _ rfl
  replace s_1 := s.at 1 _ rfl
  replace a_l := a.lt
  replace a_0 := a.at 0 _ rfl
  replace a_1 := a.at 1 _ rfl
  replace a_2 := a.at 2 _ rfl
  replace a_3 := a.at 3 _ rfl
  replace a_4 := a.at 4 _ rfl
  refine (num_any _ _).mono ?_
  rintro e w1 ⟨rfl, rfl⟩
  go_wp2
  go_ret
  exact ⟨rfl, hk⟩
set_option maxRecDepth 20000 in
set_option maxHeartbeats 4000000 in
theorem placeForms_9 (c x d : Int) (hi : (IntKind.u64.wrap c).tmod 11 = 9) (q : Int) (hq : bits .and .i64 x 1023 = q) (hqd : 1 + q = d) (d1 : 1 ≤ d) (d2 : d ≤ 1024) (w : World) :
    Calls Try.prog 5 #[.int .i64 c, .int .i64 x] w fun e w' => e = .returned (.bool true) ∧ Kept w w' := by
  have hb : placeB (excOf (zR [])) 100 0 0 1 0 5 (-d) = false := by unfold placeB; rw [show inB 0 4194304 (-d) = false from inB_false.2 (by omega)]; simp
  have Hb := Lib.hid (placeR_no hb)
  clear hb
  have hk : Kept w w := Kept.refl w
  go_enter Try.func5, Try.ntmps5
  go_wp2_with fail
  refine (awake17_any _).mono ?_
  rintro e w1 ⟨rfl, hn⟩
  replace hk := hk.trans hn
  clear hn
  go_wp2_with fail
  refine with_boxes1 ?_
  intro X hX s
  have hsz := hk.size
  replace hk := hk.trans hX
  clear hX
  replace s_l := s.lt
  replace s_0 := s.at 0 _ rfl
  replace s_1 := s.at 1 _ rfl
  refine (placePlace_is _ 0 (zR []) _ _ _ _ _ _ _ _ _ (rv_nil _ _ _) (by decide) Hb.out).mono ?_
  rintro e w1 ⟨rfl, hn⟩
  replace hk := hk.trans hn
  replace s := s.kept hn
  clear hn
  replace s_l := s.lt
  replace s_0 := s.at 0 _ rfl
  replace s_1 := s.at 1 _ rfl
  go_wp2_with fail
  refine with_boxes1 ?_
  intro X hX a
  have hsz := hk.size
  replace hk := hk.trans hX
  replace s := s.kept hX
  clear hX
  replace s_l := s.lt
  replace s_0 := s.at 0 _ rfl
  replace s_1 := s.at 1 _ rfl
  replace a_l := a.lt
  replace a_0 := a.at 0 _ rfl
  replace a_1 := a.at 1 _ rfl
  replace a_2 := a.at 2 _ rfl
  replace a_3 := a.at 3 _ rfl
  replace a_4 := a.at 4 _ rfl
  refine (num_any _ _).mono ?_
  rintro e w1 ⟨rfl, rfl⟩
  go_wp2
  go_ret
  exact ⟨rfl, hk⟩
set_option maxRecDepth 20000 in
set_option maxHeartbeats 4000000 in
theorem placeForms_10 (c x d : Int) (hi : (IntKind.u64.wrap c).tmod 11 = 10) (q : Int) (hq : bits .and .i64 x 1023 = q) (hqd : 1 + q = d) (d1 : 1 ≤ d) (d2 : d ≤ 1024) (w : World) :
    Calls Try.prog 5 #[.int .i64 c, .int .i64 x] w fun e w' => e = .returned (.bool true) ∧ Kept w w' := by
  have hb : placeB (excOf (zR [])) (4194304 + d) 0 0 1 0 5 5 = false := by unfold placeB mayX; rw [show inB 0 4194304 (4194304 + d) = false from inB_false.2 (by omega)]; rfl
  have Hb := Lib.hid (placeR_no hb)
  clear hb
  have hk : Kept w w := Kept.refl w
  go_enter Try.func5, Try.ntmps5
  go_wp2_with fail
  refine (awake17_any _).mono ?_
  rintro e w1 ⟨rfl, hn⟩
  replace hk := hk.trans hn
  clear hn
  go_wp2_with fail
  refine with_boxes1 ?_
  intro X hX s
  have hsz := hk.size
  replace hk := hk.trans hX
  clear hX
  replace s_l := s.lt
  replace s_0 := s.at 0 _ rfl
  replace s_1 := s.at 1 _ rfl
  refine (placePlace_is _ 0 (zR []) _ _ _ _ _ _ _ _ _ (rv_nil _ _ _) (by decide) Hb.out).mono ?_
  rintro e w1 ⟨rfl, hn⟩
  replace hk := hk.trans hn
  replace s := s.kept hn
  clear hn
  replace s_l := s.lt
  replace s_0 := s.at 0 _ rfl
  replace s_1 := s.at 1 _ rfl
  go_wp2_with fail
  refine with_boxes1 ?_
  intro X hX a
  have hsz := hk.size
  replace hk := hk.trans hX
  replace s := s.kept hX
  clear hX
  replace s_l := s.lt
  replace s_0 := s.at 0 _ rfl
  replace s_1 := s.at 1 _ rfl
  replace a_l := a.lt
  replace a_0 := a.at 0 _ rfl
  replace a_1 := a.at 1 _ rfl
  replace a_2 := a.at 2 _ rfl
  replace a_3 := a.at 3 _ rfl
  replace a_4 := a.at 4 _ rfl
  refine (num_any _ _).mono ?_
  rintro e w1 ⟨rfl, rfl⟩
  go_wp2
  go_ret
  exact ⟨rfl, hk⟩
theorem placeForms_walk (c x : Int) (w : World) :
    Calls Try.prog 5 #[.int .i64 c, .int .i64 x] w fun e w' => e = .returned (.bool true) ∧ Kept w w' := by
  obtain ⟨i, hi, i0, i1⟩ := urest2 c 11 (by decide)
  obtain ⟨q, hq, q0, q1⟩ := masked x 10 1023 (by decide) (by decide)
  rcases (by omega : i = 0 ∨ i = 1 ∨ i = 2 ∨ i = 3 ∨ i = 4 ∨ i = 5 ∨ i = 6 ∨ i = 7 ∨ i = 8 ∨ i = 9 ∨ i = 10) with rfl | rfl | rfl | rfl | rfl | rfl | rfl | rfl | rfl | rfl | rfl
  · exact placeForms_0 c x (1 + q) hi q hq rfl (by omega) (by omega) w
  · exact placeForms_1 c x (1 + q) hi q hq rfl (by omega) (by omega) w
  · exact placeForms_2 c x (1 + q) hi q hq rfl (by omega) (by omega) w
  · exact placeForms_3 c x (1 + q) hi q hq rfl (by omega) (by omega) w
  · exact placeForms_4 c x (1 + q) hi q hq rfl (by omega) (by omega) w
  · exact placeForms_5 c x (1 + q) hi q hq rfl (by omega) (by omega) w
  · exact placeForms_6 c x (1 + q) hi q hq rfl (by omega) (by omega) w
  · exact placeForms_7 c x (1 + q) hi q hq rfl (by omega) (by omega) w
  · exact placeForms_8 c x (1 + q) hi q hq rfl (by omega) (by omega) w
  · exact placeForms_9 c x (1 + q) hi q hq rfl (by omega) (by omega) w
  · exact placeForms_10 c x (1 + q) hi q hq rfl (by omega) (by omega) w
end Go.Proofs.Ytkdidhhilcamkaa
