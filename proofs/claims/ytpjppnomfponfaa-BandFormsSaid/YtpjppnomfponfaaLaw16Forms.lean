/- Layer 16: exclusions, rooms, numbers that may not be. -/
import Derived.Test.YtpjppnomfponfaaAwake16
import Derived.Test.YtpjppnomfponfaaStore
import Derived.Test.YtpjppnomfponfaaRowExclusions
namespace Go.Proofs.Ytpjppnomfponfaa
open Go.RowKit Go.Deep
set_option linter.unusedSimpArgs false
set_option linter.unusedVariables false
theorem excB_no {x : Exc} (h : ¬ ((1 ≤ x.side ∧ x.side ≤ 2) ∧ (0 ≤ x.si ∧ x.si ≤ 4194304) ∧ (0 ≤ x.sb ∧ x.sb ≤ 4194304) ∧ (0 ≤ x.ab ∧ x.ab ≤ 4194304) ∧ -1073741824 ≤ x.ai ∧ x.ai ≤ 1073741824)) : excB x = false := by
  cases hb : excB x
  · rfl
  · exact absurd (excB_parts hb) h
theorem mayX_one {room : Int} {E : Nat → Exc} (h : excB (E 0) = false) : mayX room 1 E = false := by unfold mayX; rw [allE_no (k := 0) (by decide) h, Bool.and_false]
theorem mayX_many {room : Int} {n : Nat} {E : Nat → Exc} (h : 32 < n) : mayX room n E = false := by unfold mayX; rw [decide_eq_false (by omega), Bool.and_false, Bool.false_and]
theorem mayX_room {room : Int} {n : Nat} {E : Nat → Exc} (h : inB 0 4194304 room = false) : mayX room n E = false := by unfold mayX; rw [h, Bool.false_and, Bool.false_and]
theorem ask_may {room y h : Int} {n : Nat} {E : Nat → Exc} (hb : mayX room n E = false) : askB room n E y h = false := by unfold askB; rw [hb, Bool.false_and]
theorem ask_y {room y h : Int} {n : Nat} {E : Nat → Exc} (hb : inB 0 4194304 y = false) : askB room n E y h = false := by unfold askB; rw [hb, Bool.false_and, Bool.and_false]
theorem ask_h {room y h : Int} {n : Nat} {E : Nat → Exc} (hb : inB 0 4194304 h = false) : askB room n E y h = false := by unfold askB; rw [hb, Bool.and_false, Bool.and_false]
theorem rv_nil (k : Nat) (w : World) (C : Nat → Nat → Value) : RV k w (.slice none 0 0) 0 C := .inl ⟨rfl, none, 0, rfl⟩
def gZ (i j : Nat) : Int := [0, 0, 3, 3, 1].getD j 0
set_option maxRecDepth 20000 in
set_option maxHeartbeats 4000000 in
theorem bandForms_0 (c x d : Int) (hi : (IntKind.u64.wrap c).tmod 11 = 0) (q : Int) (hq : bits .and .i64 x 1023 = q) (hqd : 1 + q = d) (d1 : 1 ≤ d) (d2 : d ≤ 1024) (w : World) :
    Calls Try.prog 4 #[.int .i64 c, .int .i64 x] w fun e w' => e = .returned (.bool true) ∧ Kept w w' := by
  obtain ⟨i0, hi0, hz0, hz1, hz2⟩ := info_parts exclusionsInfo
  have hb : mayX (100) 1 (excOf (zR [[0, 0, 3, 3, 0]])) = false := mayX_one (excB_no fun hp => by have h1 : (1 : Int) ≤ 0 := hp.1.1; omega)
  have Hb := Lib.hid hb
  clear hb
  have HY := Lib.hid (show inB 0 4194304 (-d) = false from inB_false.2 (by omega))
  have HH := Lib.hid (show inB 0 4194304 (4194304 + d) = false from inB_false.2 (by omega))
  have HC := Lib.hid (show clearB (-d) = false from inB_false.2 (by omega))
  have hk : Kept w w := Kept.refl w
  go_enter Try.func4, Try.ntmps4
  go_wp2_with fail
  refine (awake16_any _).mono ?_
  rintro e w1 ⟨rfl, hn⟩
  replace hk := hk.trans hn
  clear hn
  have hsz2 := hk.size
  go_wp2_with (at_builtin; refine wpList_append_own _ rfl _ _ 22 rfl w.heap.size 33 i0 (.agg #[.int .i64 0, .int .i64 0, .int .i64 0, .int .i64 0, .int .i64 0]) 5 40 Try.underlying22 hi0 hz0 hz1 hz2 rfl (by decide) _ _ _ rfl (World.ownsRow_nil _ _ _ _) ⟨w1.heap.size + 1 + 1, 0, none⟩ 1 1 [.int .i64 0, .int .i64 0, .int .i64 3, .int .i64 3, .int .i64 0] rfl rfl (lit_at ((w1.alloc (.cells #[.int .i64 0, .int .i64 0, .int .i64 3, .int .i64 3, .int .i64 1] 33)).alloc (.cells #[.int .i64 0, .int .i64 0, .int .i64 3, .int .i64 3, .int .i64 0] 33)) #[.int .i64 0, .int .i64 0, .int .i64 3, .int .i64 3, .int .i64 0] 33 (by simp)) (by simp [Value.oneCell']) (by unfold maxLen; omega) (by omega) (by simp; omega) ?_; intro v2 w2 hown2 hg2 _)
  replace hk := (((hk.alloc _).alloc _).alloc _).grown hg2 (fun q hq => by cases hq)
  have hrv : RV 5 w2 v2 1 (intC (zR [[0, 0, 3, 3, 0]])) := (newRow_of (show w2.ownsRow w.heap.size 33 5 v2 1 (flat 5 (intC (zR [[0, 0, 3, 3, 0]])) 1) from hown2)).rv
  clear hown2 hg2 hsz2
  go_wp2_with fail
  refine (bandBand_no _ 1 _ _ _ _ _ hrv (by decide) (ask_may Hb.out)).mono ?_
  rintro e w1 ⟨rfl, hn⟩
  replace hk := hk.trans hn
  replace hrv := hrv.kept hn
  clear hn
  go_wp2_with fail
  refine (bandBand_no _ 0 (zR []) _ _ _ _ (rv_nil _ _ _) (by decide) (ask_y HY.out)).mono ?_
  rintro e w1 ⟨rfl, hn⟩
  replace hk := hk.trans hn
  replace hrv := hrv.kept hn
  clear hn
  go_wp2_with fail
  refine (bandBand_no _ 0 (zR []) _ _ _ _ (rv_nil _ _ _) (by decide) (ask_h HH.out)).mono ?_
  rintro e w1 ⟨rfl, hn⟩
  replace hk := hk.trans hn
  replace hrv := hrv.kept hn
  clear hn
  go_wp2_with fail
  refine (bandBelow_no _ _ _ HC.out).mono ?_
  rintro e w1 ⟨rfl, hn⟩
  replace hk := hk.trans hn
  replace hrv := hrv.kept hn
  clear hn
  go_wp2_with fail
  refine (bandNext_is _ 0 (zR []) _ _ _ _ (rv_nil _ _ _) (by decide) rfl rfl).mono ?_
  rintro e w1 ⟨rfl, hn⟩
  replace hk := hk.trans hn
  replace hrv := hrv.kept hn
  clear hn
  go_wp2_with fail
  refine (bandMay_is _ _ 1 _ _ _ hrv (by decide) Hb.out).mono ?_
  rintro e w1 ⟨rfl, hn⟩
  replace hk := hk.trans hn
  replace hrv := hrv.kept hn
  clear hn
  go_wp2_with fail
  refine (num_any _ _).mono ?_
  rintro e w1 ⟨rfl, rfl⟩
  go_wp2_with fail
  refine (num_any _ _).mono ?_
  rintro e w1 ⟨rfl, rfl⟩
  go_wp2_with fail
  refine (num_any _ _).mono ?_
  rintro e w1 ⟨rfl, rfl⟩
  go_wp2_with fail
  refine (num_any _ _).mono ?_
  rintro e w1 ⟨rfl, rfl⟩
  go_wp2
  go_ret
  exact ⟨rfl, hk⟩
set_option maxRecDepth 20000 in
set_option maxHeartbeats 4000000 in
theorem bandForms_1 (c x d : Int) (hi : (IntKind.u64.wrap c).tmod 11 = 1) (q : Int) (hq : bits .and .i64 x 1023 = q) (hqd : 1 + q = d) (d1 : 1 ≤ d) (d2 : d ≤ 1024) (w : World) :
    Calls Try.prog 4 #[.int .i64 c, .int .i64 x] w fun e w' => e = .returned (.bool true) ∧ Kept w w' := by
  obtain ⟨i0, hi0, hz0, hz1, hz2⟩ := info_parts exclusionsInfo
  have hb : mayX (100) 1 (excOf (zR [[0, 0, 3, 3, 2 + d]])) = false := mayX_one (excB_no fun hp => by have h1 : 2 + d ≤ 2 := hp.1.2; omega)
  have Hb := Lib.hid hb
  clear hb
  have HY := Lib.hid (show inB 0 4194304 (-d) = false from inB_false.2 (by omega))
  have HH := Lib.hid (show inB 0 4194304 (4194304 + d) = false from inB_false.2 (by omega))
  have HC := Lib.hid (show clearB (-d) = false from inB_false.2 (by omega))
  have hk : Kept w w := Kept.refl w
  go_enter Try.func4, Try.ntmps4
  go_wp2_with fail
  refine (awake16_any _).mono ?_
  rintro e w1 ⟨rfl, hn⟩
  replace hk := hk.trans hn
  clear hn
  have hsz2 := hk.size
  go_wp2_with (at_builtin; refine wpList_append_own _ rfl _ _ 22 rfl w.heap.size 33 i0 (.agg #[.int .i64 0, .int .i64 0, .int .i64 0, .int .i64 0, .int .i64 0]) 5 40 Try.underlying22 hi0 hz0 hz1 hz2 rfl (by decide) _ _ _ rfl (World.ownsRow_nil _ _ _ _) ⟨w1.heap.size + 1 + 1, 0, none⟩ 1 1 [.int .i64 0, .int .i64 0, .int .i64 3, .int .i64 3, .int .i64 (2 + d)] rfl rfl (lit_at ((w1.alloc (.cells #[.int .i64 0, .int .i64 0, .int .i64 3, .int .i64 3, .int .i64 1] 33)).alloc (.cells #[.int .i64 0, .int .i64 0, .int .i64 3, .int .i64 3, .int .i64 (2 + d)] 33)) #[.int .i64 0, .int .i64 0, .int .i64 3, .int .i64 3, .int .i64 (2 + d)] 33 (by simp)) (by simp [Value.oneCell']) (by unfold maxLen; omega) (by omega) (by simp; omega) ?_; intro v2 w2 hown2 hg2 _)
  replace hk := (((hk.alloc _).alloc _).alloc _).grown hg2 (fun q hq => by cases hq)
  have hrv : RV 5 w2 v2 1 (intC (zR [[0, 0, 3, 3, 2 + d]])) := (newRow_of (show w2.ownsRow w.heap.size 33 5 v2 1 (flat 5 (intC (zR [[0, 0, 3, 3, 2 + d]])) 1) from hown2)).rv
  clear hown2 hg2 hsz2
  go_wp2_with fail
  refine (bandBand_no _ 1 _ _ _ _ _ hrv (by decide) (ask_may Hb.out)).mono ?_
  rintro e w1 ⟨rfl, hn⟩
  replace hk := hk.trans hn
  replace hrv := hrv.kept hn
  clear hn
  go_wp2_with fail
  refine (bandBand_no _ 0 (zR []) _ _ _ _ (rv_nil _ _ _) (by decide) (ask_y HY.out)).mono ?_
  rintro e w1 ⟨rfl, hn⟩
  replace hk := hk.trans hn
  replace hrv := hrv.kept hn
  clear hn
  go_wp2_with fail
  refine (bandBand_no _ 0 (zR []) _ _ _ _ (rv_nil _ _ _) (by decide) (ask_h HH.out)).mono ?_
  rintro e w1 ⟨rfl, hn⟩
  replace hk := hk.trans hn
  replace hrv := hrv.kept hn
  clear hn
  go_wp2_with fail
  refine (bandBelow_no _ _ _ HC.out).mono ?_
  rintro e w1 ⟨rfl, hn⟩
  replace hk := hk.trans hn
  replace hrv := hrv.kept hn
  clear hn
  go_wp2_with fail
  refine (bandNext_is _ 0 (zR []) _ _ _ _ (rv_nil _ _ _) (by decide) rfl rfl).mono ?_
  rintro e w1 ⟨rfl, hn⟩
  replace hk := hk.trans hn
  replace hrv := hrv.kept hn
  clear hn
  go_wp2_with fail
  refine (bandMay_is _ _ 1 _ _ _ hrv (by decide) Hb.out).mono ?_
  rintro e w1 ⟨rfl, hn⟩
  replace hk := hk.trans hn
  replace hrv := hrv.kept hn
  clear hn
  go_wp2_with fail
  refine (num_any _ _).mono ?_
  rintro e w1 ⟨rfl, rfl⟩
  go_wp2_with fail
  refine (num_any _ _).mono ?_
  rintro e w1 ⟨rfl, rfl⟩
  go_wp2_with fail
  refine (num_any _ _).mono ?_
  rintro e w1 ⟨rfl, rfl⟩
  go_wp2_with fail
  refine (num_any _ _).mono ?_
  rintro e w1 ⟨rfl, rfl⟩
  go_wp2
  go_ret
  exact ⟨rfl, hk⟩
set_option maxRecDepth 20000 in
set_option maxHeartbeats 4000000 in
theorem bandForms_2 (c x d : Int) (hi : (IntKind.u64.wrap c).tmod 11 = 2) (q : Int) (hq : bits .and .i64 x 1023 = q) (hqd : 1 + q = d) (d1 : 1 ≤ d) (d2 : d ≤ 1024) (w : World) :
    Calls Try.prog 4 #[.int .i64 c, .int .i64 x] w fun e w' => e = .returned (.bool true) ∧ Kept w w' := by
  obtain ⟨i0, hi0, hz0, hz1, hz2⟩ := info_parts exclusionsInfo
  have hb : mayX (100) 1 (excOf (zR [[0, 0, -d, 3, 1]])) = false := mayX_one (excB_no fun hp => by have h1 : (0 : Int) ≤ -d := hp.2.1.1; omega)
  have Hb := Lib.hid hb
  clear hb
  have HY := Lib.hid (show inB 0 4194304 (-d) = false from inB_false.2 (by omega))
  have HH := Lib.hid (show inB 0 4194304 (4194304 + d) = false from inB_false.2 (by omega))
  have HC := Lib.hid (show clearB (-d) = false from inB_false.2 (by omega))
  have hk : Kept w w := Kept.refl w
  go_enter Try.func4, Try.ntmps4
  go_wp2_with fail
  refine (awake16_any _).mono ?_
  rintro e w1 ⟨rfl, hn⟩
  replace hk := hk.trans hn
  clear hn
  have hsz2 := hk.size
  go_wp2_with (at_builtin; refine wpList_append_own _ rfl _ _ 22 rfl w.heap.size 33 i0 (.agg #[.int .i64 0, .int .i64 0, .int .i64 0, .int .i64 0, .int .i64 0]) 5 40 Try.underlying22 hi0 hz0 hz1 hz2 rfl (by decide) _ _ _ rfl (World.ownsRow_nil _ _ _ _) ⟨w1.heap.size + 1 + 1, 0, none⟩ 1 1 [.int .i64 0, .int .i64 0, .int .i64 (-d), .int .i64 3, .int .i64 1] rfl rfl (lit_at ((w1.alloc (.cells #[.int .i64 0, .int .i64 0, .int .i64 3, .int .i64 3, .int .i64 1] 33)).alloc (.cells #[.int .i64 0, .int .i64 0, .int .i64 (-d), .int .i64 3, .int .i64 1] 33)) #[.int .i64 0, .int .i64 0, .int .i64 (-d), .int .i64 3, .int .i64 1] 33 (by simp)) (by simp [Value.oneCell']) (by unfold maxLen; omega) (by omega) (by simp; omega) ?_; intro v2 w2 hown2 hg2 _)
  replace hk := (((hk.alloc _).alloc _).alloc _).grown hg2 (fun q hq => by cases hq)
  have hrv : RV 5 w2 v2 1 (intC (zR [[0, 0, -d, 3, 1]])) := (newRow_of (show w2.ownsRow w.heap.size 33 5 v2 1 (flat 5 (intC (zR [[0, 0, -d, 3, 1]])) 1) from hown2)).rv
  clear hown2 hg2 hsz2
  go_wp2_with fail
  refine (bandBand_no _ 1 _ _ _ _ _ hrv (by decide) (ask_may Hb.out)).mono ?_
  rintro e w1 ⟨rfl, hn⟩
  replace hk := hk.trans hn
  replace hrv := hrv.kept hn
  clear hn
  go_wp2_with fail
  refine (bandBand_no _ 0 (zR []) _ _ _ _ (rv_nil _ _ _) (by decide) (ask_y HY.out)).mono ?_
  rintro e w1 ⟨rfl, hn⟩
  replace hk := hk.trans hn
  replace hrv := hrv.kept hn
  clear hn
  go_wp2_with fail
  refine (bandBand_no _ 0 (zR []) _ _ _ _ (rv_nil _ _ _) (by decide) (ask_h HH.out)).mono ?_
  rintro e w1 ⟨rfl, hn⟩
  replace hk := hk.trans hn
  replace hrv := hrv.kept hn
  clear hn
  go_wp2_with fail
  refine (bandBelow_no _ _ _ HC.out).mono ?_
  rintro e w1 ⟨rfl, hn⟩
  replace hk := hk.trans hn
  replace hrv := hrv.kept hn
  clear hn
  go_wp2_with fail
  refine (bandNext_is _ 0 (zR []) _ _ _ _ (rv_nil _ _ _) (by decide) rfl rfl).mono ?_
  rintro e w1 ⟨rfl, hn⟩
  replace hk := hk.trans hn
  replace hrv := hrv.kept hn
  clear hn
  go_wp2_with fail
  refine (bandMay_is _ _ 1 _ _ _ hrv (by decide) Hb.out).mono ?_
  rintro e w1 ⟨rfl, hn⟩
  replace hk := hk.trans hn
  replace hrv := hrv.kept hn
  clear hn
  go_wp2_with fail
  refine (num_any _ _).mono ?_
  rintro e w1 ⟨rfl, rfl⟩
  go_wp2_with fail
  refine (num_any _ _).mono ?_
  rintro e w1 ⟨rfl, rfl⟩
  go_wp2_with fail
  refine (num_any _ _).mono ?_
  rintro e w1 ⟨rfl, rfl⟩
  go_wp2_with fail
  refine (num_any _ _).mono ?_
  rintro e w1 ⟨rfl, rfl⟩
  go_wp2
  go_ret
  exact ⟨rfl, hk⟩
set_option maxRecDepth 20000 in
set_option maxHeartbeats 4000000 in
theorem bandForms_3 (c x d : Int) (hi : (IntKind.u64.wrap c).tmod 11 = 3) (q : Int) (hq : bits .and .i64 x 1023 = q) (hqd : 1 + q = d) (d1 : 1 ≤ d) (d2 : d ≤ 1024) (w : World) :
    Calls Try.prog 4 #[.int .i64 c, .int .i64 x] w fun e w' => e = .returned (.bool true) ∧ Kept w w' := by
  obtain ⟨i0, hi0, hz0, hz1, hz2⟩ := info_parts exclusionsInfo
  have hb : mayX (100) 1 (excOf (zR [[0, 0, 3, 4194304 + d, 1]])) = false := mayX_one (excB_no fun hp => by have h1 : 4194304 + d ≤ 4194304 := hp.2.2.1.2; omega)
  have Hb := Lib.hid hb
  clear hb
  have HY := Lib.hid (show inB 0 4194304 (-d) = false from inB_false.2 (by omega))
  have HH := Lib.hid (show inB 0 4194304 (4194304 + d) = false from inB_false.2 (by omega))
  have HC := Lib.hid (show clearB (-d) = false from inB_false.2 (by omega))
  have hk : Kept w w := Kept.refl w
  go_enter Try.func4, Try.ntmps4
  go_wp2_with fail
  refine (awake16_any _).mono ?_
  rintro e w1 ⟨rfl, hn⟩
  replace hk := hk.trans hn
  clear hn
  have hsz2 := hk.size
  go_wp2_with (at_builtin; refine wpList_append_own _ rfl _ _ 22 rfl w.heap.size 33 i0 (.agg #[.int .i64 0, .int .i64 0, .int .i64 0, .int .i64 0, .int .i64 0]) 5 40 Try.underlying22 hi0 hz0 hz1 hz2 rfl (by decide) _ _ _ rfl (World.ownsRow_nil _ _ _ _) ⟨w1.heap.size + 1 + 1, 0, none⟩ 1 1 [.int .i64 0, .int .i64 0, .int .i64 3, .int .i64 (4194304 + d), .int .i64 1] rfl rfl (lit_at ((w1.alloc (.cells #[.int .i64 0, .int .i64 0, .int .i64 3, .int .i64 3, .int .i64 1] 33)).alloc (.cells #[.int .i64 0, .int .i64 0, .int .i64 3, .int .i64 (4194304 + d), .int .i64 1] 33)) #[.int .i64 0, .int .i64 0, .int .i64 3, .int .i64 (4194304 + d), .int .i64 1] 33 (by simp)) (by simp [Value.oneCell']) (by unfold maxLen; omega) (by omega) (by simp; omega) ?_; intro v2 w2 hown2 hg2 _)
  replace hk := (((hk.alloc _).alloc _).alloc _).grown hg2 (fun q hq => by cases hq)
  have hrv : RV 5 w2 v2 1 (intC (zR [[0, 0, 3, 4194304 + d, 1]])) := (newRow_of (show w2.ownsRow w.heap.size 33 5 v2 1 (flat 5 (intC (zR [[0, 0, 3, 4194304 + d, 1]])) 1) from hown2)).rv
  clear hown2 hg2 hsz2
  go_wp2_with fail
  refine (bandBand_no _ 1 _ _ _ _ _ hrv (by decide) (ask_may Hb.out)).mono ?_
  rintro e w1 ⟨rfl, hn⟩
  replace hk := hk.trans hn
  replace hrv := hrv.kept hn
  clear hn
  go_wp2_with fail
  refine (bandBand_no _ 0 (zR []) _ _ _ _ (rv_nil _ _ _) (by decide) (ask_y HY.out)).mono ?_
  rintro e w1 ⟨rfl, hn⟩
  replace hk := hk.trans hn
  replace hrv := hrv.kept hn
  clear hn
  go_wp2_with fail
  refine (bandBand_no _ 0 (zR []) _ _ _ _ (rv_nil _ _ _) (by decide) (ask_h HH.out)).mono ?_
  rintro e w1 ⟨rfl, hn⟩
  replace hk := hk.trans hn
  replace hrv := hrv.kept hn
  clear hn
  go_wp2_with fail
  refine (bandBelow_no _ _ _ HC.out).mono ?_
  rintro e w1 ⟨rfl, hn⟩
  replace hk := hk.trans hn
  replace hrv := hrv.kept hn
  clear hn
  go_wp2_with fail
  refine (bandNext_is _ 0 (zR []) _ _ _ _ (rv_nil _ _ _) (by decide) rfl rfl).mono ?_
  rintro e w1 ⟨rfl, hn⟩
  replace hk := hk.trans hn
  replace hrv := hrv.kept hn
  clear hn
  go_wp2_with fail
  refine (bandMay_is _ _ 1 _ _ _ hrv (by decide) Hb.out).mono ?_
  rintro e w1 ⟨rfl, hn⟩
  replace hk := hk.trans hn
  replace hrv := hrv.kept hn
  clear hn
  go_wp2_with fail
  refine (num_any _ _).mono ?_
  rintro e w1 ⟨rfl, rfl⟩
  go_wp2_with fail
  refine (num_any _ _).mono ?_
  rintro e w1 ⟨rfl, rfl⟩
  go_wp2_with fail
  refine (num_any _ _).mono ?_
  rintro e w1 ⟨rfl, rfl⟩
  go_wp2_with fail
  refine (num_any _ _).mono ?_
  rintro e w1 ⟨rfl, rfl⟩
  go_wp2
  go_ret
  exact ⟨rfl, hk⟩
set_option maxRecDepth 20000 in
set_option maxHeartbeats 4000000 in
theorem bandForms_4 (c x d : Int) (hi : (IntKind.u64.wrap c).tmod 11 = 4) (q : Int) (hq : bits .and .i64 x 1023 = q) (hqd : 1 + q = d) (d1 : 1 ≤ d) (d2 : d ≤ 1024) (w : World) :
    Calls Try.prog 4 #[.int .i64 c, .int .i64 x] w fun e w' => e = .returned (.bool true) ∧ Kept w w' := by
  obtain ⟨i0, hi0, hz0, hz1, hz2⟩ := info_parts exclusionsInfo
  have hb : mayX (100) 1 (excOf (zR [[0, -d, 3, 3, 1]])) = false := mayX_one (excB_no fun hp => by have h1 : (0 : Int) ≤ -d := hp.2.2.2.1.1; omega)
  have Hb := Lib.hid hb
  clear hb
  have HY := Lib.hid (show inB 0 4194304 (-d) = false from inB_false.2 (by omega))
  have HH := Lib.hid (show inB 0 4194304 (4194304 + d) = false from inB_false.2 (by omega))
  have HC := Lib.hid (show clearB (-d) = false from inB_false.2 (by omega))
  have hk : Kept w w := Kept.refl w
  go_enter Try.func4, Try.ntmps4
  go_wp2_with fail
  refine (awake16_any _).mono ?_
  rintro e w1 ⟨rfl, hn⟩
  replace hk := hk.trans hn
  clear hn
  have hsz2 := hk.size
  go_wp2_with (at_builtin; refine wpList_append_own _ rfl _ _ 22 rfl w.heap.size 33 i0 (.agg #[.int .i64 0, .int .i64 0, .int .i64 0, .int .i64 0, .int .i64 0]) 5 40 Try.underlying22 hi0 hz0 hz1 hz2 rfl (by decide) _ _ _ rfl (World.ownsRow_nil _ _ _ _) ⟨w1.heap.size + 1 + 1, 0, none⟩ 1 1 [.int .i64 0, .int .i64 (-d), .int .i64 3, .int .i64 3, .int .i64 1] rfl rfl (lit_at ((w1.alloc (.cells #[.int .i64 0, .int .i64 0, .int .i64 3, .int .i64 3, .int .i64 1] 33)).alloc (.cells #[.int .i64 0, .int .i64 (-d), .int .i64 3, .int .i64 3, .int .i64 1] 33)) #[.int .i64 0, .int .i64 (-d), .int .i64 3, .int .i64 3, .int .i64 1] 33 (by simp)) (by simp [Value.oneCell']) (by unfold maxLen; omega) (by omega) (by simp; omega) ?_; intro v2 w2 hown2 hg2 _)
  replace hk := (((hk.alloc _).alloc _).alloc _).grown hg2 (fun q hq => by cases hq)
  have hrv : RV 5 w2 v2 1 (intC (zR [[0, -d, 3, 3, 1]])) := (newRow_of (show w2.ownsRow w.heap.size 33 5 v2 1 (flat 5 (intC (zR [[0, -d, 3, 3, 1]])) 1) from hown2)).rv
  clear hown2 hg2 hsz2
  go_wp2_with fail
  refine (bandBand_no _ 1 _ _ _ _ _ hrv (by decide) (ask_may Hb.out)).mono ?_
  rintro e w1 ⟨rfl, hn⟩
  replace hk := hk.trans hn
  replace hrv := hrv.kept hn
  clear hn
  go_wp2_with fail
  refine (bandBand_no _ 0 (zR []) _ _ _ _ (rv_nil _ _ _) (by decide) (ask_y HY.out)).mono ?_
  rintro e w1 ⟨rfl, hn⟩
  replace hk := hk.trans hn
  replace hrv := hrv.kept hn
  clear hn
  go_wp2_with fail
  refine (bandBand_no _ 0 (zR []) _ _ _ _ (rv_nil _ _ _) (by decide) (ask_h HH.out)).mono ?_
  rintro e w1 ⟨rfl, hn⟩
  replace hk := hk.trans hn
  replace hrv := hrv.kept hn
  clear hn
  go_wp2_with fail
  refine (bandBelow_no _ _ _ HC.out).mono ?_
  rintro e w1 ⟨rfl, hn⟩
  replace hk := hk.trans hn
  replace hrv := hrv.kept hn
  clear hn
  go_wp2_with fail
  refine (bandNext_is _ 0 (zR []) _ _ _ _ (rv_nil _ _ _) (by decide) rfl rfl).mono ?_
  rintro e w1 ⟨rfl, hn⟩
  replace hk := hk.trans hn
  replace hrv := hrv.kept hn
  clear hn
  go_wp2_with fail
  refine (bandMay_is _ _ 1 _ _ _ hrv (by decide) Hb.out).mono ?_
  rintro e w1 ⟨rfl, hn⟩
  replace hk := hk.trans hn
  replace hrv := hrv.kept hn
  clear hn
  go_wp2_with fail
  refine (num_any _ _).mono ?_
  rintro e w1 ⟨rfl, rfl⟩
  go_wp2_with fail
  refine (num_any _ _).mono ?_
  rintro e w1 ⟨rfl, rfl⟩
  go_wp2_with fail
  refine (num_any _ _).mono ?_
  rintro e w1 ⟨rfl, rfl⟩
  go_wp2_with fail
  refine (num_any _ _).mono ?_
  rintro e w1 ⟨rfl, rfl⟩
  go_wp2
  go_ret
  exact ⟨rfl, hk⟩
set_option maxRecDepth 20000 in
set_option maxHeartbeats 4000000 in
theorem bandForms_5 (c x d : Int) (hi : (IntKind.u64.wrap c).tmod 11 = 5) (q : Int) (hq : bits .and .i64 x 1023 = q) (hqd : 1 + q = d) (d1 : 1 ≤ d) (d2 : d ≤ 1024) (w : World) :
    Calls Try.prog 4 #[.int .i64 c, .int .i64 x] w fun e w' => e = .returned (.bool true) ∧ Kept w w' := by
  obtain ⟨i0, hi0, hz0, hz1, hz2⟩ := info_parts exclusionsInfo
  have hb : mayX (100) 1 (excOf (zR [[1073741824 + d, 0, 3, 3, 1]])) = false := mayX_one (excB_no fun hp => by have h1 : 1073741824 + d ≤ 1073741824 := hp.2.2.2.2.2; omega)
  have Hb := Lib.hid hb
  clear hb
  have HY := Lib.hid (show inB 0 4194304 (-d) = false from inB_false.2 (by omega))
  have HH := Lib.hid (show inB 0 4194304 (4194304 + d) = false from inB_false.2 (by omega))
  have HC := Lib.hid (show clearB (-d) = false from inB_false.2 (by omega))
  have hk : Kept w w := Kept.refl w
  go_enter Try.func4, Try.ntmps4
  go_wp2_with fail
  refine (awake16_any _).mono ?_
  rintro e w1 ⟨rfl, hn⟩
  replace hk := hk.trans hn
  clear hn
  have hsz2 := hk.size
  go_wp2_with (at_builtin; refine wpList_append_own _ rfl _ _ 22 rfl w.heap.size 33 i0 (.agg #[.int .i64 0, .int .i64 0, .int .i64 0, .int .i64 0, .int .i64 0]) 5 40 Try.underlying22 hi0 hz0 hz1 hz2 rfl (by decide) _ _ _ rfl (World.ownsRow_nil _ _ _ _) ⟨w1.heap.size + 1 + 1, 0, none⟩ 1 1 [.int .i64 (1073741824 + d), .int .i64 0, .int .i64 3, .int .i64 3, .int .i64 1] rfl rfl (lit_at ((w1.alloc (.cells #[.int .i64 0, .int .i64 0, .int .i64 3, .int .i64 3, .int .i64 1] 33)).alloc (.cells #[.int .i64 (1073741824 + d), .int .i64 0, .int .i64 3, .int .i64 3, .int .i64 1] 33)) #[.int .i64 (1073741824 + d), .int .i64 0, .int .i64 3, .int .i64 3, .int .i64 1] 33 (by simp)) (by simp [Value.oneCell']) (by unfold maxLen; omega) (by omega) (by simp; omega) ?_; intro v2 w2 hown2 hg2 _)
  replace hk := (((hk.alloc _).alloc _).alloc _).grown hg2 (fun q hq => by cases hq)
  have hrv : RV 5 w2 v2 1 (intC (zR [[1073741824 + d, 0, 3, 3, 1]])) := (newRow_of (show w2.ownsRow w.heap.size 33 5 v2 1 (flat 5 (intC (zR [[1073741824 + d, 0, 3, 3, 1]])) 1) from hown2)).rv
  clear hown2 hg2 hsz2
  go_wp2_with fail
  refine (bandBand_no _ 1 _ _ _ _ _ hrv (by decide) (ask_may Hb.out)).mono ?_
  rintro e w1 ⟨rfl, hn⟩
  replace hk := hk.trans hn
  replace hrv := hrv.kept hn
  clear hn
  go_wp2_with fail
  refine (bandBand_no _ 0 (zR []) _ _ _ _ (rv_nil _ _ _) (by decide) (ask_y HY.out)).mono ?_
  rintro e w1 ⟨rfl, hn⟩
  replace hk := hk.trans hn
  replace hrv := hrv.kept hn
  clear hn
  go_wp2_with fail
  refine (bandBand_no _ 0 (zR []) _ _ _ _ (rv_nil _ _ _) (by decide) (ask_h HH.out)).mono ?_
  rintro e w1 ⟨rfl, hn⟩
  replace hk := hk.trans hn
  replace hrv := hrv.kept hn
  clear hn
  go_wp2_with fail
  refine (bandBelow_no _ _ _ HC.out).mono ?_
  rintro e w1 ⟨rfl, hn⟩
  replace hk := hk.trans hn
  replace hrv := hrv.kept hn
  clear hn
  go_wp2_with fail
  refine (bandNext_is _ 0 (zR []) _ _ _ _ (rv_nil _ _ _) (by decide) rfl rfl).mono ?_
  rintro e w1 ⟨rfl, hn⟩
  replace hk := hk.trans hn
  replace hrv := hrv.kept hn
  clear hn
  go_wp2_with fail
  refine (bandMay_is _ _ 1 _ _ _ hrv (by decide) Hb.out).mono ?_
  rintro e w1 ⟨rfl, hn⟩
  replace hk := hk.trans hn
  replace hrv := hrv.kept hn
  clear hn
  go_wp2_with fail
  refine (num_any _ _).mono ?_
  rintro e w1 ⟨rfl, rfl⟩
  go_wp2_with fail
  refine (num_any _ _).mono ?_
  rintro e w1 ⟨rfl, rfl⟩
  go_wp2_with fail
  refine (num_any _ _).mono ?_
  rintro e w1 ⟨rfl, rfl⟩
  go_wp2_with fail
  refine (num_any _ _).mono ?_
  rintro e w1 ⟨rfl, rfl⟩
  go_wp2
  go_ret
  exact ⟨rfl, hk⟩
set_option maxRecDepth 20000 in
set_option maxHeartbeats 4000000 in
theorem bandForms_6 (c x d : Int) (hi : (IntKind.u64.wrap c).tmod 11 = 6) (q : Int) (hq : bits .and .i64 x 1023 = q) (hqd : 1 + q = d) (d1 : 1 ≤ d) (d2 : d ≤ 1024) (w : World) :
    Calls Try.prog 4 #[.int .i64 c, .int .i64 x] w fun e w' => e = .returned (.bool true) ∧ Kept w w' := by
  obtain ⟨i0, hi0, hz0, hz1, hz2⟩ := info_parts exclusionsInfo
  have hb : mayX (100) 1 (excOf (zR [[0, 4194304 + d, 3, 3, 1]])) = false := mayX_one (excB_no fun hp => by have h1 : 4194304 + d ≤ 4194304 := hp.2.2.2.1.2; omega)
  have Hb := Lib.hid hb
  clear hb
  have HY := Lib.hid (show inB 0 4194304 (-d) = false from inB_false.2 (by omega))
  have HH := Lib.hid (show inB 0 4194304 (4194304 + d) = false from inB_false.2 (by omega))
  have HC := Lib.hid (show clearB (-d) = false from inB_false.2 (by omega))
  have hk : Kept w w := Kept.refl w
  go_enter Try.func4, Try.ntmps4
  go_wp2_with fail
  refine (awake16_any _).mono ?_
  rintro e w1 ⟨rfl, hn⟩
  replace hk := hk.trans hn
  clear hn
  have hsz2 := hk.size
  go_wp2_with (at_builtin; refine wpList_append_own _ rfl _ _ 22 rfl w.heap.size 33 i0 (.agg #[.int .i64 0, .int .i64 0, .int .i64 0, .int .i64 0, .int .i64 0]) 5 40 Try.underlying22 hi0 hz0 hz1 hz2 rfl (by decide) _ _ _ rfl (World.ownsRow_nil _ _ _ _) ⟨w1.heap.size + 1 + 1, 0, none⟩ 1 1 [.int .i64 0, .int .i64 (4194304 + d), .int .i64 3, .int .i64 3, .int .i64 1] rfl rfl (lit_at ((w1.alloc (.cells #[.int .i64 0, .int .i64 0, .int .i64 3, .int .i64 3, .int .i64 1] 33)).alloc (.cells #[.int .i64 0, .int .i64 (4194304 + d), .int .i64 3, .int .i64 3, .int .i64 1] 33)) #[.int .i64 0, .int .i64 (4194304 + d), .int .i64 3, .int .i64 3, .int .i64 1] 33 (by simp)) (by simp [Value.oneCell']) (by unfold maxLen; omega) (by omega) (by simp; omega) ?_; intro v2 w2 hown2 hg2 _)
  replace hk := (((hk.alloc _).alloc _).alloc _).grown hg2 (fun q hq => by cases hq)
  have hrv : RV 5 w2 v2 1 (intC (zR [[0, 4194304 + d, 3, 3, 1]])) := (newRow_of (show w2.ownsRow w.heap.size 33 5 v2 1 (flat 5 (intC (zR [[0, 4194304 + d, 3, 3, 1]])) 1) from hown2)).rv
  clear hown2 hg2 hsz2
  go_wp2_with fail
  refine (bandBand_no _ 1 _ _ _ _ _ hrv (by decide) (ask_may Hb.out)).mono ?_
  rintro e w1 ⟨rfl, hn⟩
  replace hk := hk.trans hn
  replace hrv := hrv.kept hn
  clear hn
  go_wp2_with fail
  refine (bandBand_no _ 0 (zR []) _ _ _ _ (rv_nil _ _ _) (by decide) (ask_y HY.out)).mono ?_
  rintro e w1 ⟨rfl, hn⟩
  replace hk := hk.trans hn
  replace hrv := hrv.kept hn
  clear hn
  go_wp2_with fail
  refine (bandBand_no _ 0 (zR []) _ _ _ _ (rv_nil _ _ _) (by decide) (ask_h HH.out)).mono ?_
  rintro e w1 ⟨rfl, hn⟩
  replace hk := hk.trans hn
  replace hrv := hrv.kept hn
  clear hn
  go_wp2_with fail
  refine (bandBelow_no _ _ _ HC.out).mono ?_
  rintro e w1 ⟨rfl, hn⟩
  replace hk := hk.trans hn
  replace hrv := hrv.kept hn
  clear hn
  go_wp2_with fail
  refine (bandNext_is _ 0 (zR []) _ _ _ _ (rv_nil _ _ _) (by decide) rfl rfl).mono ?_
  rintro e w1 ⟨rfl, hn⟩
  replace hk := hk.trans hn
  replace hrv := hrv.kept hn
  clear hn
  go_wp2_with fail
  refine (bandMay_is _ _ 1 _ _ _ hrv (by decide) Hb.out).mono ?_
  rintro e w1 ⟨rfl, hn⟩
  replace hk := hk.trans hn
  replace hrv := hrv.kept hn
  clear hn
  go_wp2_with fail
  refine (num_any _ _).mono ?_
  rintro e w1 ⟨rfl, rfl⟩
  go_wp2_with fail
  refine (num_any _ _).mono ?_
  rintro e w1 ⟨rfl, rfl⟩
  go_wp2_with fail
  refine (num_any _ _).mono ?_
  rintro e w1 ⟨rfl, rfl⟩
  go_wp2_with fail
  refine (num_any _ _).mono ?_
  rintro e w1 ⟨rfl, rfl⟩
  go_wp2
  go_ret
  exact ⟨rfl, hk⟩
set_option maxRecDepth 20000 in
set_option maxHeartbeats 4000000 in
theorem bandForms_7 (c x d : Int) (hi : (IntKind.u64.wrap c).tmod 11 = 7) (q : Int) (hq : bits .and .i64 x 1023 = q) (hqd : 1 + q = d) (d1 : 1 ≤ d) (d2 : d ≤ 1024) (w : World) :
    Calls Try.prog 4 #[.int .i64 c, .int .i64 x] w fun e w' => e = .returned (.bool true) ∧ Kept w w' := by
  obtain ⟨i0, hi0, hz0, hz1, hz2⟩ := info_parts exclusionsInfo
  have hb : mayX (-d) 1 (excOf (zR [[0, 0, 3, 3, 1]])) = false := mayX_room (inB_false.2 (by omega))
  have Hb := Lib.hid hb
  clear hb
  have HY := Lib.hid (show inB 0 4194304 (-d) = false from inB_false.2 (by omega))
  have HH := Lib.hid (show inB 0 4194304 (4194304 + d) = false from inB_false.2 (by omega))
  have HC := Lib.hid (show clearB (-d) = false from inB_false.2 (by omega))
  have hk : Kept w w := Kept.refl w
  go_enter Try.func4, Try.ntmps4
  go_wp2_with fail
  refine (awake16_any _).mono ?_
  rintro e w1 ⟨rfl, hn⟩
  replace hk := hk.trans hn
  clear hn
  have hsz2 := hk.size
  go_wp2_with (at_builtin; refine wpList_append_own _ rfl _ _ 22 rfl w.heap.size 33 i0 (.agg #[.int .i64 0, .int .i64 0, .int .i64 0, .int .i64 0, .int .i64 0]) 5 40 Try.underlying22 hi0 hz0 hz1 hz2 rfl (by decide) _ _ _ rfl (World.ownsRow_nil _ _ _ _) ⟨w1.heap.size + 1 + 1, 0, none⟩ 1 1 [.int .i64 0, .int .i64 0, .int .i64 3, .int .i64 3, .int .i64 1] rfl rfl (lit_at ((w1.alloc (.cells #[.int .i64 0, .int .i64 0, .int .i64 3, .int .i64 3, .int .i64 1] 33)).alloc (.cells #[.int .i64 0, .int .i64 0, .int .i64 3, .int .i64 3, .int .i64 1] 33)) #[.int .i64 0, .int .i64 0, .int .i64 3, .int .i64 3, .int .i64 1] 33 (by simp)) (by simp [Value.oneCell']) (by unfold maxLen; omega) (by omega) (by simp; omega) ?_; intro v2 w2 hown2 hg2 _)
  replace hk := (((hk.alloc _).alloc _).alloc _).grown hg2 (fun q hq => by cases hq)
  have hrv : RV 5 w2 v2 1 (intC (zR [[0, 0, 3, 3, 1]])) := (newRow_of (show w2.ownsRow w.heap.size 33 5 v2 1 (flat 5 (intC (zR [[0, 0, 3, 3, 1]])) 1) from hown2)).rv
  clear hown2 hg2 hsz2
  go_wp2_with fail
  refine (bandBand_no _ 1 _ _ _ _ _ hrv (by decide) (ask_may Hb.out)).mono ?_
  rintro e w1 ⟨rfl, hn⟩
  replace hk := hk.trans hn
  replace hrv := hrv.kept hn
  clear hn
  go_wp2_with fail
  refine (bandBand_no _ 0 (zR []) _ _ _ _ (rv_nil _ _ _) (by decide) (ask_y HY.out)).mono ?_
  rintro e w1 ⟨rfl, hn⟩
  replace hk := hk.trans hn
  replace hrv := hrv.kept hn
  clear hn
  go_wp2_with fail
  refine (bandBand_no _ 0 (zR []) _ _ _ _ (rv_nil _ _ _) (by decide) (ask_h HH.out)).mono ?_
  rintro e w1 ⟨rfl, hn⟩
  replace hk := hk.trans hn
  replace hrv := hrv.kept hn
  clear hn
  go_wp2_with fail
  refine (bandBelow_no _ _ _ HC.out).mono ?_
  rintro e w1 ⟨rfl, hn⟩
  replace hk := hk.trans hn
  replace hrv := hrv.kept hn
  clear hn
  go_wp2_with fail
  refine (bandNext_is _ 0 (zR []) _ _ _ _ (rv_nil _ _ _) (by decide) rfl rfl).mono ?_
  rintro e w1 ⟨rfl, hn⟩
  replace hk := hk.trans hn
  replace hrv := hrv.kept hn
  clear hn
  go_wp2_with fail
  refine (bandMay_is _ _ 1 _ _ _ hrv (by decide) Hb.out).mono ?_
  rintro e w1 ⟨rfl, hn⟩
  replace hk := hk.trans hn
  replace hrv := hrv.kept hn
  clear hn
  go_wp2_with fail
  refine (num_any _ _).mono ?_
  rintro e w1 ⟨rfl, rfl⟩
  go_wp2_with fail
  refine (num_any _ _).mono ?_
  rintro e w1 ⟨rfl, rfl⟩
  go_wp2_with fail
  refine (num_any _ _).mono ?_
  rintro e w1 ⟨rfl, rfl⟩
  go_wp2_with fail
  refine (num_any _ _).mono ?_
  rintro e w1 ⟨rfl, rfl⟩
  go_wp2
  go_ret
  exact ⟨rfl, hk⟩
set_option maxRecDepth 20000 in
set_option maxHeartbeats 4000000 in
theorem bandForms_8 (c x d : Int) (hi : (IntKind.u64.wrap c).tmod 11 = 8) (q : Int) (hq : bits .and .i64 x 1023 = q) (hqd : 1 + q = d) (d1 : 1 ≤ d) (d2 : d ≤ 1024) (w : World) :
    Calls Try.prog 4 #[.int .i64 c, .int .i64 x] w fun e w' => e = .returned (.bool true) ∧ Kept w w' := by
  obtain ⟨i0, hi0, hz0, hz1, hz2⟩ := info_parts exclusionsInfo
  have hb : mayX (4194304 + d) 1 (excOf (zR [[0, 0, 3, 3, 1]])) = false := mayX_room (inB_false.2 (by omega))
  have Hb := Lib.hid hb
  clear hb
  have HY := Lib.hid (show inB 0 4194304 (-d) = false from inB_false.2 (by omega))
  have HH := Lib.hid (show inB 0 4194304 (4194304 + d) = false from inB_false.2 (by omega))
  have HC := Lib.hid (show clearB (-d) = false from inB_false.2 (by omega))
  have hk : Kept w w := Kept.refl w
  go_enter Try.func4, Try.ntmps4
  go_wp2_with fail
  refine (awake16_any _).mono ?_
  rintro e w1 ⟨rfl, hn⟩
  replace hk := hk.trans hn
  clear hn
  have hsz2 := hk.size
  go_wp2_with (at_builtin; refine wpList_append_own _ rfl _ _ 22 rfl w.heap.size 33 i0 (.agg #[.int .i64 0, .int .i64 0, .int .i64 0, .int .i64 0, .int .i64 0]) 5 40 Try.underlying22 hi0 hz0 hz1 hz2 rfl (by decide) _ _ _ rfl (World.ownsRow_nil _ _ _ _) ⟨w1.heap.size + 1 + 1, 0, none⟩ 1 1 [.int .i64 0, .int .i64 0, .int .i64 3, .int .i64 3, .int .i64 1] rfl rfl (lit_at ((w1.alloc (.cells #[.int .i64 0, .int .i64 0, .int .i64 3, .int .i64 3, .int .i64 1] 33)).alloc (.cells #[.int .i64 0, .int .i64 0, .int .i64 3, .int .i64 3, .int .i64 1] 33)) #[.int .i64 0, .int .i64 0, .int .i64 3, .int .i64 3, .int .i64 1] 33 (by simp)) (by simp [Value.oneCell']) (by unfold maxLen; omega) (by omega) (by simp; omega) ?_; intro v2 w2 hown2 hg2 _)
  replace hk := (((hk.alloc _).alloc _).alloc _).grown hg2 (fun q hq => by cases hq)
  have hrv : RV 5 w2 v2 1 (intC (zR [[0, 0, 3, 3, 1]])) := (newRow_of (show w2.ownsRow w.heap.size 33 5 v2 1 (flat 5 (intC (zR [[0, 0, 3, 3, 1]])) 1) from hown2)).rv
  clear hown2 hg2 hsz2
  go_wp2_with fail
  refine (bandBand_no _ 1 _ _ _ _ _ hrv (by decide) (ask_may Hb.out)).mono ?_
  rintro e w1 ⟨rfl, hn⟩
  replace hk := hk.trans hn
  replace hrv := hrv.kept hn
  clear hn
  go_wp2_with fail
  refine (bandBand_no _ 0 (zR []) _ _ _ _ (rv_nil _ _ _) (by decide) (ask_y HY.out)).mono ?_
  rintro e w1 ⟨rfl, hn⟩
  replace hk := hk.trans hn
  replace hrv := hrv.kept hn
  clear hn
  go_wp2_with fail
  refine (bandBand_no _ 0 (zR []) _ _ _ _ (rv_nil _ _ _) (by decide) (ask_h HH.out)).mono ?_
  rintro e w1 ⟨rfl, hn⟩
  replace hk := hk.trans hn
  replace hrv := hrv.kept hn
  clear hn
  go_wp2_with fail
  refine (bandBelow_no _ _ _ HC.out).mono ?_
  rintro e w1 ⟨rfl, hn⟩
  replace hk := hk.trans hn
  replace hrv := hrv.kept hn
  clear hn
  go_wp2_with fail
  refine (bandNext_is _ 0 (zR []) _ _ _ _ (rv_nil _ _ _) (by decide) rfl rfl).mono ?_
  rintro e w1 ⟨rfl, hn⟩
  replace hk := hk.trans hn
  replace hrv := hrv.kept hn
  clear hn
  go_wp2_with fail
  refine (bandMay_is _ _ 1 _ _ _ hrv (by decide) Hb.out).mono ?_
  rintro e w1 ⟨rfl, hn⟩
  replace hk := hk.trans hn
  replace hrv := hrv.kept hn
  clear hn
  go_wp2_with fail
  refine (num_any _ _).mono ?_
  rintro e w1 ⟨rfl, rfl⟩
  go_wp2_with fail
  refine (num_any _ _).mono ?_
  rintro e w1 ⟨rfl, rfl⟩
  go_wp2_with fail
  refine (num_any _ _).mono ?_
  rintro e w1 ⟨rfl, rfl⟩
  go_wp2_with fail
  refine (num_any _ _).mono ?_
  rintro e w1 ⟨rfl, rfl⟩
  go_wp2
  go_ret
  exact ⟨rfl, hk⟩
set_option maxRecDepth 20000 in
set_option maxHeartbeats 4000000 in
theorem bandForms_10 (c x d : Int) (hi : (IntKind.u64.wrap c).tmod 11 = 10) (q : Int) (hq : bits .and .i64 x 1023 = q) (hqd : 1 + q = d) (d1 : 1 ≤ d) (d2 : d ≤ 1024) (w : World) :
    Calls Try.prog 4 #[.int .i64 c, .int .i64 x] w fun e w' => e = .returned (.bool true) ∧ Kept w w' := by
  obtain ⟨i0, hi0, hz0, hz1, hz2⟩ := info_parts exclusionsInfo
  have hb : mayX (100) 1 (excOf (zR [[0, 0, 4194304 + d, 3, 1]])) = false := mayX_one (excB_no fun hp => by have h1 : 4194304 + d ≤ 4194304 := hp.2.1.2; omega)
  have Hb := Lib.hid hb
  clear hb
  have HY := Lib.hid (show inB 0 4194304 (-d) = false from inB_false.2 (by omega))
  have HH := Lib.hid (show inB 0 4194304 (4194304 + d) = false from inB_false.2 (by omega))
  have HC := Lib.hid (show clearB (-d) = false from inB_false.2 (by omega))
  have hk : Kept w w := Kept.refl w
  go_enter Try.func4, Try.ntmps4
  go_wp2_with fail
  refine (awake16_any _).mono ?_
  rintro e w1 ⟨rfl, hn⟩
  replace hk := hk.trans hn
  clear hn
  have hsz2 := hk.size
  go_wp2_with (at_builtin; refine wpList_append_own _ rfl _ _ 22 rfl w.heap.size 33 i0 (.agg #[.int .i64 0, .int .i64 0, .int .i64 0, .int .i64 0, .int .i64 0]) 5 40 Try.underlying22 hi0 hz0 hz1 hz2 rfl (by decide) _ _ _ rfl (World.ownsRow_nil _ _ _ _) ⟨w1.heap.size + 1 + 1, 0, none⟩ 1 1 [.int .i64 0, .int .i64 0, .int .i64 (4194304 + d), .int .i64 3, .int .i64 1] rfl rfl (lit_at ((w1.alloc (.cells #[.int .i64 0, .int .i64 0, .int .i64 3, .int .i64 3, .int .i64 1] 33)).alloc (.cells #[.int .i64 0, .int .i64 0, .int .i64 (4194304 + d), .int .i64 3, .int .i64 1] 33)) #[.int .i64 0, .int .i64 0, .int .i64 (4194304 + d), .int .i64 3, .int .i64 1] 33 (by simp)) (by simp [Value.oneCell']) (by unfold maxLen; omega) (by omega) (by simp; omega) ?_; intro v2 w2 hown2 hg2 _)
  replace hk := (((hk.alloc _).alloc _).alloc _).grown hg2 (fun q hq => by cases hq)
  have hrv : RV 5 w2 v2 1 (intC (zR [[0, 0, 4194304 + d, 3, 1]])) := (newRow_of (show w2.ownsRow w.heap.size 33 5 v2 1 (flat 5 (intC (zR [[0, 0, 4194304 + d, 3, 1]])) 1) from hown2)).rv
  clear hown2 hg2 hsz2
  go_wp2_with fail
  refine (bandBand_no _ 1 _ _ _ _ _ hrv (by decide) (ask_may Hb.out)).mono ?_
  rintro e w1 ⟨rfl, hn⟩
  replace hk := hk.trans hn
  replace hrv := hrv.kept hn
  clear hn
  go_wp2_with fail
  refine (bandBand_no _ 0 (zR []) _ _ _ _ (rv_nil _ _ _) (by decide) (ask_y HY.out)).mono ?_
  rintro e w1 ⟨rfl, hn⟩
  replace hk := hk.trans hn
  replace hrv := hrv.kept hn
  clear hn
  go_wp2_with fail
  refine (bandBand_no _ 0 (zR []) _ _ _ _ (rv_nil _ _ _) (by decide) (ask_h HH.out)).mono ?_
  rintro e w1 ⟨rfl, hn⟩
  replace hk := hk.trans hn
  replace hrv := hrv.kept hn
  clear hn
  go_wp2_with fail
  refine (bandBelow_no _ _ _ HC.out).mono ?_
  rintro e w1 ⟨rfl, hn⟩
  replace hk := hk.trans hn
  replace hrv := hrv.kept hn
  clear hn
  go_wp2_with fail
  refine (bandNext_is _ 0 (zR []) _ _ _ _ (rv_nil _ _ _) (by decide) rfl rfl).mono ?_
  rintro e w1 ⟨rfl, hn⟩
  replace hk := hk.trans hn
  replace hrv := hrv.kept hn
  clear hn
  go_wp2_with fail
  refine (bandMay_is _ _ 1 _ _ _ hrv (by decide) Hb.out).mono ?_
  rintro e w1 ⟨rfl, hn⟩
  replace hk := hk.trans hn
  replace hrv := hrv.kept hn
  clear hn
  go_wp2_with fail
  refine (num_any _ _).mono ?_
  rintro e w1 ⟨rfl, rfl⟩
  go_wp2_with fail
  refine (num_any _ _).mono ?_
  rintro e w1 ⟨rfl, rfl⟩
  go_wp2_with fail
  refine (num_any _ _).mono ?_
  rintro e w1 ⟨rfl, rfl⟩
  go_wp2_with fail
  refine (num_any _ _).mono ?_
  rintro e w1 ⟨rfl, rfl⟩
  go_wp2
  go_ret
  exact ⟨rfl, hk⟩
set_option maxRecDepth 20000 in
set_option maxHeartbeats 4000000 in
theorem bandForms_9 (c x d : Int) (hi : (IntKind.u64.wrap c).tmod 11 = 9) (q : Int) (hq : bits .and .i64 x 1023 = q) (hqd : 1 + q = d) (d1 : 1 ≤ d) (d2 : d ≤ 1024) (w : World) :
    Calls Try.prog 4 #[.int .i64 c, .int .i64 x] w fun e w' => e = .returned (.bool true) ∧ Kept w w' := by
  obtain ⟨i0, hi0, hz0, hz1, hz2⟩ := info_parts exclusionsInfo
  obtain ⟨M, hM1, hM2⟩ : ∃ M : Nat, M = 32 ∧ (32 : Int).toNat = M := ⟨32, rfl, rfl⟩
  have hmk := makeExclusions 32 M (by decide) (by decide) hM2
  have hMa : M ≤ 32 := by omega
  have hMb : 32 ≤ M := by omega
  have hb : mayX 100 (M + 1) (excOf gZ) = false := mayX_many (by omega)
  have Hb := Lib.hid hb
  clear hb hM1 hM2
  have HY := Lib.hid (show inB 0 4194304 (-d) = false from inB_false.2 (by omega))
  have HH := Lib.hid (show inB 0 4194304 (4194304 + d) = false from inB_false.2 (by omega))
  have HC := Lib.hid (show clearB (-d) = false from inB_false.2 (by omega))
  have hk : Kept w w := Kept.refl w
  go_enter Try.func4, Try.ntmps4
  go_wp2_with fail
  refine (awake16_any _).mono ?_
  rintro e w1 ⟨rfl, hn⟩
  replace hk := hk.trans hn
  clear hn
  have hk1 := hk
  go_wp2
  refine code_boxes3 ?_
  intro X hX g b m
  have hsz := hk.size
  replace hk := hk.trans hX
  clear hX
  obtain ⟨G, hG⟩ : ∃ G, w1.heap.size = G := ⟨_, rfl⟩
  rw [hG] at g b m ⊢
  have hGw : w.heap.size ≤ G := by
    have h1 := hk1.size
    omega
  clear hmk hG hk1
  go_loopw [10] (fun i wx => ∃ (j : Nat) (cur : Array Value), j ≤ M ∧ i = .int .i64 j ∧ Kept w wx ∧ Own wx G 33 #[.int .i64 0, .int .i64 0, .int .i64 3, .int .i64 3, .int .i64 1] ∧ Own wx (G + 1) 33 #[.int .i64 0, .int .i64 0, .int .i64 3, .int .i64 3, .int .i64 1] ∧ Own wx (G + 1 + 1) 33 cur ∧ cur.size = M * 5 ∧ Filled cur 5 (intC gZ) j) (fun i _ => M - (intOf i).toNat)
  case atStart => exact ⟨0, _, Nat.zero_le _, rfl, hk, g, b, m, size_madeCells _ _, fun i j hi => by omega⟩
  case round =>
    clear hk g b m
    obtain ⟨j, cur, hj, rfl, hk, g, b, m, hsz, hfill⟩ := hrel
    have Hsz := Lib.hid hsz
    have Hfl := Lib.hid hfill
    clear hsz hfill
    by_cases hlt : j < M
    · skip
      replace g_l := g.lt
      replace g_0 := g.at 0 _ rfl
      replace g_f0 := g.free 0
      replace g_1 := g.at 1 _ rfl
      replace g_f1 := g.free 1
      replace g_2 := g.at 2 _ rfl
      replace g_f2 := g.free 2
      replace g_3 := g.at 3 _ rfl
      replace g_f3 := g.free 3
      replace g_4 := g.at 4 _ rfl
      replace g_f4 := g.free 4
      go_wp2_with (refine here_store 33 _ _ rfl ?_; refine wpList_store_part rfl 33 _ _ rfl (G + 1 + 1) (j * 5) #[.int .i64 0, .int .i64 0, .int .i64 3, .int .i64 3, .int .i64 1] rfl rfl m (by rw [Hsz.out]; show j * 5 + 5 ≤ M * 5; omega) (by kernel_rfl) (by rfl) ?_; intro X oX hoX hkX; replace hk := hkX _ hk (by omega); replace g := g.same (hoX _ (by omega)); replace b := b.same (hoX _ (by omega)); clear hoX hkX m)
      go_roundw
      case rel => exact ⟨j + 1, _, by omega, by go_num, hk, g, b, oX, by rw [laidOn_size, Hsz.out], Hfl.out.next hlt Hsz.out rfl⟩
      case measure => simp [intOf]; omega
    · obtain rfl : j = M := by omega
      have hown := own_row (base := w.heap.size) m (by omega) Hsz.out (by unfold maxLen; omega) (filled_list Hfl.out (by decide) Hsz.out)
      have hsz2 := hk.size
      clear m Hfl Hsz g hlt
      replace b_l := b.lt
      replace b_0 := b.at 0 _ rfl
      replace b_f0 := b.free 0
      replace b_1 := b.at 1 _ rfl
      replace b_f1 := b.free 1
      replace b_2 := b.at 2 _ rfl
      replace b_f2 := b.free 2
      replace b_3 := b.at 3 _ rfl
      replace b_f3 := b.free 3
      replace b_4 := b.at 4 _ rfl
      replace b_f4 := b.free 4
      go_wp2_with (at_builtin; refine wpList_append_own _ rfl _ _ 22 rfl w.heap.size 33 i0 (.agg #[.int .i64 0, .int .i64 0, .int .i64 0, .int .i64 0, .int .i64 0]) 5 40 Try.underlying22 hi0 hz0 hz1 hz2 rfl (by decide) _ _ _ rfl (hown.alloc _) ⟨wr.heap.size, 0, none⟩ 1 1 [.int .i64 0, .int .i64 0, .int .i64 3, .int .i64 3, .int .i64 1] rfl rfl (lit_at wr #[.int .i64 0, .int .i64 0, .int .i64 3, .int .i64 3, .int .i64 1] 33 (by simp)) (by simp [Value.oneCell']) (by unfold maxLen; omega) (by omega) (by simp; omega) ?_; intro v2 w2 hown2 hg2 _)
      replace hk := (hk.alloc _).grown hg2 (row_ge hown)
      have hrv : RV 5 w2 v2 (j + 1) (intC gZ) := (newRow_of (show w2.ownsRow w.heap.size 33 5 v2 (j + 1) (flat 5 (intC gZ) (j + 1)) from hown2)).rv
      clear hown2 hg2 hsz2 hown b b_0 b_1 b_2 b_3 b_4 b_l b_f0 b_f1 b_f2 b_f3 b_f4
      go_wp2_with fail
      refine (bandBand_no _ (j + 1) _ _ _ _ _ hrv (by omega) (ask_may Hb.out)).mono ?_
      rintro e w1 ⟨rfl, hn⟩
      replace hk := hk.trans hn
      replace hrv := hrv.kept hn
      clear hn
      go_wp2_with fail
      refine (bandBand_no _ 0 (zR []) _ _ _ _ (rv_nil _ _ _) (by decide) (ask_y HY.out)).mono ?_
      rintro e w1 ⟨rfl, hn⟩
      replace hk := hk.trans hn
      replace hrv := hrv.kept hn
      clear hn
      go_wp2_with fail
      refine (bandBand_no _ 0 (zR []) _ _ _ _ (rv_nil _ _ _) (by decide) (ask_h HH.out)).mono ?_
      rintro e w1 ⟨rfl, hn⟩
      replace hk := hk.trans hn
      replace hrv := hrv.kept hn
      clear hn
      go_wp2_with fail
      refine (bandBelow_no _ _ _ HC.out).mono ?_
      rintro e w1 ⟨rfl, hn⟩
      replace hk := hk.trans hn
      replace hrv := hrv.kept hn
      clear hn
      go_wp2_with fail
      refine (bandNext_is _ 0 (zR []) _ _ _ _ (rv_nil _ _ _) (by decide) rfl rfl).mono ?_
      rintro e w1 ⟨rfl, hn⟩
      replace hk := hk.trans hn
      replace hrv := hrv.kept hn
      clear hn
      go_wp2_with fail
      refine (bandMay_is _ _ (j + 1) _ _ _ hrv (by omega) Hb.out).mono ?_
      rintro e w1 ⟨rfl, hn⟩
      replace hk := hk.trans hn
      replace hrv := hrv.kept hn
      clear hn
      go_wp2_with fail
      refine (num_any _ _).mono ?_
      rintro e w1 ⟨rfl, rfl⟩
      go_wp2_with fail
      refine (num_any _ _).mono ?_
      rintro e w1 ⟨rfl, rfl⟩
      go_wp2_with fail
      refine (num_any _ _).mono ?_
      rintro e w1 ⟨rfl, rfl⟩
      go_wp2_with fail
      refine (num_any _ _).mono ?_
      rintro e w1 ⟨rfl, rfl⟩
      go_wp2
      go_ret
      exact ⟨rfl, hk⟩
theorem bandForms_walk (c x : Int) (w : World) :
    Calls Try.prog 4 #[.int .i64 c, .int .i64 x] w fun e w' => e = .returned (.bool true) ∧ Kept w w' := by
  obtain ⟨i, hi, i0, i1⟩ := urest2 c 11 (by decide)
  obtain ⟨q, hq, q0, q1⟩ := masked x 10 1023 (by decide) (by decide)
  rcases (by omega : i = 0 ∨ i = 1 ∨ i = 2 ∨ i = 3 ∨ i = 4 ∨ i = 5 ∨ i = 6 ∨ i = 7 ∨ i = 8 ∨ i = 9 ∨ i = 10) with rfl | rfl | rfl | rfl | rfl | rfl | rfl | rfl | rfl | rfl | rfl
  · exact bandForms_0 c x (1 + q) hi q hq rfl (by omega) (by omega) w
  · exact bandForms_1 c x (1 + q) hi q hq rfl (by omega) (by omega) w
  · exact bandForms_2 c x (1 + q) hi q hq rfl (by omega) (by omega) w
  · exact bandForms_3 c x (1 + q) hi q hq rfl (by omega) (by omega) w
  · exact bandForms_4 c x (1 + q) hi q hq rfl (by omega) (by omega) w
  · exact bandForms_5 c x (1 + q) hi q hq rfl (by omega) (by omega) w
  · exact bandForms_6 c x (1 + q) hi q hq rfl (by omega) (by omega) w
  · exact bandForms_7 c x (1 + q) hi q hq rfl (by omega) (by omega) w
  · exact bandForms_8 c x (1 + q) hi q hq rfl (by omega) (by omega) w
  · exact bandForms_9 c x (1 + q) hi q hq rfl (by omega) (by omega) w
  · exact bandForms_10 c x (1 + q) hi q hq rfl (by omega) (by omega) w
end Go.Proofs.Ytpjppnomfponfaa
