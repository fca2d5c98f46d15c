/- Layer 19: items, rooms that may not be. -/
import Derived.Test.YtpjppnomfponfaaAwake19
import Derived.Test.YtpjppnomfponfaaMask
namespace Go.Proofs.Ytpjppnomfponfaa
open Go.RowKit
set_option linter.unusedSimpArgs false
set_option linter.unusedVariables false
theorem itemB_no {x : Item} (h : ¬ ((0 ≤ x.base ∧ x.base ≤ 4194304) ∧ (0 ≤ x.min ∧ x.min ≤ 4194304) ∧ (0 ≤ x.max ∧ x.max ≤ 1073741824) ∧ (0 ≤ x.grow ∧ x.grow ≤ 100) ∧ (0 ≤ x.shrink ∧ x.shrink ≤ 100) ∧ -4194304 ≤ x.extra ∧ x.extra ≤ 4194304)) : itemB x = false := by
  cases hb : itemB x
  · rfl
  · exact absurd (itemB_parts hb) h
theorem mayI_one {I : Nat → Item} (h : itemB (I 0) = false) : mayI 1 I = false := by unfold mayI; rw [allI_no (k := 0) (by decide) h, Bool.and_false]
theorem mayI_many {n : Nat} {I : Nat → Item} (h : 32 < n) : mayI n I = false := by unfold mayI; rw [decide_eq_false (by omega)]; rfl
theorem colE_may {n : Nat} {I : Nat → Item} {room : Int} (h : mayI n I = false) : colE n I room = 1900 := by unfold colE goodC; rw [h]; rfl
theorem colE_room {n : Nat} {I : Nat → Item} {room : Int} (h : inB 0 4194304 room = false) : colE n I room = 1900 := by unfold colE goodC; rw [h, Bool.and_false]; rfl
theorem flexCollect_no (v : Value) (n : Nat) (I : Nat → Item) (room : Int) (wrap : Bool) (w : World) (h : ItV w v n I) (hn : n ≤ 4611686018427387904) (hE : colE n I room = 1900) :
    Calls Try.prog 18 #[v, .int .i64 room, .bool wrap] w fun e w' => ∃ u, e = .returned (.tuple #[u, .int .i64 1900]) ∧ Kept w w' :=
  (flexCollect_any v n I room wrap w h hn).mono fun e w' ⟨u, he, _, hk⟩ => ⟨u, by rw [he, hE], hk⟩
theorem flexCollect_nil (room : Int) (wrap : Bool) (w : World) (hr : inB 0 4194304 room = true) :
    Calls Try.prog 18 #[.slice none 0 0, .int .i64 room, .bool wrap] w fun e w' => ∃ o c, e = .returned (.tuple #[.slice o 0 c, .int .i64 0]) ∧ Kept w w' :=
  (flexCollect_any _ 0 (fun _ => ⟨0, 0, 0, 0, 0, 0⟩) room wrap w (.inl ⟨none, 0, rfl, rfl⟩) (by decide)).mono fun e w' ⟨u, he, hu, hk⟩ => by
    have hg : goodC 0 (fun _ => ⟨0, 0, 0, 0, 0, 0⟩) room = true := by unfold goodC; rw [hr]; rfl
    unfold colE at he
    rw [hg, if_pos rfl] at he
    have hm : colM 0 (fun _ => ⟨0, 0, 0, 0, 0, 0⟩) room wrap = 0 := by unfold colM; rw [hg]; rfl
    rw [hm] at hu
    rcases hu with ⟨_, o, c, hv, _⟩ | ⟨_, _, _, _, h0, _⟩
    · exact ⟨o, c, by rw [he, hv], hk⟩
    · omega
set_option maxRecDepth 20000 in
set_option maxHeartbeats 4000000 in
theorem flexForms_0 (c x d : Int) (M : Nat) (hi : (IntKind.u64.wrap c).tmod 11 = 0) (q : Int) (hq : bits .and .i64 x 1023 = q) (hqd : 1 + q = d) (d1 : 1 ≤ d) (d2 : d ≤ 1024) (hM : (32 + d).toNat = M) (hMp : 32 < M) (hM2 : M ≤ 1056) (w : World) :
    Calls Try.prog 8 #[.int .i64 c, .int .i64 x] w fun e w' => e = .returned (.bool true) ∧ Kept w w' := by
  have hmk := makeItems (32 + d) M (by omega) (by omega) hM
  have hb : mayI 1 (itemOf (zL [[-d, 0, 9, 0, 0, 0]])) = false := mayI_one (itemB_no fun hp => by have h1 : (0 : Int) ≤ -d := hp.1.1; omega)
  have Hb := Lib.hid hb
  have HM := Lib.hid (show mayI M (itemOf fun _ _ => 0) = false from mayI_many hMp)
  have HR := Lib.hid (show inB 0 4194304 (4194304 + d) = false from inB_false.2 (by omega))
  clear hb
  replace hM := Lib.hid hM
  have hk : Kept w w := Kept.refl w
  go_enter Try.func8, Try.ntmps8
  go_wp2_with fail
  refine (awake19_any _).mono ?_
  rintro e w1 ⟨rfl, hn⟩
  replace hk := hk.trans hn
  clear hn
  go_wp2_with fail
  refine with_boxes2 ?_
  intro X hX b a
  have hsz := hk.size
  replace hk := hk.trans hX
  clear hX
  replace b_l := b.lt
  replace b_0 := b.at 0 _ rfl
  replace b_1 := b.at 1 _ rfl
  replace b_2 := b.at 2 _ rfl
  replace b_3 := b.at 3 _ rfl
  replace b_4 := b.at 4 _ rfl
  replace b_5 := b.at 5 _ rfl
  refine (flexCollect_no _ 1 _ 5 _ _ (itv_row (rv_lit a 6 1 (by decide) (intC (zL [[-d, 0, 9, 0, 0, 0]])) rfl)) (by decide) (colE_may Hb.out)).mono ?_
  rintro e w1 ⟨u1, rfl, hn⟩
  replace hk := hk.trans hn
  replace b := b.kept hn
  replace a := a.kept hn
  clear hn
  replace b_l := b.lt
  replace b_0 := b.at 0 _ rfl
  replace b_1 := b.at 1 _ rfl
  replace b_2 := b.at 2 _ rfl
  replace b_3 := b.at 3 _ rfl
  replace b_4 := b.at 4 _ rfl
  replace b_5 := b.at 5 _ rfl
  clear a
  go_wp2_with fail
  refine with_boxes1 ?_
  intro X hX m
  have hsz := hk.size
  replace hk := hk.trans hX
  replace b := b.kept hX
  clear hX
  replace b_l := b.lt
  replace b_0 := b.at 0 _ rfl
  replace b_1 := b.at 1 _ rfl
  replace b_2 := b.at 2 _ rfl
  replace b_3 := b.at 3 _ rfl
  replace b_4 := b.at 4 _ rfl
  replace b_5 := b.at 5 _ rfl
  refine (flexCollect_no _ M _ 5 _ _ (itv_row (madeItems m (by omega))) (by omega) (colE_may HM.out)).mono ?_
  rintro e w1 ⟨u2, rfl, hn⟩
  replace hk := hk.trans hn
  replace b := b.kept hn
  replace m := m.kept hn
  clear hn
  replace b_l := b.lt
  replace b_0 := b.at 0 _ rfl
  replace b_1 := b.at 1 _ rfl
  replace b_2 := b.at 2 _ rfl
  replace b_3 := b.at 3 _ rfl
  replace b_4 := b.at 4 _ rfl
  replace b_5 := b.at 5 _ rfl
  clear m
  go_wp2_with fail
  refine (flexCollect_no _ 0 (fun _ => ⟨0, 0, 0, 0, 0, 0⟩) _ _ _ (.inl ⟨none, 0, rfl, rfl⟩) (by decide) (colE_room HR.out)).mono ?_
  rintro e w1 ⟨u3, rfl, hn⟩
  replace hk := hk.trans hn
  replace b := b.kept hn
  clear hn
  replace b_l := b.lt
  replace b_0 := b.at 0 _ rfl
  replace b_1 := b.at 1 _ rfl
  replace b_2 := b.at 2 _ rfl
  replace b_3 := b.at 3 _ rfl
  replace b_4 := b.at 4 _ rfl
  replace b_5 := b.at 5 _ rfl
  go_wp2_with fail
  refine (flexCollect_nil _ _ _ (by decide)).mono ?_
  rintro e w1 ⟨o4, c4, rfl, hn⟩
  replace hk := hk.trans hn
  replace b := b.kept hn
  clear hn
  replace b_l := b.lt
  replace b_0 := b.at 0 _ rfl
  replace b_1 := b.at 1 _ rfl
  replace b_2 := b.at 2 _ rfl
  replace b_3 := b.at 3 _ rfl
  replace b_4 := b.at 4 _ rfl
  replace b_5 := b.at 5 _ rfl
  go_wp2_with fail
  refine with_boxes1 ?_
  intro X hX e
  have hsz := hk.size
  replace hk := hk.trans hX
  replace b := b.kept hX
  clear hX
  replace b_l := b.lt
  replace b_0 := b.at 0 _ rfl
  replace b_1 := b.at 1 _ rfl
  replace b_2 := b.at 2 _ rfl
  replace b_3 := b.at 3 _ rfl
  replace b_4 := b.at 4 _ rfl
  replace b_5 := b.at 5 _ rfl
  refine (flexMay_is _ 1 _ _ (itv_row (rv_lit e 6 1 (by decide) (intC (zL [[-d, 0, 9, 0, 0, 0]])) rfl)) (by decide) false Hb.out).mono ?_
  rintro e w1 ⟨rfl, hn⟩
  replace hk := hk.trans hn
  replace b := b.kept hn
  replace e := e.kept hn
  clear hn
  replace b_l := b.lt
  replace b_0 := b.at 0 _ rfl
  replace b_1 := b.at 1 _ rfl
  replace b_2 := b.at 2 _ rfl
  replace b_3 := b.at 3 _ rfl
  replace b_4 := b.at 4 _ rfl
  replace b_5 := b.at 5 _ rfl
  go_wp2_with fail
  refine (num_any _ _).mono ?_
  rintro e w1 ⟨rfl, rfl⟩
  go_wp2_with fail
  refine (num_any _ _).mono ?_
  rintro e w1 ⟨rfl, rfl⟩
  go_wp2_with fail
  refine (num_any _ _).mono ?_
  rintro e w1 ⟨rfl, rfl⟩
  go_wp2_with fail
  refine (num_any _ _).mono ?_
  rintro e w1 ⟨rfl, rfl⟩
  go_wp2
  go_ret
  exact ⟨rfl, hk⟩
set_option maxRecDepth 20000 in
set_option maxHeartbeats 4000000 in
theorem flexForms_1 (c x d : Int) (M : Nat) (hi : (IntKind.u64.wrap c).tmod 11 = 1) (q : Int) (hq : bits .and .i64 x 1023 = q) (hqd : 1 + q = d) (d1 : 1 ≤ d) (d2 : d ≤ 1024) (hM : (32 + d).toNat = M) (hMp : 32 < M) (hM2 : M ≤ 1056) (w : World) :
    Calls Try.prog 8 #[.int .i64 c, .int .i64 x] w fun e w' => e = .returned (.bool true) ∧ Kept w w' := by
  have hmk := makeItems (32 + d) M (by omega) (by omega) hM
  have hb : mayI 1 (itemOf (zL [[4194304 + d, 0, 9, 0, 0, 0]])) = false := mayI_one (itemB_no fun hp => by have h1 : 4194304 + d ≤ 4194304 := hp.1.2; omega)
  have Hb := Lib.hid hb
  have HM := Lib.hid (show mayI M (itemOf fun _ _ => 0) = false from mayI_many hMp)
  have HR := Lib.hid (show inB 0 4194304 (4194304 + d) = false from inB_false.2 (by omega))
  clear hb
  replace hM := Lib.hid hM
  have hk : Kept w w := Kept.refl w
  go_enter Try.func8, Try.ntmps8
  go_wp2_with fail
  refine (awake19_any _).mono ?_
  rintro e w1 ⟨rfl, hn⟩
  replace hk := hk.trans hn
  clear hn
  go_wp2_with fail
  refine with_boxes2 ?_
  intro X hX b a
  have hsz := hk.size
  replace hk := hk.trans hX
  clear hX
  replace b_l := b.lt
  replace b_0 := b.at 0 _ rfl
  replace b_1 := b.at 1 _ rfl
  replace b_2 := b.at 2 _ rfl
  replace b_3 := b.at 3 _ rfl
  replace b_4 := b.at 4 _ rfl
  replace b_5 := b.at 5 _ rfl
  refine (flexCollect_no _ 1 _ 5 _ _ (itv_row (rv_lit a 6 1 (by decide) (intC (zL [[4194304 + d, 0, 9, 0, 0, 0]])) rfl)) (by decide) (colE_may Hb.out)).mono ?_
  rintro e w1 ⟨u1, rfl, hn⟩
  replace hk := hk.trans hn
  replace b := b.kept hn
  replace a := a.kept hn
  clear hn
  replace b_l := b.lt
  replace b_0 := b.at 0 _ rfl
  replace b_1 := b.at 1 _ rfl
  replace b_2 := b.at 2 _ rfl
  replace b_3 := b.at 3 _ rfl
  replace b_4 := b.at 4 _ rfl
  replace b_5 := b.at 5 _ rfl
  clear a
  go_wp2_with fail
  refine with_boxes1 ?_
  intro X hX m
  have hsz := hk.size
  replace hk := hk.trans hX
  replace b := b.kept hX
  clear hX
  replace b_l := b.lt
  replace b_0 := b.at 0 _ rfl
  replace b_1 := b.at 1 _ rfl
  replace b_2 := b.at 2 _ rfl
  replace b_3 := b.at 3 _ rfl
  replace b_4 := b.at 4 _ rfl
  replace b_5 := b.at 5 _ rfl
  refine (flexCollect_no _ M _ 5 _ _ (itv_row (madeItems m (by omega))) (by omega) (colE_may HM.out)).mono ?_
  rintro e w1 ⟨u2, rfl, hn⟩
  replace hk := hk.trans hn
  replace b := b.kept hn
  replace m := m.kept hn
  clear hn
  replace b_l := b.lt
  replace b_0 := b.at 0 _ rfl
  replace b_1 := b.at 1 _ rfl
  replace b_2 := b.at 2 _ rfl
  replace b_3 := b.at 3 _ rfl
  replace b_4 := b.at 4 _ rfl
  replace b_5 := b.at 5 _ rfl
  clear m
  go_wp2_with fail
  refine (flexCollect_no _ 0 (fun _ => ⟨0, 0, 0, 0, 0, 0⟩) _ _ _ (.inl ⟨none, 0, rfl, rfl⟩) (by decide) (colE_room HR.out)).mono ?_
  rintro e w1 ⟨u3, rfl, hn⟩
  replace hk := hk.trans hn
  replace b := b.kept hn
  clear hn
  replace b_l := b.lt
  replace b_0 := b.at 0 _ rfl
  replace b_1 := b.at 1 _ rfl
  replace b_2 := b.at 2 _ rfl
  replace b_3 := b.at 3 _ rfl
  replace b_4 := b.at 4 _ rfl
  replace b_5 := b.at 5 _ rfl
  go_wp2_with fail
  refine (flexCollect_nil _ _ _ (by decide)).mono ?_
  rintro e w1 ⟨o4, c4, rfl, hn⟩
  replace hk := hk.trans hn
  replace b := b.kept hn
  clear hn
  replace b_l := b.lt
  replace b_0 := b.at 0 _ rfl
  replace b_1 := b.at 1 _ rfl
  replace b_2 := b.at 2 _ rfl
  replace b_3 := b.at 3 _ rfl
  replace b_4 := b.at 4 _ rfl
  replace b_5 := b.at 5 _ rfl
  go_wp2_with fail
  refine with_boxes1 ?_
  intro X hX e
  have hsz := hk.size
  replace hk := hk.trans hX
  replace b := b.kept hX
  clear hX
  replace b_l := b.lt
  replace b_0 := b.at 0 _ rfl
  replace b_1 := b.at 1 _ rfl
  replace b_2 := b.at 2 _ rfl
  replace b_3 := b.at 3 _ rfl
  replace b_4 := b.at 4 _ rfl
  replace b_5 := b.at 5 _ rfl
  refine (flexMay_is _ 1 _ _ (itv_row (rv_lit e 6 1 (by decide) (intC (zL [[4194304 + d, 0, 9, 0, 0, 0]])) rfl)) (by decide) false Hb.out).mono ?_
  rintro e w1 ⟨rfl, hn⟩
  replace hk := hk.trans hn
  replace b := b.kept hn
  replace e := e.kept hn
  clear hn
  replace b_l := b.lt
  replace b_0 := b.at 0 _ rfl
  replace b_1 := b.at 1 _ rfl
  replace b_2 := b.at 2 _ rfl
  replace b_3 := b.at 3 _ rfl
  replace b_4 := b.at 4 _ rfl
  replace b_5 := b.at 5 _ rfl
  go_wp2_with fail
  refine (num_any _ _).mono ?_
  rintro e w1 ⟨rfl, rfl⟩
  go_wp2_with fail
  refine (num_any _ _).mono ?_
  rintro e w1 ⟨rfl, rfl⟩
  go_wp2_with fail
  refine (num_any _ _).mono ?_
  rintro e w1 ⟨rfl, rfl⟩
  go_wp2_with fail
  refine (num_any _ _).mono ?_
  rintro e w1 ⟨rfl, rfl⟩
  go_wp2
  go_ret
  exact ⟨rfl, hk⟩
set_option maxRecDepth 20000 in
set_option maxHeartbeats 4000000 in
theorem flexForms_2 (c x d : Int) (M : Nat) (hi : (IntKind.u64.wrap c).tmod 11 = 2) (q : Int) (hq : bits .and .i64 x 1023 = q) (hqd : 1 + q = d) (d1 : 1 ≤ d) (d2 : d ≤ 1024) (hM : (32 + d).toNat = M) (hMp : 32 < M) (hM2 : M ≤ 1056) (w : World) :
    Calls Try.prog 8 #[.int .i64 c, .int .i64 x] w fun e w' => e = .returned (.bool true) ∧ Kept w w' := by
  have hmk := makeItems (32 + d) M (by omega) (by omega) hM
  have hb : mayI 1 (itemOf (zL [[5, -d, 9, 0, 0, 0]])) = false := mayI_one (itemB_no fun hp => by have h1 : (0 : Int) ≤ -d := hp.2.1.1; omega)
  have Hb := Lib.hid hb
  have HM := Lib.hid (show mayI M (itemOf fun _ _ => 0) = false from mayI_many hMp)
  have HR := Lib.hid (show inB 0 4194304 (4194304 + d) = false from inB_false.2 (by omega))
  clear hb
  replace hM := Lib.hid hM
  have hk : Kept w w := Kept.refl w
  go_enter Try.func8, Try.ntmps8
  go_wp2_with fail
  refine (awake19_any _).mono ?_
  rintro e w1 ⟨rfl, hn⟩
  replace hk := hk.trans hn
  clear hn
  go_wp2_with fail
  refine with_boxes2 ?_
  intro X hX b a
  have hsz := hk.size
  replace hk := hk.trans hX
  clear hX
  replace b_l := b.lt
  replace b_0 := b.at 0 _ rfl
  replace b_1 := b.at 1 _ rfl
  replace b_2 := b.at 2 _ rfl
  replace b_3 := b.at 3 _ rfl
  replace b_4 := b.at 4 _ rfl
  replace b_5 := b.at 5 _ rfl
  refine (flexCollect_no _ 1 _ 5 _ _ (itv_row (rv_lit a 6 1 (by decide) (intC (zL [[5, -d, 9, 0, 0, 0]])) rfl)) (by decide) (colE_may Hb.out)).mono ?_
  rintro e w1 ⟨u1, rfl, hn⟩
  replace hk := hk.trans hn
  replace b := b.kept hn
  replace a := a.kept hn
  clear hn
  replace b_l := b.lt
  replace b_0 := b.at 0 _ rfl
  replace b_1 := b.at 1 _ rfl
  replace b_2 := b.at 2 _ rfl
  replace b_3 := b.at 3 _ rfl
  replace b_4 := b.at 4 _ rfl
  replace b_5 := b.at 5 _ rfl
  clear a
  go_wp2_with fail
  refine with_boxes1 ?_
  intro X hX m
  have hsz := hk.size
  replace hk := hk.trans hX
  replace b := b.kept hX
  clear hX
  replace b_l := b.lt
  replace b_0 := b.at 0 _ rfl
  replace b_1 := b.at 1 _ rfl
  replace b_2 := b.at 2 _ rfl
  replace b_3 := b.at 3 _ rfl
  replace b_4 := b.at 4 _ rfl
  replace b_5 := b.at 5 _ rfl
  refine (flexCollect_no _ M _ 5 _ _ (itv_row (madeItems m (by omega))) (by omega) (colE_may HM.out)).mono ?_
  rintro e w1 ⟨u2, rfl, hn⟩
  replace hk := hk.trans hn
  replace b := b.kept hn
  replace m := m.kept hn
  clear hn
  replace b_l := b.lt
  replace b_0 := b.at 0 _ rfl
  replace b_1 := b.at 1 _ rfl
  replace b_2 := b.at 2 _ rfl
  replace b_3 := b.at 3 _ rfl
  replace b_4 := b.at 4 _ rfl
  replace b_5 := b.at 5 _ rfl
  clear m
  go_wp2_with fail
  refine (flexCollect_no _ 0 (fun _ => ⟨0, 0, 0, 0, 0, 0⟩) _ _ _ (.inl ⟨none, 0, rfl, rfl⟩) (by decide) (colE_room HR.out)).mono ?_
  rintro e w1 ⟨u3, rfl, hn⟩
  replace hk := hk.trans hn
  replace b := b.kept hn
  clear hn
  replace b_l := b.lt
  replace b_0 := b.at 0 _ rfl
  replace b_1 := b.at 1 _ rfl
  replace b_2 := b.at 2 _ rfl
  replace b_3 := b.at 3 _ rfl
  replace b_4 := b.at 4 _ rfl
  replace b_5 := b.at 5 _ rfl
  go_wp2_with fail
  refine (flexCollect_nil _ _ _ (by decide)).mono ?_
  rintro e w1 ⟨o4, c4, rfl, hn⟩
  replace hk := hk.trans hn
  replace b := b.kept hn
  clear hn
  replace b_l := b.lt
  replace b_0 := b.at 0 _ rfl
  replace b_1 := b.at 1 _ rfl
  replace b_2 := b.at 2 _ rfl
  replace b_3 := b.at 3 _ rfl
  replace b_4 := b.at 4 _ rfl
  replace b_5 := b.at 5 _ rfl
  go_wp2_with fail
  refine with_boxes1 ?_
  intro X hX e
  have hsz := hk.size
  replace hk := hk.trans hX
  replace b := b.kept hX
  clear hX
  replace b_l := b.lt
  replace b_0 := b.at 0 _ rfl
  replace b_1 := b.at 1 _ rfl
  replace b_2 := b.at 2 _ rfl
  replace b_3 := b.at 3 _ rfl
  replace b_4 := b.at 4 _ rfl
  replace b_5 := b.at 5 _ rfl
  refine (flexMay_is _ 1 _ _ (itv_row (rv_lit e 6 1 (by decide) (intC (zL [[5, -d, 9, 0, 0, 0]])) rfl)) (by decide) false Hb.out).mono ?_
  rintro e w1 ⟨rfl, hn⟩
  replace hk := hk.trans hn
  replace b := b.kept hn
  replace e := e.kept hn
  clear hn
  replace b_l := b.lt
  replace b_0 := b.at 0 _ rfl
  replace b_1 := b.at 1 _ rfl
  replace b_2 := b.at 2 _ rfl
  replace b_3 := b.at 3 _ rfl
  replace b_4 := b.at 4 _ rfl
  replace b_5 := b.at 5 _ rfl
  go_wp2_with fail
  refine (num_any _ _).mono ?_
  rintro e w1 ⟨rfl, rfl⟩
  go_wp2_with fail
  refine (num_any _ _).mono ?_
  rintro e w1 ⟨rfl, rfl⟩
  go_wp2_with fail
  refine (num_any _ _).mono ?_
  rintro e w1 ⟨rfl, rfl⟩
  go_wp2_with fail
  refine (num_any _ _).mono ?_
  rintro e w1 ⟨rfl, rfl⟩
  go_wp2
  go_ret
  exact ⟨rfl, hk⟩
set_option maxRecDepth 20000 in
set_option maxHeartbeats 4000000 in
theorem flexForms_3 (c x d : Int) (M : Nat) (hi : (IntKind.u64.wrap c).tmod 11 = 3) (q : Int) (hq : bits .and .i64 x 1023 = q) (hqd : 1 + q = d) (d1 : 1 ≤ d) (d2 : d ≤ 1024) (hM : (32 + d).toNat = M) (hMp : 32 < M) (hM2 : M ≤ 1056) (w : World) :
    Calls Try.prog 8 #[.int .i64 c, .int .i64 x] w fun e w' => e = .returned (.bool true) ∧ Kept w w' := by
  have hmk := makeItems (32 + d) M (by omega) (by omega) hM
  have hb : mayI 1 (itemOf (zL [[5, 4194304 + d, 9, 0, 0, 0]])) = false := mayI_one (itemB_no fun hp => by have h1 : 4194304 + d ≤ 4194304 := hp.2.1.2; omega)
  have Hb := Lib.hid hb
  have HM := Lib.hid (show mayI M (itemOf fun _ _ => 0) = false from mayI_many hMp)
  have HR := Lib.hid (show inB 0 4194304 (4194304 + d) = false from inB_false.2 (by omega))
  clear hb
  replace hM := Lib.hid hM
  have hk : Kept w w := Kept.refl w
  go_enter Try.func8, Try.ntmps8
  go_wp2_with fail
  refine (awake19_any _).mono ?_
  rintro e w1 ⟨rfl, hn⟩
  replace hk := hk.trans hn
  clear hn
  go_wp2_with fail
  refine with_boxes2 ?_
  intro X hX b a
  have hsz := hk.size
  replace hk := hk.trans hX
  clear hX
  replace b_l := b.lt
  replace b_0 := b.at 0 _ rfl
  replace b_1 := b.at 1 _ rfl
  replace b_2 := b.at 2 _ rfl
  replace b_3 := b.at 3 _ rfl
  replace b_4 := b.at 4 _ rfl
  replace b_5 := b.at 5 _ rfl
  refine (flexCollect_no _ 1 _ 5 _ _ (itv_row (rv_lit a 6 1 (by decide) (intC (zL [[5, 4194304 + d, 9, 0, 0, 0]])) rfl)) (by decide) (colE_may Hb.out)).mono ?_
  rintro e w1 ⟨u1, rfl, hn⟩
  replace hk := hk.trans hn
  replace b := b.kept hn
  replace a := a.kept hn
  clear hn
  replace b_l := b.lt
  replace b_0 := b.at 0 _ rfl
  replace b_1 := b.at 1 _ rfl
  replace b_2 := b.at 2 _ rfl
  replace b_3 := b.at 3 _ rfl
  replace b_4 := b.at 4 _ rfl
  replace b_5 := b.at 5 _ rfl
  clear a
  go_wp2_with fail
  refine with_boxes1 ?_
  intro X hX m
  have hsz := hk.size
  replace hk := hk.trans hX
  replace b := b.kept hX
  clear hX
  replace b_l := b.lt
  replace b_0 := b.at 0 _ rfl
  replace b_1 := b.at 1 _ rfl
  replace b_2 := b.at 2 _ rfl
  replace b_3 := b.at 3 _ rfl
  replace b_4 := b.at 4 _ rfl
  replace b_5 := b.at 5 _ rfl
  refine (flexCollect_no _ M _ 5 _ _ (itv_row (madeItems m (by omega))) (by omega) (colE_may HM.out)).mono ?_
  rintro e w1 ⟨u2, rfl, hn⟩
  replace hk := hk.trans hn
  replace b := b.kept hn
  replace m := m.kept hn
  clear hn
  replace b_l := b.lt
  replace b_0 := b.at 0 _ rfl
  replace b_1 := b.at 1 _ rfl
  replace b_2 := b.at 2 _ rfl
  replace b_3 := b.at 3 _ rfl
  replace b_4 := b.at 4 _ rfl
  replace b_5 := b.at 5 _ rfl
  clear m
  go_wp2_with fail
  refine (flexCollect_no _ 0 (fun _ => ⟨0, 0, 0, 0, 0, 0⟩) _ _ _ (.inl ⟨none, 0, rfl, rfl⟩) (by decide) (colE_room HR.out)).mono ?_
  rintro e w1 ⟨u3, rfl, hn⟩
  replace hk := hk.trans hn
  replace b := b.kept hn
  clear hn
  replace b_l := b.lt
  replace b_0 := b.at 0 _ rfl
  replace b_1 := b.at 1 _ rfl
  replace b_2 := b.at 2 _ rfl
  replace b_3 := b.at 3 _ rfl
  replace b_4 := b.at 4 _ rfl
  replace b_5 := b.at 5 _ rfl
  go_wp2_with fail
  refine (flexCollect_nil _ _ _ (by decide)).mono ?_
  rintro e w1 ⟨o4, c4, rfl, hn⟩
  replace hk := hk.trans hn
  replace b := b.kept hn
  clear hn
  replace b_l := b.lt
  replace b_0 := b.at 0 _ rfl
  replace b_1 := b.at 1 _ rfl
  replace b_2 := b.at 2 _ rfl
  replace b_3 := b.at 3 _ rfl
  replace b_4 := b.at 4 _ rfl
  replace b_5 := b.at 5 _ rfl
  go_wp2_with fail
  refine with_boxes1 ?_
  intro X hX e
  have hsz := hk.size
  replace hk := hk.trans hX
  replace b := b.kept hX
  clear hX
  replace b_l := b.lt
  replace b_0 := b.at 0 _ rfl
  replace b_1 := b.at 1 _ rfl
  replace b_2 := b.at 2 _ rfl
  replace b_3 := b.at 3 _ rfl
  replace b_4 := b.at 4 _ rfl
  replace b_5 := b.at 5 _ rfl
  refine (flexMay_is _ 1 _ _ (itv_row (rv_lit e 6 1 (by decide) (intC (zL [[5, 4194304 + d, 9, 0, 0, 0]])) rfl)) (by decide) false Hb.out).mono ?_
  rintro e w1 ⟨rfl, hn⟩
  replace hk := hk.trans hn
  replace b := b.kept hn
  replace e := e.kept hn
  clear hn
  replace b_l := b.lt
  replace b_0 := b.at 0 _ rfl
  replace b_1 := b.at 1 _ rfl
  replace b_2 := b.at 2 _ rfl
  replace b_3 := b.at 3 _ rfl
  replace b_4 := b.at 4 _ rfl
  replace b_5 := b.at 5 _ rfl
  go_wp2_with fail
  refine (num_any _ _).mono ?_
  rintro e w1 ⟨rfl, rfl⟩
  go_wp2_with fail
  refine (num_any _ _).mono ?_
  rintro e w1 ⟨rfl, rfl⟩
  go_wp2_with fail
  refine (num_any _ _).mono ?_
  rintro e w1 ⟨rfl, rfl⟩
  go_wp2_with fail
  refine (num_any _ _).mono ?_
  rintro e w1 ⟨rfl, rfl⟩
  go_wp2
  go_ret
  exact ⟨rfl, hk⟩
set_option maxRecDepth 20000 in
set_option maxHeartbeats 4000000 in
theorem flexForms_4 (c x d : Int) (M : Nat) (hi : (IntKind.u64.wrap c).tmod 11 = 4) (q : Int) (hq : bits .and .i64 x 1023 = q) (hqd : 1 + q = d) (d1 : 1 ≤ d) (d2 : d ≤ 1024) (hM : (32 + d).toNat = M) (hMp : 32 < M) (hM2 : M ≤ 1056) (w : World) :
    Calls Try.prog 8 #[.int .i64 c, .int .i64 x] w fun e w' => e = .returned (.bool true) ∧ Kept w w' := by
  have hmk := makeItems (32 + d) M (by omega) (by omega) hM
  have hb : mayI 1 (itemOf (zL [[5, 0, -d, 0, 0, 0]])) = false := mayI_one (itemB_no fun hp => by have h1 : (0 : Int) ≤ -d := hp.2.2.1.1; omega)
  have Hb := Lib.hid hb
  have HM := Lib.hid (show mayI M (itemOf fun _ _ => 0) = false from mayI_many hMp)
  have HR := Lib.hid (show inB 0 4194304 (4194304 + d) = false from inB_false.2 (by omega))
  clear hb
  replace hM := Lib.hid hM
  have hk : Kept w w := Kept.refl w
  go_enter Try.func8, Try.ntmps8
  go_wp2_with fail
  refine (awake19_any _).mono ?_
  rintro e w1 ⟨rfl, hn⟩
  replace hk := hk.trans hn
  clear hn
  go_wp2_with fail
  refine with_boxes2 ?_
  intro X hX b a
  have hsz := hk.size
  replace hk := hk.trans hX
  clear hX
  replace b_l := b.lt
  replace b_0 := b.at 0 _ rfl
  replace b_1 := b.at 1 _ rfl
  replace b_2 := b.at 2 _ rfl
  replace b_3 := b.at 3 _ rfl
  replace b_4 := b.at 4 _ rfl
  replace b_5 := b.at 5 _ rfl
  refine (flexCollect_no _ 1 _ 5 _ _ (itv_row (rv_lit a 6 1 (by decide) (intC (zL [[5, 0, -d, 0, 0, 0]])) rfl)) (by decide) (colE_may Hb.out)).mono ?_
  rintro e w1 ⟨u1, rfl, hn⟩
  replace hk := hk.trans hn
  replace b := b.kept hn
  replace a := a.kept hn
  clear hn
  replace b_l := b.lt
  replace b_0 := b.at 0 _ rfl
  replace b_1 := b.at 1 _ rfl
  replace b_2 := b.at 2 _ rfl
  replace b_3 := b.at 3 _ rfl
  replace b_4 := b.at 4 _ rfl
  replace b_5 := b.at 5 _ rfl
  clear a
  go_wp2_with fail
  refine with_boxes1 ?_
  intro X hX m
  have hsz := hk.size
  replace hk := hk.trans hX
  replace b := b.kept hX
  clear hX
  replace b_l := b.lt
  replace b_0 := b.at 0 _ rfl
  replace b_1 := b.at 1 _ rfl
  replace b_2 := b.at 2 _ rfl
  replace b_3 := b.at 3 _ rfl
  replace b_4 := b.at 4 _ rfl
  replace b_5 := b.at 5 _ rfl
  refine (flexCollect_no _ M _ 5 _ _ (itv_row (madeItems m (by omega))) (by omega) (colE_may HM.out)).mono ?_
  rintro e w1 ⟨u2, rfl, hn⟩
  replace hk := hk.trans hn
  replace b := b.kept hn
  replace m := m.kept hn
  clear hn
  replace b_l := b.lt
  replace b_0 := b.at 0 _ rfl
  replace b_1 := b.at 1 _ rfl
  replace b_2 := b.at 2 _ rfl
  replace b_3 := b.at 3 _ rfl
  replace b_4 := b.at 4 _ rfl
  replace b_5 := b.at 5 _ rfl
  clear m
  go_wp2_with fail
  refine (flexCollect_no _ 0 (fun _ => ⟨0, 0, 0, 0, 0, 0⟩) _ _ _ (.inl ⟨none, 0, rfl, rfl⟩) (by decide) (colE_room HR.out)).mono ?_
  rintro e w1 ⟨u3, rfl, hn⟩
  replace hk := hk.trans hn
  replace b := b.kept hn
  clear hn
  replace b_l := b.lt
  replace b_0 := b.at 0 _ rfl
  replace b_1 := b.at 1 _ rfl
  replace b_2 := b.at 2 _ rfl
  replace b_3 := b.at 3 _ rfl
  replace b_4 := b.at 4 _ rfl
  replace b_5 := b.at 5 _ rfl
  go_wp2_with fail
  refine (flexCollect_nil _ _ _ (by decide)).mono ?_
  rintro e w1 ⟨o4, c4, rfl, hn⟩
  replace hk := hk.trans hn
  replace b := b.kept hn
  clear hn
  replace b_l := b.lt
  replace b_0 := b.at 0 _ rfl
  replace b_1 := b.at 1 _ rfl
  replace b_2 := b.at 2 _ rfl
  replace b_3 := b.at 3 _ rfl
  replace b_4 := b.at 4 _ rfl
  replace b_5 := b.at 5 _ rfl
  go_wp2_with fail
  refine with_boxes1 ?_
  intro X hX e
  have hsz := hk.size
  replace hk := hk.trans hX
  replace b := b.kept hX
  clear hX
  replace b_l := b.lt
  replace b_0 := b.at 0 _ rfl
  replace b_1 := b.at 1 _ rfl
  replace b_2 := b.at 2 _ rfl
  replace b_3 := b.at 3 _ rfl
  replace b_4 := b.at 4 _ rfl
  replace b_5 := b.at 5 _ rfl
  refine (flexMay_is _ 1 _ _ (itv_row (rv_lit e 6 1 (by decide) (intC (zL [[5, 0, -d, 0, 0, 0]])) rfl)) (by decide) false Hb.out).mono ?_
  rintro e w1 ⟨rfl, hn⟩
  replace hk := hk.trans hn
  replace b := b.kept hn
  replace e := e.kept hn
  clear hn
  replace b_l := b.lt
  replace b_0 := b.at 0 _ rfl
  replace b_1 := b.at 1 _ rfl
  replace b_2 := b.at 2 _ rfl
  replace b_3 := b.at 3 _ rfl
  replace b_4 := b.at 4 _ rfl
  replace b_5 := b.at 5 _ rfl
  go_wp2_with fail
  refine (num_any _ _).mono ?_
  rintro e w1 ⟨rfl, rfl⟩
  go_wp2_with fail
  refine (num_any _ _).mono ?_
  rintro e w1 ⟨rfl, rfl⟩
  go_wp2_with fail
  refine (num_any _ _).mono ?_
  rintro e w1 ⟨rfl, rfl⟩
  go_wp2_with fail
  refine (num_any _ _).mono ?_
  rintro e w1 ⟨rfl, rfl⟩
  go_wp2
  go_ret
  exact ⟨rfl, hk⟩
set_option maxRecDepth 20000 in
set_option maxHeartbeats 4000000 in
theorem flexForms_5 (c x d : Int) (M : Nat) (hi : (IntKind.u64.wrap c).tmod 11 = 5) (q : Int) (hq : bits .and .i64 x 1023 = q) (hqd : 1 + q = d) (d1 : 1 ≤ d) (d2 : d ≤ 1024) (hM : (32 + d).toNat = M) (hMp : 32 < M) (hM2 : M ≤ 1056) (w : World) :
    Calls Try.prog 8 #[.int .i64 c, .int .i64 x] w fun e w' => e = .returned (.bool true) ∧ Kept w w' := by
  have hmk := makeItems (32 + d) M (by omega) (by omega) hM
  have hb : mayI 1 (itemOf (zL [[5, 0, 1073741824 + d, 0, 0, 0]])) = false := mayI_one (itemB_no fun hp => by have h1 : 1073741824 + d ≤ 1073741824 := hp.2.2.1.2; omega)
  have Hb := Lib.hid hb
  have HM := Lib.hid (show mayI M (itemOf fun _ _ => 0) = false from mayI_many hMp)
  have HR := Lib.hid (show inB 0 4194304 (4194304 + d) = false from inB_false.2 (by omega))
  clear hb
  replace hM := Lib.hid hM
  have hk : Kept w w := Kept.refl w
  go_enter Try.func8, Try.ntmps8
  go_wp2_with fail
  refine (awake19_any _).mono ?_
  rintro e w1 ⟨rfl, hn⟩
  replace hk := hk.trans hn
  clear hn
  go_wp2_with fail
  refine with_boxes2 ?_
  intro X hX b a
  have hsz := hk.size
  replace hk := hk.trans hX
  clear hX
  replace b_l := b.lt
  replace b_0 := b.at 0 _ rfl
  replace b_1 := b.at 1 _ rfl
  replace b_2 := b.at 2 _ rfl
  replace b_3 := b.at 3 _ rfl
  replace b_4 := b.at 4 _ rfl
  replace b_5 := b.at 5 _ rfl
  refine (flexCollect_no _ 1 _ 5 _ _ (itv_row (rv_lit a 6 1 (by decide) (intC (zL [[5, 0, 1073741824 + d, 0, 0, 0]])) rfl)) (by decide) (colE_may Hb.out)).mono ?_
  rintro e w1 ⟨u1, rfl, hn⟩
  replace hk := hk.trans hn
  replace b := b.kept hn
  replace a := a.kept hn
  clear hn
  replace b_l := b.lt
  replace b_0 := b.at 0 _ rfl
  replace b_1 := b.at 1 _ rfl
  replace b_2 := b.at 2 _ rfl
  replace b_3 := b.at 3 _ rfl
  replace b_4 := b.at 4 _ rfl
  replace b_5 := b.at 5 _ rfl
  clear a
  go_wp2_with fail
  refine with_boxes1 ?_
  intro X hX m
  have hsz := hk.size
  replace hk := hk.trans hX
  replace b := b.kept hX
  clear hX
  replace b_l := b.lt
  replace b_0 := b.at 0 _ rfl
  replace b_1 := b.at 1 _ rfl
  replace b_2 := b.at 2 _ rfl
  replace b_3 := b.at 3 _ rfl
  replace b_4 := b.at 4 _ rfl
  replace b_5 := b.at 5 _ rfl
  refine (flexCollect_no _ M _ 5 _ _ (itv_row (madeItems m (by omega))) (by omega) (colE_may HM.out)).mono ?_
  rintro e w1 ⟨u2, rfl, hn⟩
  replace hk := hk.trans hn
  replace b := b.kept hn
  replace m := m.kept hn
  clear hn
  replace b_l := b.lt
  replace b_0 := b.at 0 _ rfl
  replace b_1 := b.at 1 _ rfl
  replace b_2 := b.at 2 _ rfl
  replace b_3 := b.at 3 _ rfl
  replace b_4 := b.at 4 _ rfl
  replace b_5 := b.at 5 _ rfl
  clear m
  go_wp2_with fail
  refine (flexCollect_no _ 0 (fun _ => ⟨0, 0, 0, 0, 0, 0⟩) _ _ _ (.inl ⟨none, 0, rfl, rfl⟩) (by decide) (colE_room HR.out)).mono ?_
  rintro e w1 ⟨u3, rfl, hn⟩
  replace hk := hk.trans hn
  replace b := b.kept hn
  clear hn
  replace b_l := b.lt
  replace b_0 := b.at 0 _ rfl
  replace b_1 := b.at 1 _ rfl
  replace b_2 := b.at 2 _ rfl
  replace b_3 := b.at 3 _ rfl
  replace b_4 := b.at 4 _ rfl
  replace b_5 := b.at 5 _ rfl
  go_wp2_with fail
  refine (flexCollect_nil _ _ _ (by decide)).mono ?_
  rintro e w1 ⟨o4, c4, rfl, hn⟩
  replace hk := hk.trans hn
  replace b := b.kept hn
  clear hn
  replace b_l := b.lt
  replace b_0 := b.at 0 _ rfl
  replace b_1 := b.at 1 _ rfl
  replace b_2 := b.at 2 _ rfl
  replace b_3 := b.at 3 _ rfl
  replace b_4 := b.at 4 _ rfl
  replace b_5 := b.at 5 _ rfl
  go_wp2_with fail
  refine with_boxes1 ?_
  intro X hX e
  have hsz := hk.size
  replace hk := hk.trans hX
  replace b := b.kept hX
  clear hX
  replace b_l := b.lt
  replace b_0 := b.at 0 _ rfl
  replace b_1 := b.at 1 _ rfl
  replace b_2 := b.at 2 _ rfl
  replace b_3 := b.at 3 _ rfl
  replace b_4 := b.at 4 _ rfl
  replace b_5 := b.at 5 _ rfl
  refine (flexMay_is _ 1 _ _ (itv_row (rv_lit e 6 1 (by decide) (intC (zL [[5, 0, 1073741824 + d, 0, 0, 0]])) rfl)) (by decide) false Hb.out).mono ?_
  rintro e w1 ⟨rfl, hn⟩
  replace hk := hk.trans hn
  replace b := b.kept hn
  replace e := e.kept hn
  clear hn
  replace b_l := b.lt
  replace b_0 := b.at 0 _ rfl
  replace b_1 := b.at 1 _ rfl
  replace b_2 := b.at 2 _ rfl
  replace b_3 := b.at 3 _ rfl
  replace b_4 := b.at 4 _ rfl
  replace b_5 := b.at 5 _ rfl
  go_wp2_with fail
  refine (num_any _ _).mono ?_
  rintro e w1 ⟨rfl, rfl⟩
  go_wp2_with fail
  refine (num_any _ _).mono ?_
  rintro e w1 ⟨rfl, rfl⟩
  go_wp2_with fail
  refine (num_any _ _).mono ?_
  rintro e w1 ⟨rfl, rfl⟩
  go_wp2_with fail
  refine (num_any _ _).mono ?_
  rintro e w1 ⟨rfl, rfl⟩
  go_wp2
  go_ret
  exact ⟨rfl, hk⟩
set_option maxRecDepth 20000 in
set_option maxHeartbeats 4000000 in
theorem flexForms_6 (c x d : Int) (M : Nat) (hi : (IntKind.u64.wrap c).tmod 11 = 6) (q : Int) (hq : bits .and .i64 x 1023 = q) (hqd : 1 + q = d) (d1 : 1 ≤ d) (d2 : d ≤ 1024) (hM : (32 + d).toNat = M) (hMp : 32 < M) (hM2 : M ≤ 1056) (w : World) :
    Calls Try.prog 8 #[.int .i64 c, .int .i64 x] w fun e w' => e = .returned (.bool true) ∧ Kept w w' := by
  have hmk := makeItems (32 + d) M (by omega) (by omega) hM
  have hb : mayI 1 (itemOf (zL [[5, 0, 9, 100 + d, 0, 0]])) = false := mayI_one (itemB_no fun hp => by have h1 : 100 + d ≤ 100 := hp.2.2.2.1.2; omega)
  have Hb := Lib.hid hb
  have HM := Lib.hid (show mayI M (itemOf fun _ _ => 0) = false from mayI_many hMp)
  have HR := Lib.hid (show inB 0 4194304 (4194304 + d) = false from inB_false.2 (by omega))
  clear hb
  replace hM := Lib.hid hM
  have hk : Kept w w := Kept.refl w
  go_enter Try.func8, Try.ntmps8
  go_wp2_with fail
  refine (awake19_any _).mono ?_
  rintro e w1 ⟨rfl, hn⟩
  replace hk := hk.trans hn
  clear hn
  go_wp2_with fail
  refine with_boxes2 ?_
  intro X hX b a
  have hsz := hk.size
  replace hk := hk.trans hX
  clear hX
  replace b_l := b.lt
  replace b_0 := b.at 0 _ rfl
  replace b_1 := b.at 1 _ rfl
  replace b_2 := b.at 2 _ rfl
  replace b_3 := b.at 3 _ rfl
  replace b_4 := b.at 4 _ rfl
  replace b_5 := b.at 5 _ rfl
  refine (flexCollect_no _ 1 _ 5 _ _ (itv_row (rv_lit a 6 1 (by decide) (intC (zL [[5, 0, 9, 100 + d, 0, 0]])) rfl)) (by decide) (colE_may Hb.out)).mono ?_
  rintro e w1 ⟨u1, rfl, hn⟩
  replace hk := hk.trans hn
  replace b := b.kept hn
  replace a := a.kept hn
  clear hn
  replace b_l := b.lt
  replace b_0 := b.at 0 _ rfl
  replace b_1 := b.at 1 _ rfl
  replace b_2 := b.at 2 _ rfl
  replace b_3 := b.at 3 _ rfl
  replace b_4 := b.at 4 _ rfl
  replace b_5 := b.at 5 _ rfl
  clear a
  go_wp2_with fail
  refine with_boxes1 ?_
  intro X hX m
  have hsz := hk.size
  replace hk := hk.trans hX
  replace b := b.kept hX
  clear hX
  replace b_l := b.lt
  replace b_0 := b.at 0 _ rfl
  replace b_1 := b.at 1 _ rfl
  replace b_2 := b.at 2 _ rfl
  replace b_3 := b.at 3 _ rfl
  replace b_4 := b.at 4 _ rfl
  replace b_5 := b.at 5 _ rfl
  refine (flexCollect_no _ M _ 5 _ _ (itv_row (madeItems m (by omega))) (by omega) (colE_may HM.out)).mono ?_
  rintro e w1 ⟨u2, rfl, hn⟩
  replace hk := hk.trans hn
  replace b := b.kept hn
  replace m := m.kept hn
  clear hn
  replace b_l := b.lt
  replace b_0 := b.at 0 _ rfl
  replace b_1 := b.at 1 _ rfl
  replace b_2 := b.at 2 _ rfl
  replace b_3 := b.at 3 _ rfl
  replace b_4 := b.at 4 _ rfl
  replace b_5 := b.at 5 _ rfl
  clear m
  go_wp2_with fail
  refine (flexCollect_no _ 0 (fun _ => ⟨0, 0, 0, 0, 0, 0⟩) _ _ _ (.inl ⟨none, 0, rfl, rfl⟩) (by decide) (colE_room HR.out)).mono ?_
  rintro e w1 ⟨u3, rfl, hn⟩
  replace hk := hk.trans hn
  replace b := b.kept hn
  clear hn
  replace b_l := b.lt
  replace b_0 := b.at 0 _ rfl
  replace b_1 := b.at 1 _ rfl
  replace b_2 := b.at 2 _ rfl
  replace b_3 := b.at 3 _ rfl
  replace b_4 := b.at 4 _ rfl
  replace b_5 := b.at 5 _ rfl
  go_wp2_with fail
  refine (flexCollect_nil _ _ _ (by decide)).mono ?_
  rintro e w1 ⟨o4, c4, rfl, hn⟩
  replace hk := hk.trans hn
  replace b := b.kept hn
  clear hn
  replace b_l := b.lt
  replace b_0 := b.at 0 _ rfl
  replace b_1 := b.at 1 _ rfl
  replace b_2 := b.at 2 _ rfl
  replace b_3 := b.at 3 _ rfl
  replace b_4 := b.at 4 _ rfl
  replace b_5 := b.at 5 _ rfl
  go_wp2_with fail
  refine with_boxes1 ?_
  intro X hX e
  have hsz := hk.size
  replace hk := hk.trans hX
  replace b := b.kept hX
  clear hX
  replace b_l := b.lt
  replace b_0 := b.at 0 _ rfl
  replace b_1 := b.at 1 _ rfl
  replace b_2 := b.at 2 _ rfl
  replace b_3 := b.at 3 _ rfl
  replace b_4 := b.at 4 _ rfl
  replace b_5 := b.at 5 _ rfl
  refine (flexMay_is _ 1 _ _ (itv_row (rv_lit e 6 1 (by decide) (intC (zL [[5, 0, 9, 100 + d, 0, 0]])) rfl)) (by decide) false Hb.out).mono ?_
  rintro e w1 ⟨rfl, hn⟩
  replace hk := hk.trans hn
  replace b := b.kept hn
  replace e := e.kept hn
  clear hn
  replace b_l := b.lt
  replace b_0 := b.at 0 _ rfl
  replace b_1 := b.at 1 _ rfl
  replace b_2 := b.at 2 _ rfl
  replace b_3 := b.at 3 _ rfl
  replace b_4 := b.at 4 _ rfl
  replace b_5 := b.at 5 _ rfl
  go_wp2_with fail
  refine (num_any _ _).mono ?_
  rintro e w1 ⟨rfl, rfl⟩
  go_wp2_with fail
  refine (num_any _ _).mono ?_
  rintro e w1 ⟨rfl, rfl⟩
  go_wp2_with fail
  refine (num_any _ _).mono ?_
  rintro e w1 ⟨rfl, rfl⟩
  go_wp2_with fail
  refine (num_any _ _).mono ?_
  rintro e w1 ⟨rfl, rfl⟩
  go_wp2
  go_ret
  exact ⟨rfl, hk⟩
set_option maxRecDepth 20000 in
set_option maxHeartbeats 4000000 in
theorem flexForms_7 (c x d : Int) (M : Nat) (hi : (IntKind.u64.wrap c).tmod 11 = 7) (q : Int) (hq : bits .and .i64 x 1023 = q) (hqd : 1 + q = d) (d1 : 1 ≤ d) (d2 : d ≤ 1024) (hM : (32 + d).toNat = M) (hMp : 32 < M) (hM2 : M ≤ 1056) (w : World) :
    Calls Try.prog 8 #[.int .i64 c, .int .i64 x] w fun e w' => e = .returned (.bool true) ∧ Kept w w' := by
  have hmk := makeItems (32 + d) M (by omega) (by omega) hM
  have hb : mayI 1 (itemOf (zL [[5, 0, 9, 0, -d, 0]])) = false := mayI_one (itemB_no fun hp => by have h1 : (0 : Int) ≤ -d := hp.2.2.2.2.1.1; omega)
  have Hb := Lib.hid hb
  have HM := Lib.hid (show mayI M (itemOf fun _ _ => 0) = false from mayI_many hMp)
  have HR := Lib.hid (show inB 0 4194304 (4194304 + d) = false from inB_false.2 (by omega))
  clear hb
  replace hM := Lib.hid hM
  have hk : Kept w w := Kept.refl w
  go_enter Try.func8, Try.ntmps8
  go_wp2_with fail
  refine (awake19_any _).mono ?_
  rintro e w1 ⟨rfl, hn⟩
  replace hk := hk.trans hn
  clear hn
  go_wp2_with fail
  refine with_boxes2 ?_
  intro X hX b a
  have hsz := hk.size
  replace hk := hk.trans hX
  clear hX
  replace b_l := b.lt
  replace b_0 := b.at 0 _ rfl
  replace b_1 := b.at 1 _ rfl
  replace b_2 := b.at 2 _ rfl
  replace b_3 := b.at 3 _ rfl
  replace b_4 := b.at 4 _ rfl
  replace b_5 := b.at 5 _ rfl
  refine (flexCollect_no _ 1 _ 5 _ _ (itv_row (rv_lit a 6 1 (by decide) (intC (zL [[5, 0, 9, 0, -d, 0]])) rfl)) (by decide) (colE_may Hb.out)).mono ?_
  rintro e w1 ⟨u1, rfl, hn⟩
  replace hk := hk.trans hn
  replace b := b.kept hn
  replace a := a.kept hn
  clear hn
  replace b_l := b.lt
  replace b_0 := b.at 0 _ rfl
  replace b_1 := b.at 1 _ rfl
  replace b_2 := b.at 2 _ rfl
  replace b_3 := b.at 3 _ rfl
  replace b_4 := b.at 4 _ rfl
  replace b_5 := b.at 5 _ rfl
  clear a
  go_wp2_with fail
  refine with_boxes1 ?_
  intro X hX m
  have hsz := hk.size
  replace hk := hk.trans hX
  replace b := b.kept hX
  clear hX
  replace b_l := b.lt
  replace b_0 := b.at 0 _ rfl
  replace b_1 := b.at 1 _ rfl
  replace b_2 := b.at 2 _ rfl
  replace b_3 := b.at 3 _ rfl
  replace b_4 := b.at 4 _ rfl
  replace b_5 := b.at 5 _ rfl
  refine (flexCollect_no _ M _ 5 _ _ (itv_row (madeItems m (by omega))) (by omega) (colE_may HM.out)).mono ?_
  rintro e w1 ⟨u2, rfl, hn⟩
  replace hk := hk.trans hn
  replace b := b.kept hn
  replace m := m.kept hn
  clear hn
  replace b_l := b.lt
  replace b_0 := b.at 0 _ rfl
  replace b_1 := b.at 1 _ rfl
  replace b_2 := b.at 2 _ rfl
  replace b_3 := b.at 3 _ rfl
  replace b_4 := b.at 4 _ rfl
  replace b_5 := b.at 5 _ rfl
  clear m
  go_wp2_with fail
  refine (flexCollect_no _ 0 (fun _ => ⟨0, 0, 0, 0, 0, 0⟩) _ _ _ (.inl ⟨none, 0, rfl, rfl⟩) (by decide) (colE_room HR.out)).mono ?_
  rintro e w1 ⟨u3, rfl, hn⟩
  replace hk := hk.trans hn
  replace b := b.kept hn
  clear hn
  replace b_l := b.lt
  replace b_0 := b.at 0 _ rfl
  replace b_1 := b.at 1 _ rfl
  replace b_2 := b.at 2 _ rfl
  replace b_3 := b.at 3 _ rfl
  replace b_4 := b.at 4 _ rfl
  replace b_5 := b.at 5 _ rfl
  go_wp2_with fail
  refine (flexCollect_nil _ _ _ (by decide)).mono ?_
  rintro e w1 ⟨o4, c4, rfl, hn⟩
  replace hk := hk.trans hn
  replace b := b.kept hn
  clear hn
  replace b_l := b.lt
  replace b_0 := b.at 0 _ rfl
  replace b_1 := b.at 1 _ rfl
  replace b_2 := b.at 2 _ rfl
  replace b_3 := b.at 3 _ rfl
  replace b_4 := b.at 4 _ rfl
  replace b_5 := b.at 5 _ rfl
  go_wp2_with fail
  refine with_boxes1 ?_
  intro X hX e
  have hsz := hk.size
  replace hk := hk.trans hX
  replace b := b.kept hX
  clear hX
  replace b_l := b.lt
  replace b_0 := b.at 0 _ rfl
  replace b_1 := b.at 1 _ rfl
  replace b_2 := b.at 2 _ rfl
  replace b_3 := b.at 3 _ rfl
  replace b_4 := b.at 4 _ rfl
  replace b_5 := b.at 5 _ rfl
  refine (flexMay_is _ 1 _ _ (itv_row (rv_lit e 6 1 (by decide) (intC (zL [[5, 0, 9, 0, -d, 0]])) rfl)) (by decide) false Hb.out).mono ?_
  rintro e w1 ⟨rfl, hn⟩
  replace hk := hk.trans hn
  replace b := b.kept hn
  replace e := e.kept hn
  clear hn
  replace b_l := b.lt
  replace b_0 := b.at 0 _ rfl
  replace b_1 := b.at 1 _ rfl
  replace b_2 := b.at 2 _ rfl
  replace b_3 := b.at 3 _ rfl
  replace b_4 := b.at 4 _ rfl
  replace b_5 := b.at 5 _ rfl
  go_wp2_with fail
  refine (num_any _ _).mono ?_
  rintro e w1 ⟨rfl, rfl⟩
  go_wp2_with fail
  refine (num_any _ _).mono ?_
  rintro e w1 ⟨rfl, rfl⟩
  go_wp2_with fail
  refine (num_any _ _).mono ?_
  rintro e w1 ⟨rfl, rfl⟩
  go_wp2_with fail
  refine (num_any _ _).mono ?_
  rintro e w1 ⟨rfl, rfl⟩
  go_wp2
  go_ret
  exact ⟨rfl, hk⟩
set_option maxRecDepth 20000 in
set_option maxHeartbeats 4000000 in
theorem flexForms_8 (c x d : Int) (M : Nat) (hi : (IntKind.u64.wrap c).tmod 11 = 8) (q : Int) (hq : bits .and .i64 x 1023 = q) (hqd : 1 + q = d) (d1 : 1 ≤ d) (d2 : d ≤ 1024) (hM : (32 + d).toNat = M) (hMp : 32 < M) (hM2 : M ≤ 1056) (w : World) :
    Calls Try.prog 8 #[.int .i64 c, .int .i64 x] w fun e w' => e = .returned (.bool true) ∧ Kept w w' := by
  have hmk := makeItems (32 + d) M (by omega) (by omega) hM
  have hb : mayI 1 (itemOf (zL [[5, 0, 9, 0, 0, 4194304 + d]])) = false := mayI_one (itemB_no fun hp => by have h1 : 4194304 + d ≤ 4194304 := hp.2.2.2.2.2.2; omega)
  have Hb := Lib.hid hb
  have HM := Lib.hid (show mayI M (itemOf fun _ _ => 0) = false from mayI_many hMp)
  have HR := Lib.hid (show inB 0 4194304 (4194304 + d) = false from inB_false.2 (by omega))
  clear hb
  replace hM := Lib.hid hM
  have hk : Kept w w := Kept.refl w
  go_enter Try.func8, Try.ntmps8
  go_wp2_with fail
  refine (awake19_any _).mono ?_
  rintro e w1 ⟨rfl, hn⟩
  replace hk := hk.trans hn
  clear hn
  go_wp2_with fail
  refine with_boxes2 ?_
  intro X hX b a
  have hsz := hk.size
  replace hk := hk.trans hX
  clear hX
  replace b_l := b.lt
  replace b_0 := b.at 0 _ rfl
  replace b_1 := b.at 1 _ rfl
  replace b_2 := b.at 2 _ rfl
  replace b_3 := b.at 3 _ rfl
  replace b_4 := b.at 4 _ rfl
  replace b_5 := b.at 5 _ rfl
  refine (flexCollect_no _ 1 _ 5 _ _ (itv_row (rv_lit a 6 1 (by decide) (intC (zL [[5, 0, 9, 0, 0, 4194304 + d]])) rfl)) (by decide) (colE_may Hb.out)).mono ?_
  rintro e w1 ⟨u1, rfl, hn⟩
  replace hk := hk.trans hn
  replace b := b.kept hn
  replace a := a.kept hn
  clear hn
  replace b_l := b.lt
  replace b_0 := b.at 0 _ rfl
  replace b_1 := b.at 1 _ rfl
  replace b_2 := b.at 2 _ rfl
  replace b_3 := b.at 3 _ rfl
  replace b_4 := b.at 4 _ rfl
  replace b_5 := b.at 5 _ rfl
  clear a
  go_wp2_with fail
  refine with_boxes1 ?_
  intro X hX m
  have hsz := hk.size
  replace hk := hk.trans hX
  replace b := b.kept hX
  clear hX
  replace b_l := b.lt
  replace b_0 := b.at 0 _ rfl
  replace b_1 := b.at 1 _ rfl
  replace b_2 := b.at 2 _ rfl
  replace b_3 := b.at 3 _ rfl
  replace b_4 := b.at 4 _ rfl
  replace b_5 := b.at 5 _ rfl
  refine (flexCollect_no _ M _ 5 _ _ (itv_row (madeItems m (by omega))) (by omega) (colE_may HM.out)).mono ?_
  rintro e w1 ⟨u2, rfl, hn⟩
  replace hk := hk.trans hn
  replace b := b.kept hn
  replace m := m.kept hn
  clear hn
  replace b_l := b.lt
  replace b_0 := b.at 0 _ rfl
  replace b_1 := b.at 1 _ rfl
  replace b_2 := b.at 2 _ rfl
  replace b_3 := b.at 3 _ rfl
  replace b_4 := b.at 4 _ rfl
  replace b_5 := b.at 5 _ rfl
  clear m
  go_wp2_with fail
  refine (flexCollect_no _ 0 (fun _ => ⟨0, 0, 0, 0, 0, 0⟩) _ _ _ (.inl ⟨none, 0, rfl, rfl⟩) (by decide) (colE_room HR.out)).mono ?_
  rintro e w1 ⟨u3, rfl, hn⟩
  replace hk := hk.trans hn
  replace b := b.kept hn
  clear hn
  replace b_l := b.lt
  replace b_0 := b.at 0 _ rfl
  replace b_1 := b.at 1 _ rfl
  replace b_2 := b.at 2 _ rfl
  replace b_3 := b.at 3 _ rfl
  replace b_4 := b.at 4 _ rfl
  replace b_5 := b.at 5 _ rfl
  go_wp2_with fail
  refine (flexCollect_nil _ _ _ (by decide)).mono ?_
  rintro e w1 ⟨o4, c4, rfl, hn⟩
  replace hk := hk.trans hn
  replace b := b.kept hn
  clear hn
  replace b_l := b.lt
  replace b_0 := b.at 0 _ rfl
  replace b_1 := b.at 1 _ rfl
  replace b_2 := b.at 2 _ rfl
  replace b_3 := b.at 3 _ rfl
  replace b_4 := b.at 4 _ rfl
  replace b_5 := b.at 5 _ rfl
  go_wp2_with fail
  refine with_boxes1 ?_
  intro X hX e
  have hsz := hk.size
  replace hk := hk.trans hX
  replace b := b.kept hX
  clear hX
  replace b_l := b.lt
  replace b_0 := b.at 0 _ rfl
  replace b_1 := b.at 1 _ rfl
  replace b_2 := b.at 2 _ rfl
  replace b_3 := b.at 3 _ rfl
  replace b_4 := b.at 4 _ rfl
  replace b_5 := b.at 5 _ rfl
  refine (flexMay_is _ 1 _ _ (itv_row (rv_lit e 6 1 (by decide) (intC (zL [[5, 0, 9, 0, 0, 4194304 + d]])) rfl)) (by decide) false Hb.out).mono ?_
  rintro e w1 ⟨rfl, hn⟩
  replace hk := hk.trans hn
  replace b := b.kept hn
  replace e := e.kept hn
  clear hn
  replace b_l := b.lt
  replace b_0 := b.at 0 _ rfl
  replace b_1 := b.at 1 _ rfl
  replace b_2 := b.at 2 _ rfl
  replace b_3 := b.at 3 _ rfl
  replace b_4 := b.at 4 _ rfl
  replace b_5 := b.at 5 _ rfl
  go_wp2_with fail
  refine (num_any _ _).mono ?_
  rintro e w1 ⟨rfl, rfl⟩
  go_wp2_with fail
  refine (num_any _ _).mono ?_
  rintro e w1 ⟨rfl, rfl⟩
  go_wp2_with fail
  refine (num_any _ _).mono ?_
  rintro e w1 ⟨rfl, rfl⟩
  go_wp2_with fail
  refine (num_any _ _).mono ?_
  rintro e w1 ⟨rfl, rfl⟩
  go_wp2
  go_ret
  exact ⟨rfl, hk⟩
set_option maxRecDepth 20000 in
set_option maxHeartbeats 4000000 in
theorem flexForms_9 (c x d : Int) (M : Nat) (hi : (IntKind.u64.wrap c).tmod 11 = 9) (q : Int) (hq : bits .and .i64 x 1023 = q) (hqd : 1 + q = d) (d1 : 1 ≤ d) (d2 : d ≤ 1024) (hM : (32 + d).toNat = M) (hMp : 32 < M) (hM2 : M ≤ 1056) (w : World) :
    Calls Try.prog 8 #[.int .i64 c, .int .i64 x] w fun e w' => e = .returned (.bool true) ∧ Kept w w' := by
  have hmk := makeItems (32 + d) M (by omega) (by omega) hM
  have hb : mayI 1 (itemOf (zL [[5, 0, 9, 0, 0, -4194304 - d]])) = false := mayI_one (itemB_no fun hp => by have h1 : -4194304 ≤ -4194304 - d := hp.2.2.2.2.2.1; omega)
  have Hb := Lib.hid hb
  have HM := Lib.hid (show mayI M (itemOf fun _ _ => 0) = false from mayI_many hMp)
  have HR := Lib.hid (show inB 0 4194304 (4194304 + d) = false from inB_false.2 (by omega))
  clear hb
  replace hM := Lib.hid hM
  have hk : Kept w w := Kept.refl w
  go_enter Try.func8, Try.ntmps8
  go_wp2_with fail
  refine (awake19_any _).mono ?_
  rintro e w1 ⟨rfl, hn⟩
  replace hk := hk.trans hn
  clear hn
  go_wp2_with fail
  refine with_boxes2 ?_
  intro X hX b a
  have hsz := hk.size
  replace hk := hk.trans hX
  clear hX
  replace b_l := b.lt
  replace b_0 := b.at 0 _ rfl
  replace b_1 := b.at 1 _ rfl
  replace b_2 := b.at 2 _ rfl
  replace b_3 := b.at 3 _ rfl
  replace b_4 := b.at 4 _ rfl
  replace b_5 := b.at 5 _ rfl
  refine (flexCollect_no _ 1 _ 5 _ _ (itv_row (rv_lit a 6 1 (by decide) (intC (zL [[5, 0, 9, 0, 0, -4194304 - d]])) rfl)) (by decide) (colE_may Hb.out)).mono ?_
  rintro e w1 ⟨u1, rfl, hn⟩
  replace hk := hk.trans hn
  replace b := b.kept hn
  replace a := a.kept hn
  clear hn
  replace b_l := b.lt
  replace b_0 := b.at 0 _ rfl
  replace b_1 := b.at 1 _ rfl
  replace b_2 := b.at 2 _ rfl
  replace b_3 := b.at 3 _ rfl
  replace b_4 := b.at 4 _ rfl
  replace b_5 := b.at 5 _ rfl
  clear a
  go_wp2_with fail
  refine with_boxes1 ?_
  intro X hX m
  have hsz := hk.size
  replace hk := hk.trans hX
  replace b := b.kept hX
  clear hX
  replace b_l := b.lt
  replace b_0 := b.at 0 _ rfl
  replace b_1 := b.at 1 _ rfl
  replace b_2 := b.at 2 _ rfl
  replace b_3 := b.at 3 _ rfl
  replace b_4 := b.at 4 _ rfl
  replace b_5 := b.at 5 _ rfl
  refine (flexCollect_no _ M _ 5 _ _ (itv_row (madeItems m (by omega))) (by omega) (colE_may HM.out)).mono ?_
  rintro e w1 ⟨u2, rfl, hn⟩
  replace hk := hk.trans hn
  replace b := b.kept hn
  replace m := m.kept hn
  clear hn
  replace b_l := b.lt
  replace b_0 := b.at 0 _ rfl
  replace b_1 := b.at 1 _ rfl
  replace b_2 := b.at 2 _ rfl
  replace b_3 := b.at 3 _ rfl
  replace b_4 := b.at 4 _ rfl
  replace b_5 := b.at 5 _ rfl
  clear m
  go_wp2_with fail
  refine (flexCollect_no _ 0 (fun _ => ⟨0, 0, 0, 0, 0, 0⟩) _ _ _ (.inl ⟨none, 0, rfl, rfl⟩) (by decide) (colE_room HR.out)).mono ?_
  rintro e w1 ⟨u3, rfl, hn⟩
  replace hk := hk.trans hn
  replace b := b.kept hn
  clear hn
  replace b_l := b.lt
  replace b_0 := b.at 0 _ rfl
  replace b_1 := b.at 1 _ rfl
  replace b_2 := b.at 2 _ rfl
  replace b_3 := b.at 3 _ rfl
  replace b_4 := b.at 4 _ rfl
  replace b_5 := b.at 5 _ rfl
  go_wp2_with fail
  refine (flexCollect_nil _ _ _ (by decide)).mono ?_
  rintro e w1 ⟨o4, c4, rfl, hn⟩
  replace hk := hk.trans hn
  replace b := b.kept hn
  clear hn
  replace b_l := b.lt
  replace b_0 := b.at 0 _ rfl
  replace b_1 := b.at 1 _ rfl
  replace b_2 := b.at 2 _ rfl
  replace b_3 := b.at 3 _ rfl
  replace b_4 := b.at 4 _ rfl
  replace b_5 := b.at 5 _ rfl
  go_wp2_with fail
  refine with_boxes1 ?_
  intro X hX e
  have hsz := hk.size
  replace hk := hk.trans hX
  replace b := b.kept hX
  clear hX
  replace b_l := b.lt
  replace b_0 := b.at 0 _ rfl
  replace b_1 := b.at 1 _ rfl
  replace b_2 := b.at 2 _ rfl
  replace b_3 := b.at 3 _ rfl
  replace b_4 := b.at 4 _ rfl
  replace b_5 := b.at 5 _ rfl
  refine (flexMay_is _ 1 _ _ (itv_row (rv_lit e 6 1 (by decide) (intC (zL [[5, 0, 9, 0, 0, -4194304 - d]])) rfl)) (by decide) false Hb.out).mono ?_
  rintro e w1 ⟨rfl, hn⟩
  replace hk := hk.trans hn
  replace b := b.kept hn
  replace e := e.kept hn
  clear hn
  replace b_l := b.lt
  replace b_0 := b.at 0 _ rfl
  replace b_1 := b.at 1 _ rfl
  replace b_2 := b.at 2 _ rfl
  replace b_3 := b.at 3 _ rfl
  replace b_4 := b.at 4 _ rfl
  replace b_5 := b.at 5 _ rfl
  go_wp2_with fail
  refine (num_any _ _).mono ?_
  rintro e w1 ⟨rfl, rfl⟩
  go_wp2_with fail
  refine (num_any _ _).mono ?_
  rintro e w1 ⟨rfl, rfl⟩
  go_wp2_with fail
  refine (num_any _ _).mono ?_
  rintro e w1 ⟨rfl, rfl⟩
  go_wp2_with fail
  refine (num_any _ _).mono ?_
  rintro e w1 ⟨rfl, rfl⟩
  go_wp2
  go_ret
  exact ⟨rfl, hk⟩
set_option maxRecDepth 20000 in
set_option maxHeartbeats 4000000 in
theorem flexForms_10 (c x d : Int) (M : Nat) (hi : (IntKind.u64.wrap c).tmod 11 = 10) (q : Int) (hq : bits .and .i64 x 1023 = q) (hqd : 1 + q = d) (d1 : 1 ≤ d) (d2 : d ≤ 1024) (hM : (32 + d).toNat = M) (hMp : 32 < M) (hM2 : M ≤ 1056) (w : World) :
    Calls Try.prog 8 #[.int .i64 c, .int .i64 x] w fun e w' => e = .returned (.bool true) ∧ Kept w w' := by
  have hmk := makeItems (32 + d) M (by omega) (by omega) hM
  have hb : mayI 1 (itemOf (zL [[5, 0, 9, -d, 0, 0]])) = false := mayI_one (itemB_no fun hp => by have h1 : (0 : Int) ≤ -d := hp.2.2.2.1.1; omega)
  have Hb := Lib.hid hb
  have HM := Lib.hid (show mayI M (itemOf fun _ _ => 0) = false from mayI_many hMp)
  have HR := Lib.hid (show inB 0 4194304 (4194304 + d) = false from inB_false.2 (by omega))
  clear hb
  replace hM := Lib.hid hM
  have hk : Kept w w := Kept.refl w
  go_enter Try.func8, Try.ntmps8
  go_wp2_with fail
  refine (awake19_any _).mono ?_
  rintro e w1 ⟨rfl, hn⟩
  replace hk := hk.trans hn
  clear hn
  go_wp2_with fail
  refine with_boxes2 ?_
  intro X hX b a
  have hsz := hk.size
  replace hk := hk.trans hX
  clear hX
  replace b_l := b.lt
  replace b_0 := b.at 0 _ rfl
  replace b_1 := b.at 1 _ rfl
  replace b_2 := b.at 2 _ rfl
  replace b_3 := b.at 3 _ rfl
  replace b_4 := b.at 4 _ rfl
  replace b_5 := b.at 5 _ rfl
  refine (flexCollect_no _ 1 _ 5 _ _ (itv_row (rv_lit a 6 1 (by decide) (intC (zL [[5, 0, 9, -d, 0, 0]])) rfl)) (by decide) (colE_may Hb.out)).mono ?_
  rintro e w1 ⟨u1, rfl, hn⟩
  replace hk := hk.trans hn
  replace b := b.kept hn
  replace a := a.kept hn
  clear hn
  replace b_l := b.lt
  replace b_0 := b.at 0 _ rfl
  replace b_1 := b.at 1 _ rfl
  replace b_2 := b.at 2 _ rfl
  replace b_3 := b.at 3 _ rfl
  replace b_4 := b.at 4 _ rfl
  replace b_5 := b.at 5 _ rfl
  clear a
  go_wp2_with fail
  refine with_boxes1 ?_
  intro X hX m
  have hsz := hk.size
  replace hk := hk.trans hX
  replace b := b.kept hX
  clear hX
  replace b_l := b.lt
  replace b_0 := b.at 0 _ rfl
  replace b_1 := b.at 1 _ rfl
  replace b_2 := b.at 2 _ rfl
  replace b_3 := b.at 3 _ rfl
  replace b_4 := b.at 4 _ rfl
  replace b_5 := b.at 5 _ rfl
  refine (flexCollect_no _ M _ 5 _ _ (itv_row (madeItems m (by omega))) (by omega) (colE_may HM.out)).mono ?_
  rintro e w1 ⟨u2, rfl, hn⟩
  replace hk := hk.trans hn
  replace b := b.kept hn
  replace m := m.kept hn
  clear hn
  replace b_l := b.lt
  replace b_0 := b.at 0 _ rfl
  replace b_1 := b.at 1 _ rfl
  replace b_2 := b.at 2 _ rfl
  replace b_3 := b.at 3 _ rfl
  replace b_4 := b.at 4 _ rfl
  replace b_5 := b.at 5 _ rfl
  clear m
  go_wp2_with fail
  refine (flexCollect_no _ 0 (fun _ => ⟨0, 0, 0, 0, 0, 0⟩) _ _ _ (.inl ⟨none, 0, rfl, rfl⟩) (by decide) (colE_room HR.out)).mono ?_
  rintro e w1 ⟨u3, rfl, hn⟩
  replace hk := hk.trans hn
  replace b := b.kept hn
  clear hn
  replace b_l := b.lt
  replace b_0 := b.at 0 _ rfl
  replace b_1 := b.at 1 _ rfl
  replace b_2 := b.at 2 _ rfl
  replace b_3 := b.at 3 _ rfl
  replace b_4 := b.at 4 _ rfl
  replace b_5 := b.at 5 _ rfl
  go_wp2_with fail
  refine (flexCollect_nil _ _ _ (by decide)).mono ?_
  rintro e w1 ⟨o4, c4, rfl, hn⟩
  replace hk := hk.trans hn
  replace b := b.kept hn
  clear hn
  replace b_l := b.lt
  replace b_0 := b.at 0 _ rfl
  replace b_1 := b.at 1 _ rfl
  replace b_2 := b.at 2 _ rfl
  replace b_3 := b.at 3 _ rfl
  replace b_4 := b.at 4 _ rfl
  replace b_5 := b.at 5 _ rfl
  go_wp2_with fail
  refine with_boxes1 ?_
  intro X hX e
  have hsz := hk.size
  replace hk := hk.trans hX
  replace b := b.kept hX
  clear hX
  replace b_l := b.lt
  replace b_0 := b.at 0 _ rfl
  replace b_1 := b.at 1 _ rfl
  replace b_2 := b.at 2 _ rfl
  replace b_3 := b.at 3 _ rfl
  replace b_4 := b.at 4 _ rfl
  replace b_5 := b.at 5 _ rfl
  refine (flexMay_is _ 1 _ _ (itv_row (rv_lit e 6 1 (by decide) (intC (zL [[5, 0, 9, -d, 0, 0]])) rfl)) (by decide) false Hb.out).mono ?_
  rintro e w1 ⟨rfl, hn⟩
  replace hk := hk.trans hn
  replace b := b.kept hn
  replace e := e.kept hn
  clear hn
  replace b_l := b.lt
  replace b_0 := b.at 0 _ rfl
  replace b_1 := b.at 1 _ rfl
  replace b_2 := b.at 2 _ rfl
  replace b_3 := b.at 3 _ rfl
  replace b_4 := b.at 4 _ rfl
  replace b_5 := b.at 5 _ rfl
  go_wp2_with fail
  refine (num_any _ _).mono ?_
  rintro e w1 ⟨rfl, rfl⟩
  go_wp2_with fail
  refine (num_any _ _).mono ?_
  rintro e w1 ⟨rfl, rfl⟩
  go_wp2_with fail
  refine (num_any _ _).mono ?_
  rintro e w1 ⟨rfl, rfl⟩
  go_wp2_with fail
  refine (num_any _ _).mono ?_
  rintro e w1 ⟨rfl, rfl⟩
  go_wp2
  go_ret
  exact ⟨rfl, hk⟩
theorem flexForms_walk (c x : Int) (w : World) :
    Calls Try.prog 8 #[.int .i64 c, .int .i64 x] w fun e w' => e = .returned (.bool true) ∧ Kept w w' := by
  obtain ⟨i, hi, i0, i1⟩ := urest2 c 11 (by decide)
  obtain ⟨q, hq, q0, q1⟩ := masked x 10 1023 (by decide) (by decide)
  have hM : ∃ M : Nat, (32 + (1 + q)).toNat = M ∧ 32 < M ∧ M ≤ 1056 := ⟨_, rfl, by omega, by omega⟩
  obtain ⟨M, hM, m1, m2⟩ := hM
  rcases (by omega : i = 0 ∨ i = 1 ∨ i = 2 ∨ i = 3 ∨ i = 4 ∨ i = 5 ∨ i = 6 ∨ i = 7 ∨ i = 8 ∨ i = 9 ∨ i = 10) with rfl | rfl | rfl | rfl | rfl | rfl | rfl | rfl | rfl | rfl | rfl
  · exact flexForms_0 c x (1 + q) M hi q hq rfl (by omega) (by omega) hM m1 m2 w
  · exact flexForms_1 c x (1 + q) M hi q hq rfl (by omega) (by omega) hM m1 m2 w
  · exact flexForms_2 c x (1 + q) M hi q hq rfl (by omega) (by omega) hM m1 m2 w
  · exact flexForms_3 c x (1 + q) M hi q hq rfl (by omega) (by omega) hM m1 m2 w
  · exact flexForms_4 c x (1 + q) M hi q hq rfl (by omega) (by omega) hM m1 m2 w
  · exact flexForms_5 c x (1 + q) M hi q hq rfl (by omega) (by omega) hM m1 m2 w
  · exact flexForms_6 c x (1 + q) M hi q hq rfl (by omega) (by omega) hM m1 m2 w
  · exact flexForms_7 c x (1 + q) M hi q hq rfl (by omega) (by omega) hM m1 m2 w
  · exact flexForms_8 c x (1 + q) M hi q hq rfl (by omega) (by omega) hM m1 m2 w
  · exact flexForms_9 c x (1 + q) M hi q hq rfl (by omega) (by omega) hM m1 m2 w
  · exact flexForms_10 c x (1 + q) M hi q hq rfl (by omega) (by omega) hM m1 m2 w
end Go.Proofs.Ytpjppnomfponfaa
