/- Layer 20: items, rooms that may not be. -/
import Derived.Test.YticnfoppdgeioaaAwake20
import Derived.Test.YticnfoppdgeioaaMask
namespace Go.Proofs.Yticnfoppdgeioaa
open Go.RowKit
set_option linter.unusedSimpArgs false
set_option linter.unusedVariables false
theorem itemB_no {x : Item} (h : ¬ ((0 ≤ x.base ∧ x.base ≤ 4194304) ∧ (0 ≤ x.min ∧ x.min ≤ 4194304) ∧ (0 ≤ x.max ∧ x.max ≤ 1073741824) ∧ (0 ≤ x.grow ∧ x.grow ≤ 100) ∧ (0 ≤ x.shrink ∧ x.shrink ≤ 100) ∧ -4194304 ≤ x.extra ∧ x.extra ≤ 4194304)) : itemB x = false := by
  cases hb : itemB x
  · rfl
  · exact absurd (itemB_parts hb) h
theorem goodF_one {I : Nat → Item} {room : Int} (h : itemB (I 0) = false) : goodF 1 I room = false := by unfold goodF mayI; rw [allI_no (k := 0) (by decide) h, Bool.and_false]; rfl
theorem goodF_many {n : Nat} {I : Nat → Item} {room : Int} (h : 32 < n) : goodF n I room = false := by unfold goodF mayI; rw [decide_eq_false (by omega)]; rfl
theorem goodF_room {n : Nat} {I : Nat → Item} {room : Int} (h : inB 0 4194304 room = false) : goodF n I room = false := by unfold goodF; rw [h, Bool.and_false]
set_option maxRecDepth 20000 in
set_option maxHeartbeats 4000000 in
theorem flexForms20_0 (c x d : Int) (M : Nat) (hi : (IntKind.u64.wrap c).tmod 5 = 0) (q : Int) (hq : bits .and .i64 x 1023 = q) (hqd : 1 + q = d) (d1 : 1 ≤ d) (d2 : d ≤ 1024) (hM : (32 + d).toNat = M) (hMp : 32 < M) (hM2 : M ≤ 1056) (w : World) :
    Calls Try.prog 5 #[.int .i64 c, .int .i64 x] w fun e w' => e = .returned (.bool true) ∧ Kept w w' := by
  have hmk := makeItems (32 + d) M (by omega) (by omega) hM
  have HB := Lib.hid (show goodF 1 (itemOf (zL2 [[-d, 0, 0, 0, 0, 0]])) 5 = false from goodF_one (itemB_no fun hp => by have h1 : (0 : Int) ≤ -d := hp.1.1; omega))
  have HR := Lib.hid (show goodF 0 (fun _ => ⟨0, 0, 0, 0, 0, 0⟩) (4194304 + d) = false from goodF_room (inB_false.2 (by omega)))
  replace hM := Lib.hid hM
  have hk : Kept w w := Kept.refl w
  go_enter Try.func5, Try.ntmps5
  go_wp2_with fail
  refine (awake20_any _).mono ?_
  rintro e w1 ⟨rfl, hn⟩
  replace hk := hk.trans hn
  clear hn
  go_wp2_with fail
  refine with_boxes6 ?_
  intro X hX a b c e m o
  have hsz := hk.size
  replace hk := hk.trans hX
  clear hX
  refine (flexible_no _ 1 _ 5 _ (itv_row (rv_lit a 6 1 (by decide) (intC (zL2 [[-d, 0, 0, 0, 0, 0]])) rfl)) (by decide) HB.out).mono ?_
  rintro e w1 ⟨rfl, hn⟩
  replace hk := hk.trans hn
  replace a := a.kept hn
  replace b := b.kept hn
  replace c := c.kept hn
  replace e := e.kept hn
  replace m := m.kept hn
  replace o := o.kept hn
  clear hn
  clear a
  clear b
  clear c
  clear e
  clear m
  clear o
  go_wp2_with fail
  refine (flexible_no _ 0 (fun _ => ⟨0, 0, 0, 0, 0, 0⟩) _ _ (.inl ⟨none, 0, rfl, rfl⟩) (by decide) HR.out).mono ?_
  rintro e w1 ⟨rfl, hn⟩
  replace hk := hk.trans hn
  clear hn
  go_wp2_with fail
  refine (flexible_is _ 0 (fun _ => ⟨0, 0, 0, 0, 0, 0⟩) _ _ (.inl ⟨none, 0, rfl, rfl⟩) (by decide) (by decide) (fun _ => 0) (fun i hi => by omega)).mono ?_
  rintro e w1 ⟨_, rfl, ⟨b9, c9, rfl, _, _, _, _⟩, hn⟩
  replace hk := hk.trans hn
  clear hn
  go_wp2_with fail
  refine (num_any _ _).mono ?_
  rintro e w1 ⟨rfl, rfl⟩
  go_wp2_with fail
  refine (num_any _ _).mono ?_
  rintro e w1 ⟨rfl, rfl⟩
  go_wp2_with fail
  refine (num_any _ _).mono ?_
  rintro e w1 ⟨rfl, rfl⟩
  go_wp2
  go_ret
  exact ⟨rfl, hk⟩
set_option maxRecDepth 20000 in
set_option maxHeartbeats 4000000 in
theorem flexForms20_1 (c x d : Int) (M : Nat) (hi : (IntKind.u64.wrap c).tmod 5 = 1) (q : Int) (hq : bits .and .i64 x 1023 = q) (hqd : 1 + q = d) (d1 : 1 ≤ d) (d2 : d ≤ 1024) (hM : (32 + d).toNat = M) (hMp : 32 < M) (hM2 : M ≤ 1056) (w : World) :
    Calls Try.prog 5 #[.int .i64 c, .int .i64 x] w fun e w' => e = .returned (.bool true) ∧ Kept w w' := by
  have hmk := makeItems (32 + d) M (by omega) (by omega) hM
  have HB := Lib.hid (show goodF 1 (itemOf (zL2 [[0, 4194304 + d, 0, 0, 0, 0]])) 5 = false from goodF_one (itemB_no fun hp => by have h1 : 4194304 + d ≤ 4194304 := hp.2.1.2; omega))
  have HR := Lib.hid (show goodF 0 (fun _ => ⟨0, 0, 0, 0, 0, 0⟩) (4194304 + d) = false from goodF_room (inB_false.2 (by omega)))
  replace hM := Lib.hid hM
  have hk : Kept w w := Kept.refl w
  go_enter Try.func5, Try.ntmps5
  go_wp2_with fail
  refine (awake20_any _).mono ?_
  rintro e w1 ⟨rfl, hn⟩
  replace hk := hk.trans hn
  clear hn
  go_wp2_with fail
  refine with_boxes6 ?_
  intro X hX a b c e m o
  have hsz := hk.size
  replace hk := hk.trans hX
  clear hX
  refine (flexible_no _ 1 _ 5 _ (itv_row (rv_lit b 6 1 (by decide) (intC (zL2 [[0, 4194304 + d, 0, 0, 0, 0]])) rfl)) (by decide) HB.out).mono ?_
  rintro e w1 ⟨rfl, hn⟩
  replace hk := hk.trans hn
  replace a := a.kept hn
  replace b := b.kept hn
  replace c := c.kept hn
  replace e := e.kept hn
  replace m := m.kept hn
  replace o := o.kept hn
  clear hn
  clear a
  clear b
  clear c
  clear e
  clear m
  clear o
  go_wp2_with fail
  refine (flexible_no _ 0 (fun _ => ⟨0, 0, 0, 0, 0, 0⟩) _ _ (.inl ⟨none, 0, rfl, rfl⟩) (by decide) HR.out).mono ?_
  rintro e w1 ⟨rfl, hn⟩
  replace hk := hk.trans hn
  clear hn
  go_wp2_with fail
  refine (flexible_is _ 0 (fun _ => ⟨0, 0, 0, 0, 0, 0⟩) _ _ (.inl ⟨none, 0, rfl, rfl⟩) (by decide) (by decide) (fun _ => 0) (fun i hi => by omega)).mono ?_
  rintro e w1 ⟨_, rfl, ⟨b9, c9, rfl, _, _, _, _⟩, hn⟩
  replace hk := hk.trans hn
  clear hn
  go_wp2_with fail
  refine (num_any _ _).mono ?_
  rintro e w1 ⟨rfl, rfl⟩
  go_wp2_with fail
  refine (num_any _ _).mono ?_
  rintro e w1 ⟨rfl, rfl⟩
  go_wp2_with fail
  refine (num_any _ _).mono ?_
  rintro e w1 ⟨rfl, rfl⟩
  go_wp2
  go_ret
  exact ⟨rfl, hk⟩
set_option maxRecDepth 20000 in
set_option maxHeartbeats 4000000 in
theorem flexForms20_2 (c x d : Int) (M : Nat) (hi : (IntKind.u64.wrap c).tmod 5 = 2) (q : Int) (hq : bits .and .i64 x 1023 = q) (hqd : 1 + q = d) (d1 : 1 ≤ d) (d2 : d ≤ 1024) (hM : (32 + d).toNat = M) (hMp : 32 < M) (hM2 : M ≤ 1056) (w : World) :
    Calls Try.prog 5 #[.int .i64 c, .int .i64 x] w fun e w' => e = .returned (.bool true) ∧ Kept w w' := by
  have hmk := makeItems (32 + d) M (by omega) (by omega) hM
  have HB := Lib.hid (show goodF 1 (itemOf (zL2 [[0, 0, 0, 0, 0, 4194304 + d]])) 5 = false from goodF_one (itemB_no fun hp => by have h1 : 4194304 + d ≤ 4194304 := hp.2.2.2.2.2.2; omega))
  have HR := Lib.hid (show goodF 0 (fun _ => ⟨0, 0, 0, 0, 0, 0⟩) (4194304 + d) = false from goodF_room (inB_false.2 (by omega)))
  replace hM := Lib.hid hM
  have hk : Kept w w := Kept.refl w
  go_enter Try.func5, Try.ntmps5
  go_wp2_with fail
  refine (awake20_any _).mono ?_
  rintro e w1 ⟨rfl, hn⟩
  replace hk := hk.trans hn
  clear hn
  go_wp2_with fail
  refine with_boxes6 ?_
  intro X hX a b c e m o
  have hsz := hk.size
  replace hk := hk.trans hX
  clear hX
  refine (flexible_no _ 1 _ 5 _ (itv_row (rv_lit c 6 1 (by decide) (intC (zL2 [[0, 0, 0, 0, 0, 4194304 + d]])) rfl)) (by decide) HB.out).mono ?_
  rintro e w1 ⟨rfl, hn⟩
  replace hk := hk.trans hn
  replace a := a.kept hn
  replace b := b.kept hn
  replace c := c.kept hn
  replace e := e.kept hn
  replace m := m.kept hn
  replace o := o.kept hn
  clear hn
  clear a
  clear b
  clear c
  clear e
  clear m
  clear o
  go_wp2_with fail
  refine (flexible_no _ 0 (fun _ => ⟨0, 0, 0, 0, 0, 0⟩) _ _ (.inl ⟨none, 0, rfl, rfl⟩) (by decide) HR.out).mono ?_
  rintro e w1 ⟨rfl, hn⟩
  replace hk := hk.trans hn
  clear hn
  go_wp2_with fail
  refine (flexible_is _ 0 (fun _ => ⟨0, 0, 0, 0, 0, 0⟩) _ _ (.inl ⟨none, 0, rfl, rfl⟩) (by decide) (by decide) (fun _ => 0) (fun i hi => by omega)).mono ?_
  rintro e w1 ⟨_, rfl, ⟨b9, c9, rfl, _, _, _, _⟩, hn⟩
  replace hk := hk.trans hn
  clear hn
  go_wp2_with fail
  refine (num_any _ _).mono ?_
  rintro e w1 ⟨rfl, rfl⟩
  go_wp2_with fail
  refine (num_any _ _).mono ?_
  rintro e w1 ⟨rfl, rfl⟩
  go_wp2_with fail
  refine (num_any _ _).mono ?_
  rintro e w1 ⟨rfl, rfl⟩
  go_wp2
  go_ret
  exact ⟨rfl, hk⟩
set_option maxRecDepth 20000 in
set_option maxHeartbeats 4000000 in
theorem flexForms20_3 (c x d : Int) (M : Nat) (hi : (IntKind.u64.wrap c).tmod 5 = 3) (q : Int) (hq : bits .and .i64 x 1023 = q) (hqd : 1 + q = d) (d1 : 1 ≤ d) (d2 : d ≤ 1024) (hM : (32 + d).toNat = M) (hMp : 32 < M) (hM2 : M ≤ 1056) (w : World) :
    Calls Try.prog 5 #[.int .i64 c, .int .i64 x] w fun e w' => e = .returned (.bool true) ∧ Kept w w' := by
  have hmk := makeItems (32 + d) M (by omega) (by omega) hM
  have HB := Lib.hid (show goodF 1 (itemOf (zL2 [[0, 0, 0, 0, 100 + d, 0]])) 5 = false from goodF_one (itemB_no fun hp => by have h1 : 100 + d ≤ 100 := hp.2.2.2.2.1.2; omega))
  have HR := Lib.hid (show goodF 0 (fun _ => ⟨0, 0, 0, 0, 0, 0⟩) (4194304 + d) = false from goodF_room (inB_false.2 (by omega)))
  replace hM := Lib.hid hM
  have hk : Kept w w := Kept.refl w
  go_enter Try.func5, Try.ntmps5
  go_wp2_with fail
  refine (awake20_any _).mono ?_
  rintro e w1 ⟨rfl, hn⟩
  replace hk := hk.trans hn
  clear hn
  go_wp2_with fail
  refine with_boxes6 ?_
  intro X hX a b c e m o
  have hsz := hk.size
  replace hk := hk.trans hX
  clear hX
  refine (flexible_no _ 1 _ 5 _ (itv_row (rv_lit e 6 1 (by decide) (intC (zL2 [[0, 0, 0, 0, 100 + d, 0]])) rfl)) (by decide) HB.out).mono ?_
  rintro e w1 ⟨rfl, hn⟩
  replace hk := hk.trans hn
  replace a := a.kept hn
  replace b := b.kept hn
  replace c := c.kept hn
  replace e := e.kept hn
  replace m := m.kept hn
  replace o := o.kept hn
  clear hn
  clear a
  clear b
  clear c
  clear e
  clear m
  clear o
  go_wp2_with fail
  refine (flexible_no _ 0 (fun _ => ⟨0, 0, 0, 0, 0, 0⟩) _ _ (.inl ⟨none, 0, rfl, rfl⟩) (by decide) HR.out).mono ?_
  rintro e w1 ⟨rfl, hn⟩
  replace hk := hk.trans hn
  clear hn
  go_wp2_with fail
  refine (flexible_is _ 0 (fun _ => ⟨0, 0, 0, 0, 0, 0⟩) _ _ (.inl ⟨none, 0, rfl, rfl⟩) (by decide) (by decide) (fun _ => 0) (fun i hi => by omega)).mono ?_
  rintro e w1 ⟨_, rfl, ⟨b9, c9, rfl, _, _, _, _⟩, hn⟩
  replace hk := hk.trans hn
  clear hn
  go_wp2_with fail
  refine (num_any _ _).mono ?_
  rintro e w1 ⟨rfl, rfl⟩
  go_wp2_with fail
  refine (num_any _ _).mono ?_
  rintro e w1 ⟨rfl, rfl⟩
  go_wp2_with fail
  refine (num_any _ _).mono ?_
  rintro e w1 ⟨rfl, rfl⟩
  go_wp2
  go_ret
  exact ⟨rfl, hk⟩
set_option maxRecDepth 20000 in
set_option maxHeartbeats 4000000 in
theorem flexForms20_4 (c x d : Int) (M : Nat) (hi : (IntKind.u64.wrap c).tmod 5 = 4) (q : Int) (hq : bits .and .i64 x 1023 = q) (hqd : 1 + q = d) (d1 : 1 ≤ d) (d2 : d ≤ 1024) (hM : (32 + d).toNat = M) (hMp : 32 < M) (hM2 : M ≤ 1056) (w : World) :
    Calls Try.prog 5 #[.int .i64 c, .int .i64 x] w fun e w' => e = .returned (.bool true) ∧ Kept w w' := by
  have hmk := makeItems (32 + d) M (by omega) (by omega) hM
  have HB := Lib.hid (show goodF M (itemOf fun _ _ => 0) 5 = false from goodF_many hMp)
  have HR := Lib.hid (show goodF 0 (fun _ => ⟨0, 0, 0, 0, 0, 0⟩) (4194304 + d) = false from goodF_room (inB_false.2 (by omega)))
  replace hM := Lib.hid hM
  have hk : Kept w w := Kept.refl w
  go_enter Try.func5, Try.ntmps5
  go_wp2_with fail
  refine (awake20_any _).mono ?_
  rintro e w1 ⟨rfl, hn⟩
  replace hk := hk.trans hn
  clear hn
  go_wp2_with fail
  refine with_boxes6 ?_
  intro X hX a b c e m o
  have hsz := hk.size
  replace hk := hk.trans hX
  clear hX
  refine (flexible_no _ M _ 5 _ (itv_row (madeItems m (by omega))) (by omega) HB.out).mono ?_
  rintro e w1 ⟨rfl, hn⟩
  replace hk := hk.trans hn
  replace a := a.kept hn
  replace b := b.kept hn
  replace c := c.kept hn
  replace e := e.kept hn
  replace m := m.kept hn
  replace o := o.kept hn
  clear hn
  clear a
  clear b
  clear c
  clear e
  clear m
  clear o
  go_wp2_with fail
  refine (flexible_no _ 0 (fun _ => ⟨0, 0, 0, 0, 0, 0⟩) _ _ (.inl ⟨none, 0, rfl, rfl⟩) (by decide) HR.out).mono ?_
  rintro e w1 ⟨rfl, hn⟩
  replace hk := hk.trans hn
  clear hn
  go_wp2_with fail
  refine (flexible_is _ 0 (fun _ => ⟨0, 0, 0, 0, 0, 0⟩) _ _ (.inl ⟨none, 0, rfl, rfl⟩) (by decide) (by decide) (fun _ => 0) (fun i hi => by omega)).mono ?_
  rintro e w1 ⟨_, rfl, ⟨b9, c9, rfl, _, _, _, _⟩, hn⟩
  replace hk := hk.trans hn
  clear hn
  go_wp2_with fail
  refine (num_any _ _).mono ?_
  rintro e w1 ⟨rfl, rfl⟩
  go_wp2_with fail
  refine (num_any _ _).mono ?_
  rintro e w1 ⟨rfl, rfl⟩
  go_wp2_with fail
  refine (num_any _ _).mono ?_
  rintro e w1 ⟨rfl, rfl⟩
  go_wp2
  go_ret
  exact ⟨rfl, hk⟩
theorem flexForms20_walk (c x : Int) (w : World) :
    Calls Try.prog 5 #[.int .i64 c, .int .i64 x] w fun e w' => e = .returned (.bool true) ∧ Kept w w' := by
  obtain ⟨i, hi, i0, i1⟩ := urest2 c 5 (by decide)
  obtain ⟨q, hq, q0, q1⟩ := masked x 10 1023 (by decide) (by decide)
  have hM : ∃ M : Nat, (32 + (1 + q)).toNat = M ∧ 32 < M ∧ M ≤ 1056 := ⟨_, rfl, by omega, by omega⟩
  obtain ⟨M, hM, m1, m2⟩ := hM
  rcases (by omega : i = 0 ∨ i = 1 ∨ i = 2 ∨ i = 3 ∨ i = 4) with rfl | rfl | rfl | rfl | rfl
  · exact flexForms20_0 c x (1 + q) M hi q hq rfl (by omega) (by omega) hM m1 m2 w
  · exact flexForms20_1 c x (1 + q) M hi q hq rfl (by omega) (by omega) hM m1 m2 w
  · exact flexForms20_2 c x (1 + q) M hi q hq rfl (by omega) (by omega) hM m1 m2 w
  · exact flexForms20_3 c x (1 + q) M hi q hq rfl (by omega) (by omega) hM m1 m2 w
  · exact flexForms20_4 c x (1 + q) M hi q hq rfl (by omega) (by omega) hM m1 m2 w
end Go.Proofs.Yticnfoppdgeioaa
