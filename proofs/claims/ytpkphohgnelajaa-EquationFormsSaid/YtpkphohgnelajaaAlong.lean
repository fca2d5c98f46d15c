/- Layer 14: what stands beside a size along the lines. -/
import Derived.Test.YtpkphohgnelajaaMinMax
import Derived.Test.YtpkphohgnelajaaHeld
import Derived.Deep.QuietTactic
import Derived.BigQuiet
namespace Go.Proofs.Ytpkphohgnelajaa
open Go.RowKit
set_option linter.unusedSimpArgs false
set_option linter.unusedVariables false
set_option maxRecDepth 20000

/-- a side's margin, as a number -/
def marS (m : Len) : Int := (usedS m.k m.v 0 0).1
theorem usedMargin0_any (s : Sty) (w : World) :
    Calls Try.prog 49 #[s.V, .int .i64 0] w fun e w' => e = .returned (.int .i64 (marS s.m0)) ∧ Kept w w' := by
  unfold Sty.V Sty.C
  have hk : Kept w w := Kept.refl w
  go_enter Try.func49, Try.ntmps49
  go_wp2_with fail
  refine with_boxes1 ?_
  intro X hX st
  have hsz := hk.size
  replace hk := hk.trans hX
  clear hX
  refine (usedLength_any s.m0.k s.m0.v 0 0 _).mono ?_
  rintro e w1 ⟨rfl, hn⟩
  replace hk := hk.trans hn
  replace st := st.kept hn
  clear hn
  go_wp2
  go_ret
  exact ⟨rfl, hk⟩
theorem usedMargin1_any (s : Sty) (w : World) :
    Calls Try.prog 49 #[s.V, .int .i64 1] w fun e w' => e = .returned (.int .i64 (marS s.m1)) ∧ Kept w w' := by
  unfold Sty.V Sty.C
  have hk : Kept w w := Kept.refl w
  go_enter Try.func49, Try.ntmps49
  go_wp2_with fail
  refine with_boxes1 ?_
  intro X hX st
  have hsz := hk.size
  replace hk := hk.trans hX
  clear hX
  refine (usedLength_any s.m1.k s.m1.v 0 0 _).mono ?_
  rintro e w1 ⟨rfl, hn⟩
  replace hk := hk.trans hn
  replace st := st.kept hn
  clear hn
  go_wp2
  go_ret
  exact ⟨rfl, hk⟩
theorem usedPaddings_any (s : Sty) (w : World) (h0 : 0 ≤ s.p0.v) (h1 : s.p0.v ≤ 8191) (h2 : 0 ≤ s.p1.v) (h3 : s.p1.v ≤ 8191) :
    Calls Try.prog 55 #[s.V, .int .i64 0, .int .i64 1] w fun e w' => e = .returned (.int .i64 (s.p0.v + s.p1.v)) ∧ Kept w w' := by
  unfold Sty.V Sty.C
  have hk : Kept w w := Kept.refl w
  go_enter Try.func55, Try.ntmps55
  go_wp2_with fail
  refine code_boxes1 ?_
  intro X hX st
  have hsz := hk.size
  replace hk := hk.trans hX
  clear hX
  have c17 := st.at 17 _ rfl
  have c19 := st.at 19 _ rfl
  go_quiet (fail)
  go_wp2
  go_ret
  exact ⟨rfl, hk.drewN _⟩

/-- what stands beside a size -/
def alongS (s : Sty) : Int := s.p0.v + s.p1.v + marS s.m0 + marS s.m1
set_option maxHeartbeats 4000000 in
theorem usedAlong_any (s : Sty) (w : World) (h0 : 0 ≤ s.p0.v) (h1 : s.p0.v ≤ 8191) (h2 : 0 ≤ s.p1.v) (h3 : s.p1.v ≤ 8191) (g0 : -8191 ≤ marS s.m0) (g1 : marS s.m0 ≤ 8191) (g2 : -8191 ≤ marS s.m1) (g3 : marS s.m1 ≤ 8191) :
    Calls Try.prog 48 #[s.V] w fun e w' => e = .returned (.int .i64 (alongS s)) ∧ Kept w w' := by
  have w1 : IntKind.i64.wrap (s.p0.v + s.p1.v + marS s.m0) = s.p0.v + s.p1.v + marS s.m0 := by rw [IntKind.wrap_i64]; omega
  have w2 : IntKind.i64.wrap (s.p0.v + s.p1.v + marS s.m0 + marS s.m1) = alongS s := by rw [IntKind.wrap_i64]; unfold alongS; omega
  have hk : Kept w w := Kept.refl w
  go_enter Try.func48, Try.ntmps48
  go_wp2_with fail
  refine code_boxes1 ?_
  intro X hX st
  have hsz := hk.size
  replace hk := hk.trans hX
  clear hX
  refine wp_region_held_drew (S := fun W => Kept w W ∧ Own W w.heap.size 26 s.C) (by kernel_rfl) (⟨hk.drew, st.drew⟩) (fun hS => ?_)
  clear hk st
  refine' wpAnyH_take (i := 0) rfl (by kernel_rfl) (by kernel_rfl) (by kernel_rfl) (fun _ _ _ h => h) (yieldsIf_load_own (by rfl) 26 _ rfl _ rfl (fun W h => h.2) _ Try.underlying26 rfl (by kernel_rfl)) (by assumption) ?_
  simp only [Act.put, List.getElem_toArray, List.getElem_cons_zero, List.getElem_cons_succ, List.setIfInBounds_toArray, List.set_cons_zero, List.set_cons_succ]
  refine' wpAnyH_take (i := 2) rfl (by kernel_rfl) (by kernel_rfl) (by kernel_rfl) (fun _ _ _ h => h) (yieldsIf_load_own (by rfl) 26 _ rfl _ rfl (fun W h => h.2) _ Try.underlying26 rfl (by kernel_rfl)) (by assumption) ?_
  simp only [Act.put, List.getElem_toArray, List.getElem_cons_zero, List.getElem_cons_succ, List.setIfInBounds_toArray, List.set_cons_zero, List.set_cons_succ]
  refine' wpAnyH_take (i := 5) rfl (by kernel_rfl) (by kernel_rfl) (by kernel_rfl) (fun _ _ _ h => h) (yieldsIf_load_own (by rfl) 26 _ rfl _ rfl (fun W h => h.2) _ Try.underlying26 rfl (by kernel_rfl)) (by assumption) ?_
  simp only [Act.put, List.getElem_toArray, List.getElem_cons_zero, List.getElem_cons_succ, List.setIfInBounds_toArray, List.set_cons_zero, List.set_cons_succ]
  refine wpAnyH_ready (rs := [1]) (by kernel_rfl) (by simp) ?_
  refine (AllReadyH.cons rfl (fun K hK => ?_) AllReadyH.nil)
  go_simp
  refine (usedPaddings_any s _ h0 h1 h2 h3).mono ?_
  rintro e w3 ⟨rfl, hn⟩
  refine hK.out _ _ (⟨hS.1.trans hn, hS.2.kept hn⟩) (fun hS2 => ?_)
  clear hS hK
  have hS := hS2
  clear hS2
  try simp only [Act.put, List.getElem_toArray, List.getElem_cons_zero, List.getElem_cons_succ, List.setIfInBounds_toArray, List.set_cons_zero, List.set_cons_succ]
  refine wpAnyH_ready (rs := [3]) (by kernel_rfl) (by simp) ?_
  refine (AllReadyH.cons rfl (fun K hK => ?_) AllReadyH.nil)
  go_simp
  refine (usedMargin0_any s _).mono ?_
  rintro e w3 ⟨rfl, hn⟩
  refine hK.out _ _ (⟨hS.1.trans hn, hS.2.kept hn⟩) (fun hS2 => ?_)
  clear hS hK
  have hS := hS2
  clear hS2
  try simp only [Act.put, List.getElem_toArray, List.getElem_cons_zero, List.getElem_cons_succ, List.setIfInBounds_toArray, List.set_cons_zero, List.set_cons_succ]
  refine wpAnyH_take (i := 4) (v := ?_) rfl (by kernel_rfl) (by kernel_rfl) (by kernel_rfl) (fun _ _ _ h => h) (Or.inl ⟨by rfl, ?_⟩) (by assumption) ?_
  rotate_left
  · intro W hSW; (try dsimp only at hSW); go_simp; (first | done | with_reducible rfl)
  simp only [Act.put, List.getElem_toArray, List.getElem_cons_zero, List.getElem_cons_succ, List.setIfInBounds_toArray, List.set_cons_zero, List.set_cons_succ]
  refine wpAnyH_ready (rs := [6]) (by kernel_rfl) (by simp) ?_
  refine (AllReadyH.cons rfl (fun K hK => ?_) AllReadyH.nil)
  go_simp
  refine (usedMargin1_any s _).mono ?_
  rintro e w3 ⟨rfl, hn⟩
  refine hK.out _ _ (⟨hS.1.trans hn, hS.2.kept hn⟩) (fun hS2 => ?_)
  clear hS hK
  have hS := hS2
  clear hS2
  try simp only [Act.put, List.getElem_toArray, List.getElem_cons_zero, List.getElem_cons_succ, List.setIfInBounds_toArray, List.set_cons_zero, List.set_cons_succ]
  refine wpAnyH_take (i := 7) (v := ?_) rfl (by kernel_rfl) (by kernel_rfl) (by kernel_rfl) (fun _ _ _ h => h) (Or.inl ⟨by rfl, ?_⟩) (by assumption) ?_
  rotate_left
  · intro W hSW; (try dsimp only at hSW); go_simp; (first | done | with_reducible rfl)
  simp only [Act.put, List.getElem_toArray, List.getElem_cons_zero, List.getElem_cons_succ, List.setIfInBounds_toArray, List.set_cons_zero, List.set_cons_succ]
  refine wpAnyH_take (i := 8) (v := ?_) rfl (by kernel_rfl) (by kernel_rfl) (by kernel_rfl) (fun _ _ _ h => h) (Or.inl ⟨by rfl, ?_⟩) (by assumption) ?_
  rotate_left
  · intro W hSW; (try dsimp only at hSW); go_simp; (first | done | with_reducible rfl)
  simp only [Act.put, List.getElem_toArray, List.getElem_cons_zero, List.getElem_cons_succ, List.setIfInBounds_toArray, List.set_cons_zero, List.set_cons_succ]
  refine wpAnyH_done (by kernel_rfl) ?_ _
  go_wp2
  go_ret
  exact ⟨rfl, hS.1⟩

end Go.Proofs.Ytpkphohgnelajaa
