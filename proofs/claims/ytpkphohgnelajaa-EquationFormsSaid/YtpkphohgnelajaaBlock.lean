/- Layer 14: a block's numbers along the lines. -/
import Derived.Test.YtpkphohgnelajaaAlong
namespace Go.Proofs.Ytpkphohgnelajaa
open Go.RowKit
set_option linter.unusedSimpArgs false
set_option linter.unusedVariables false
set_option maxRecDepth 20000
/-- in a drawn region: a block is made -/
theorem held_alloc {w W : World} {t u v : TypeId} {cs ds es : Array Value} {m n : Nat} {K : Act → World → Prop} {G : Act → World → Prop} {a : Act}
    (hK : ∀ (a : Act) (X : World), (Kept w X ∧ Own X m t cs ∧ Own X n u ds) → ((Kept w X ∧ Own X m t cs ∧ Own X n u ds) → G a X) → K a X) (hS : Kept w W ∧ Own W m t cs ∧ Own W n u ds)
    (h : ∀ X, X = W.alloc (.cells es v) → (Kept w X ∧ Own X m t cs ∧ Own X n u ds) → Own X W.heap.size v es → G a X) : K a (W.alloc (.cells es v)) :=
  hK a _ ⟨hS.1.alloc _, hS.2.1.alloc _, hS.2.2.alloc _⟩ fun h2 => h _ rfl h2 (Own.new _ _ _)
/-- in a drawn region: a block of three cells is written -/
theorem held_store3 {w W : World} {t u v : TypeId} {cs ds es : Array Value} {m n k : Nat} {x y z : Value} {K : Act → World → Prop} {G : Act → World → Prop} {a : Act}
    (hK : ∀ (a : Act) (X : World), (Kept w X ∧ Own X m t cs ∧ Own X n u ds) → ((Kept w X ∧ Own X m t cs ∧ Own X n u ds) → G a X) → K a X) (hS : Kept w W ∧ Own W m t cs ∧ Own W n u ds)
    (sp : Own W k v es) (hk : w.heap.size ≤ k) (hm : m ≠ k) (hn : n ≠ k)
    (h : ∀ X, (Kept w X ∧ Own X m t cs ∧ Own X n u ds) → Own X k v (((es.setIfInBounds 0 x).setIfInBounds 1 y).setIfInBounds 2 z) → G a X) :
    K a (((W.setCell ⟨k, 0, none⟩ x).setCell ⟨k, 1, none⟩ y).setCell ⟨k, 2, none⟩ z) :=
  hK a _ ⟨((hS.1.set hk _).set hk _).set hk _, ((hS.2.1.other hm _).other hm _).other hm _, ((hS.2.2.other hn _).other hn _).other hn _⟩ fun h2 => h _ h2 (((sp.set 0 x).set 1 y).set 2 z)
theorem ret_span {a b c d e f : Int} (h : a = d) (g : b = e) (i : c = f) : Ending.returned (.agg #[.int .i64 a, .int .i64 b, .int .i64 c]) = .returned (.agg #[.int .i64 d, .int .i64 e, .int .i64 f]) := by rw [h, g, i]
theorem usedAuto_any (k v : Int) (w : World) :
    Calls Try.prog 50 #[lenV k v] w fun e w' => e = .returned (.bool (k == 0)) ∧ Kept w w' := by
  cases h : (k == 0)
  all_goals
    have hk : Kept w w := Kept.refl w
    go_enter Try.func50, Try.ntmps50
    go_wp2
    go_ret
    exact ⟨rfl, (by first | ((repeat (first | with_reducible exact hk | with_reducible refine Kept.alloc ?_ _ | with_reducible refine Kept.drew ?_ | with_reducible refine Kept.drewN ?_ _ | with_reducible refine Kept.set ?_ (by first | (simp; done) | (simp; omega) | omega) _)); done) | exact hk | exact (hk.alloc _) | exact ((hk.alloc _).alloc _) | exact (((hk.alloc _).alloc _).alloc _) | exact ((((hk.alloc _).alloc _).alloc _).alloc _) | exact (((((hk.alloc _).alloc _).alloc _).alloc _).alloc _) | exact ((((((hk.alloc _).alloc _).alloc _).alloc _).alloc _).alloc _) | (repeat (first | exact hk | refine Kept.alloc ?_ _ | refine Kept.drew ?_ | refine Kept.drewN ?_ _ | refine Kept.set ?_ (by first | (simp; done) | (simp; omega) | omega) _)))⟩
/-- a block's size, its numbers -/
def sizeS (s : Sty) (room : Int) : Int := inlineS s room (usedS s.inl.k s.inl.v room (room - alongS s)).1
def leftS (s : Sty) (room : Int) : Int := room - sizeS s room - alongS s
def spanS (s : Sty) (room : Int) : Int × Int × Int :=
  if s.m0.k = 0 ∧ s.m1.k = 0 then (max 0 (leftS s room) / 2, sizeS s room, leftS s room - max 0 (leftS s room) / 2)
  else if s.m0.k = 0 then (leftS s room, sizeS s room, marS s.m1)
  else (marS s.m0, sizeS s room, marS s.m1 + leftS s room)
theorem mar_bd {m p : Len} (h : okM m p = true) : marS m = m.v ∧ -8191 ≤ marS m ∧ marS m ≤ 8191 ∧ 0 ≤ p.v ∧ p.v ≤ 8191 ∧ (m.k = 0 → m.v = 0) := by
  obtain ⟨hl, h2, hp, hq, hv⟩ := okM_parts h
  rw [hp] at hq
  have hq := len_px hq
  have e : marS m = m.v ∧ -8191 ≤ m.v ∧ m.v ≤ 8191 ∧ (m.k = 0 → m.v = 0) := by
    unfold marS
    rcases lenB_kind hl with hk | hk | hk
    · rw [hk] at hl ⊢
      have := len_auto hl
      rw [used_auto hl (by decide) (by decide)]
      exact ⟨by show (0 : Int) = _; omega, by omega, by omega, fun _ => this⟩
    · rw [hk] at hl ⊢
      have := len_px hl
      rw [used_px hl (by decide) (by decide)]
      exact ⟨rfl, by omega, by omega, fun h => by omega⟩
    · exact absurd hk h2
  omega
theorem along_bd {s : Sty} (h : mayS s = true) : (0 ≤ s.p0.v ∧ s.p0.v ≤ 8191 ∧ 0 ≤ s.p1.v ∧ s.p1.v ≤ 8191) ∧ (-8191 ≤ marS s.m0 ∧ marS s.m0 ≤ 8191 ∧ -8191 ≤ marS s.m1 ∧ marS s.m1 ≤ 8191) ∧ -16382 ≤ alongS s ∧ alongS s ≤ 32764 := by
  obtain ⟨_, ⟨b0, b1, _, _⟩, _, _⟩ := may_parts h
  obtain ⟨_, a1, a2, a3, a4, _⟩ := mar_bd b0
  obtain ⟨_, c1, c2, c3, c4, _⟩ := mar_bd b1
  unfold alongS
  omega
theorem size_bd {s : Sty} (h : mayS s = true) {r : Int} (r0 : 0 ≤ r) (r1 : r ≤ 4194304) : 0 ≤ sizeS s r ∧ sizeS s r ≤ 4210686 := by
  obtain ⟨⟨a, _, _, _, _⟩, _, _, _⟩ := may_parts h
  obtain ⟨_, _, l0, l1⟩ := along_bd h
  obtain ⟨y, hy, h1⟩ := used_bd (a := r - alongS s) a r0 r1 (mayB_true.2 (by omega))
  obtain ⟨m0, m1, _⟩ := min_bd h r0 r1
  have e : sizeS s r = max 0 (max (minS s r) (min y (maxS s r))) := by unfold sizeS; rw [hy]; rfl
  omega

set_option maxHeartbeats 16000000 in
theorem usedBlock_any (s : Sty) (room : Int) (w : World) (hm : mayS s = true) (r0 : 0 ≤ room) (r1 : room ≤ 4194304) :
    Calls Try.prog 38 #[s.V, .int .i64 room] w fun e w' => e = .returned (.agg #[.int .i64 (spanS s room).1, .int .i64 (spanS s room).2.1, .int .i64 (spanS s room).2.2]) ∧ Kept w w' := by
  obtain ⟨⟨h0, h1, h2, h3⟩, ⟨g0, g1, g2, g3⟩, l0, l1⟩ := along_bd hm
  obtain ⟨z0, z1⟩ := size_bd hm r0 r1
  clear hm
  have f1 : leftS s room = room - sizeS s room - alongS s := rfl
  have F1 := Lib.hid f1
  clear f1
  have f2 : inlineS s room (usedS s.inl.k s.inl.v room (room - alongS s)).1 = sizeS s room := rfl
  have hw1 : IntKind.i64.wrap (room - alongS s) = room - alongS s := by rw [IntKind.wrap_i64]; omega
  have U : usedS s.inl.k s.inl.v room (room - alongS s) = usedS s.inl.k s.inl.v room (room - alongS s) := rfl
  clear U
  have hk : Kept w w := Kept.refl w
  go_enter Try.func38, Try.ntmps38
  go_wp2_with fail
  refine code_boxes2 ?_
  intro X hX st r
  have hsz := hk.size
  replace hk := hk.trans hX
  clear hX
  refine wp_region_held_drew (S := fun W => Kept w W ∧ Own W w.heap.size 26 s.C ∧ Own W (w.heap.size + 1) 43 #[.int .i64 0, .int .i64 0, .int .i64 0]) (by kernel_rfl) (⟨hk.drew, st.drew, r.drew⟩) (fun hS => ?_)
  clear hk st r
  refine' wpAnyH_take (i := 0) rfl (by kernel_rfl) (by kernel_rfl) (by kernel_rfl) (fun _ _ _ h => h) (yieldsIf_load_own (by rfl) 26 _ rfl _ rfl (fun W h => h.2.1) _ Try.underlying26 rfl (by kernel_rfl)) (by assumption) ?_
  simp only [Act.put, List.getElem_toArray, List.getElem_cons_zero, List.getElem_cons_succ, List.setIfInBounds_toArray, List.set_cons_zero, List.set_cons_succ]
  refine' wpAnyH_take (i := 6) rfl (by kernel_rfl) (by kernel_rfl) (by kernel_rfl) (fun _ _ _ h => h) (yieldsIf_load_own (by rfl) 26 _ rfl _ rfl (fun W h => h.2.1) _ Try.underlying26 rfl (by kernel_rfl)) (by assumption) ?_
  simp only [Act.put, List.getElem_toArray, List.getElem_cons_zero, List.getElem_cons_succ, List.setIfInBounds_toArray, List.set_cons_zero, List.set_cons_succ]
  refine wpAnyH_take (i := 1) (v := ?_) rfl (by kernel_rfl) (by kernel_rfl) (by kernel_rfl) (fun _ _ _ h => h) (Or.inl ⟨by rfl, ?_⟩) (by assumption) ?_
  rotate_left
  · intro W hSW; (try dsimp only at hSW); go_simp; (first | done | with_reducible rfl)
  simp only [Act.put, List.getElem_toArray, List.getElem_cons_zero, List.getElem_cons_succ, List.setIfInBounds_toArray, List.set_cons_zero, List.set_cons_succ]
  refine wpAnyH_take (i := 2) (v := ?_) rfl (by kernel_rfl) (by kernel_rfl) (by kernel_rfl) (fun _ _ _ h => h) (Or.inl ⟨by rfl, ?_⟩) (by assumption) ?_
  rotate_left
  · intro W hSW; (try dsimp only at hSW); go_simp; (first | done | with_reducible rfl)
  simp only [Act.put, List.getElem_toArray, List.getElem_cons_zero, List.getElem_cons_succ, List.setIfInBounds_toArray, List.set_cons_zero, List.set_cons_succ]
  refine wpAnyH_take (i := 3) (v := ?_) rfl (by kernel_rfl) (by kernel_rfl) (by kernel_rfl) (fun _ _ _ h => h) (Or.inl ⟨by rfl, ?_⟩) (by assumption) ?_
  rotate_left
  · intro W hSW; (try dsimp only at hSW); have c0 := hSW.2.1.at 0 _ rfl; have c1 := hSW.2.1.at 1 _ rfl; go_simp; (first | done | with_reducible rfl)
  simp only [Act.put, List.getElem_toArray, List.getElem_cons_zero, List.getElem_cons_succ, List.setIfInBounds_toArray, List.set_cons_zero, List.set_cons_succ]
  refine wpAnyH_take (i := 4) (v := ?_) rfl (by kernel_rfl) (by kernel_rfl) (by kernel_rfl) (fun _ _ _ h => h) (Or.inl ⟨by rfl, ?_⟩) (by assumption) ?_
  rotate_left
  · intro W hSW; (try dsimp only at hSW); go_simp; (first | done | with_reducible rfl)
  simp only [Act.put, List.getElem_toArray, List.getElem_cons_zero, List.getElem_cons_succ, List.setIfInBounds_toArray, List.set_cons_zero, List.set_cons_succ]
  refine wpAnyH_take (i := 5) (v := ?_) rfl (by kernel_rfl) (by kernel_rfl) (by kernel_rfl) (fun _ _ _ h => h) (Or.inl ⟨by rfl, ?_⟩) (by assumption) ?_
  rotate_left
  · intro W hSW; (try dsimp only at hSW); go_simp; (first | done | with_reducible rfl)
  simp only [Act.put, List.getElem_toArray, List.getElem_cons_zero, List.getElem_cons_succ, List.setIfInBounds_toArray, List.set_cons_zero, List.set_cons_succ]
  refine wpAnyH_ready (rs := [7]) (by kernel_rfl) (by simp) ?_
  refine (AllReadyH.cons rfl (fun K hK => ?_) AllReadyH.nil)
  go_simp
  refine (usedAlong_any s _ h0 h1 h2 h3 g0 g1 g2 g3).mono ?_
  rintro e w3 ⟨rfl, hn⟩
  refine hK.out _ _ (⟨hS.1.trans hn, hS.2.1.kept hn, hS.2.2.kept hn⟩) (fun hS2 => ?_)
  clear hS hK
  have hS := hS2
  clear hS2
  try simp only [Act.put, List.getElem_toArray, List.getElem_cons_zero, List.getElem_cons_succ, List.setIfInBounds_toArray, List.set_cons_zero, List.set_cons_succ]
  refine wpAnyH_take (i := 8) (v := ?_) rfl (by kernel_rfl) (by kernel_rfl) (by kernel_rfl) (fun _ _ _ h => h) (Or.inl ⟨by rfl, ?_⟩) (by assumption) ?_
  rotate_left
  · intro W hSW; (try dsimp only at hSW); go_simp; (first | done | with_reducible rfl)
  simp only [Act.put, List.getElem_toArray, List.getElem_cons_zero, List.getElem_cons_succ, List.setIfInBounds_toArray, List.set_cons_zero, List.set_cons_succ]
  refine wpAnyH_ready (rs := [9]) (by kernel_rfl) (by simp) ?_
  refine (AllReadyH.cons rfl (fun K hK => ?_) AllReadyH.nil)
  go_simp
  refine (usedLength_any s.inl.k s.inl.v room (room - alongS s) _).mono ?_
  rintro e w3 ⟨rfl, hn⟩
  refine hK.out _ _ (⟨hS.1.trans hn, hS.2.1.kept hn, hS.2.2.kept hn⟩) (fun hS2 => ?_)
  clear hS hK
  have hS := hS2
  clear hS2
  try simp only [Act.put, List.getElem_toArray, List.getElem_cons_zero, List.getElem_cons_succ, List.setIfInBounds_toArray, List.set_cons_zero, List.set_cons_succ]
  refine wpAnyH_ready (rs := [10]) (by kernel_rfl) (by simp) ?_
  refine (AllReadyH.cons rfl (fun K hK => ?_) AllReadyH.nil)
  go_simp
  refine (usedInline_any s room _ _).mono ?_
  rintro e w3 ⟨rfl, hn⟩
  refine hK.out _ _ (⟨hS.1.trans hn, hS.2.1.kept hn, hS.2.2.kept hn⟩) (fun hS2 => ?_)
  clear hS hK
  have hS := hS2
  clear hS2
  try simp only [Act.put, List.getElem_toArray, List.getElem_cons_zero, List.getElem_cons_succ, List.setIfInBounds_toArray, List.set_cons_zero, List.set_cons_succ]
  refine wpAnyH_take (i := 11) (v := ?_) rfl (by kernel_rfl) (by kernel_rfl) (by kernel_rfl) (fun _ _ _ h => h) (Or.inl ⟨by rfl, ?_⟩) (by assumption) ?_
  rotate_left
  · intro W hSW; (try dsimp only at hSW); go_simp; (first | done | with_reducible rfl)
  simp only [Act.put, List.getElem_toArray, List.getElem_cons_zero, List.getElem_cons_succ, List.setIfInBounds_toArray, List.set_cons_zero, List.set_cons_succ]
  refine wpAnyH_done (by kernel_rfl) ?_ _
  clear hw1 f2
  obtain ⟨hk, st, r⟩ := hS
  go_wp2_with (refine here_load 26 _ rfl ?_; refine wpList_load_own rfl 26 _ rfl _ rfl st _ Try.underlying26 rfl (by kernel_rfl) ?_)
  go_wp2_with fail
  refine (usedAlong_any s _ h0 h1 h2 h3 g0 g1 g2 g3).mono ?_
  rintro e w1 ⟨rfl, hn⟩
  replace hk := hk.trans hn
  replace st := st.kept hn
  replace r := r.kept hn
  clear hn
  clear h0 h1 h2 h3
  go_wp2_with fail
  refine wp_region_held_drew (S := fun W => Kept w W ∧ Own W w.heap.size 26 s.C ∧ Own W (w.heap.size + 1) 43 #[.int .i64 0, .int .i64 0, .int .i64 0]) (by kernel_rfl) (⟨hk.drew, st.drew, r.drew⟩) (fun hS => ?_)
  clear hk st r
  refine' wpAnyH_take (i := 0) rfl (by kernel_rfl) (by kernel_rfl) (by kernel_rfl) (fun _ _ _ h => h) (yieldsIf_load_own (by rfl) 26 _ rfl _ rfl (fun W h => h.2.1) _ Try.underlying26 rfl (by kernel_rfl)) (by assumption) ?_
  simp only [Act.put, List.getElem_toArray, List.getElem_cons_zero, List.getElem_cons_succ, List.setIfInBounds_toArray, List.set_cons_zero, List.set_cons_succ]
  refine' wpAnyH_take (i := 3) rfl (by kernel_rfl) (by kernel_rfl) (by kernel_rfl) (fun _ _ _ h => h) (yieldsIf_load_own (by rfl) 26 _ rfl _ rfl (fun W h => h.2.1) _ Try.underlying26 rfl (by kernel_rfl)) (by assumption) ?_
  simp only [Act.put, List.getElem_toArray, List.getElem_cons_zero, List.getElem_cons_succ, List.setIfInBounds_toArray, List.set_cons_zero, List.set_cons_succ]
  refine wpAnyH_take (i := 2) (v := ?_) rfl (by kernel_rfl) (by kernel_rfl) (by kernel_rfl) (fun _ _ _ h => h) (Or.inl ⟨by rfl, ?_⟩) (by assumption) ?_
  rotate_left
  · intro W hSW; (try dsimp only at hSW); go_simp; (first | done | with_reducible rfl)
  simp only [Act.put, List.getElem_toArray, List.getElem_cons_zero, List.getElem_cons_succ, List.setIfInBounds_toArray, List.set_cons_zero, List.set_cons_succ]

  refine wpAnyH_ready (rs := [1, 6]) (by kernel_rfl) (by simp) ?_
  refine (AllReadyH.cons rfl (fun K hK => ?_) (AllReadyH.cons rfl (fun K hK => ?_) AllReadyH.nil))
  · skip
    go_simp
    refine (usedMargin0_any s _).mono ?_
    rintro e w3 ⟨rfl, hn⟩
    refine hK.out _ _ (⟨hS.1.trans hn, hS.2.1.kept hn, hS.2.2.kept hn⟩) (fun hS2 => ?_)
    clear hS hK
    have hS := hS2
    clear hS2
    try simp only [Act.put, List.getElem_toArray, List.getElem_cons_zero, List.getElem_cons_succ, List.setIfInBounds_toArray, List.set_cons_zero, List.set_cons_succ]
    refine wpAnyH_ready (rs := [4, 6]) (by kernel_rfl) (by simp) ?_
    refine (AllReadyH.cons rfl (fun K hK => ?_) (AllReadyH.cons rfl (fun K hK => ?_) AllReadyH.nil))
    · skip
      go_simp
      refine (usedMargin1_any s _).mono ?_
      rintro e w3 ⟨rfl, hn⟩
      refine hK.out _ _ (⟨hS.1.trans hn, hS.2.1.kept hn, hS.2.2.kept hn⟩) (fun hS2 => ?_)
      clear hS hK
      have hS := hS2
      clear hS2
      try simp only [Act.put, List.getElem_toArray, List.getElem_cons_zero, List.getElem_cons_succ, List.setIfInBounds_toArray, List.set_cons_zero, List.set_cons_succ]
      refine wpAnyH_take (i := 5) (v := ?_) rfl (by kernel_rfl) (by kernel_rfl) (by kernel_rfl) (fun _ _ _ h => h) (Or.inl ⟨by rfl, ?_⟩) (by assumption) ?_
      rotate_left
      · intro W hSW; (try dsimp only at hSW); go_simp; (first | done | with_reducible rfl)
      simp only [Act.put, List.getElem_toArray, List.getElem_cons_zero, List.getElem_cons_succ, List.setIfInBounds_toArray, List.set_cons_zero, List.set_cons_succ]
      refine wpAnyH_ready (rs := [6]) (by kernel_rfl) (by simp) ?_
      refine (AllReadyH.cons rfl (fun K hK => ?_) AllReadyH.nil)
      go_simp
      have nl := hS.2.2.lt
      refine held_alloc hK.out hS ?_
      clear hS hK
      intro X eX hS sp
      try dsimp only [World.drew] at sp nl
      clear eX
      try simp only [Act.put, List.getElem_toArray, List.getElem_cons_zero, List.getElem_cons_succ, List.setIfInBounds_toArray, List.set_cons_zero, List.set_cons_succ]
      refine wpAnyH_ready (rs := [7]) (by kernel_rfl) (by simp) ?_
      refine (AllReadyH.cons rfl (fun K hK => ?_) AllReadyH.nil)
      have s0 := sp.at 0 _ rfl
      have s1 := sp.at 1 _ rfl
      have s2 := sp.at 2 _ rfl
      have q0 := sp.free 0
      have q1 := sp.free 1
      have q2 := sp.free 2
      go_simp
      refine held_store3 hK.out hS sp (by omega) (by omega) (by omega) ?_
      clear hS hK sp s0 s1 s2 q0 q1 q2
      intro X hS sp
      replace sp := sp.is (ds := #[.int .i64 (marS s.m0), .int .i64 (sizeS s room), .int .i64 (marS s.m1)]) rfl
      try simp only [Act.put, List.getElem_toArray, List.getElem_cons_zero, List.getElem_cons_succ, List.setIfInBounds_toArray, List.set_cons_zero, List.set_cons_succ]
      refine wpAnyH_done (by kernel_rfl) ?_ _
      go_wp2_with fail
      refine wp_region_held_drew (S := fun W => Kept w W ∧ Own W w.heap.size 26 s.C ∧ Own W (w.heap.size + 1) 43 #[.int .i64 0, .int .i64 0, .int .i64 0] ∧ Own W _ 43 #[.int .i64 (marS s.m0), .int .i64 (sizeS s room), .int .i64 (marS s.m1)]) (by kernel_rfl) (⟨hS.1.drew, hS.2.1.drew, hS.2.2.drew, sp.drew⟩) (fun hS => ?_)
      clear sp
      refine wpAnyH_take (i := 0) (v := ?_) rfl (by kernel_rfl) (by kernel_rfl) (by kernel_rfl) (fun _ _ _ h => h) (Or.inl ⟨by rfl, ?_⟩) (by assumption) ?_
      rotate_left
      · intro W hSW; (try dsimp only at hSW); go_simp; (first | done | with_reducible rfl)
      simp only [Act.put, List.getElem_toArray, List.getElem_cons_zero, List.getElem_cons_succ, List.setIfInBounds_toArray, List.set_cons_zero, List.set_cons_succ]
      refine wpAnyH_take (i := 1) (v := ?_) rfl (by kernel_rfl) (by kernel_rfl) (by kernel_rfl) (fun _ _ _ h => h) (Or.inl ⟨by rfl, ?_⟩) (by assumption) ?_
      rotate_left
      · intro W hSW; (try dsimp only at hSW); go_simp; (first | done | with_reducible rfl)
      simp only [Act.put, List.getElem_toArray, List.getElem_cons_zero, List.getElem_cons_succ, List.setIfInBounds_toArray, List.set_cons_zero, List.set_cons_succ]
      refine wpAnyH_take (i := 2) (v := ?_) rfl (by kernel_rfl) (by kernel_rfl) (by kernel_rfl) (fun _ _ _ h => h) (Or.inl ⟨by rfl, ?_⟩) (by assumption) ?_
      rotate_left
      · intro W hSW; (try dsimp only at hSW); have c8 := hSW.2.1.at 8 _ rfl; have c9 := hSW.2.1.at 9 _ rfl; go_simp; (first | done | with_reducible rfl)
      simp only [Act.put, List.getElem_toArray, List.getElem_cons_zero, List.getElem_cons_succ, List.setIfInBounds_toArray, List.set_cons_zero, List.set_cons_succ]
      refine wpAnyH_take (i := 4) (v := ?_) rfl (by kernel_rfl) (by kernel_rfl) (by kernel_rfl) (fun _ _ _ h => h) (Or.inl ⟨by rfl, ?_⟩) (by assumption) ?_
      rotate_left
      · intro W hSW; (try dsimp only at hSW); go_simp; (first | done | with_reducible rfl)
      simp only [Act.put, List.getElem_toArray, List.getElem_cons_zero, List.getElem_cons_succ, List.setIfInBounds_toArray, List.set_cons_zero, List.set_cons_succ]
      refine wpAnyH_take (i := 5) (v := ?_) rfl (by kernel_rfl) (by kernel_rfl) (by kernel_rfl) (fun _ _ _ h => h) (Or.inl ⟨by rfl, ?_⟩) (by assumption) ?_
      rotate_left
      · intro W hSW; (try dsimp only at hSW); go_simp; (first | done | with_reducible rfl)
      simp only [Act.put, List.getElem_toArray, List.getElem_cons_zero, List.getElem_cons_succ, List.setIfInBounds_toArray, List.set_cons_zero, List.set_cons_succ]
      refine wpAnyH_take (i := 6) (v := ?_) rfl (by kernel_rfl) (by kernel_rfl) (by kernel_rfl) (fun _ _ _ h => h) (Or.inl ⟨by rfl, ?_⟩) (by assumption) ?_
      rotate_left
      · intro W hSW; (try dsimp only at hSW); have c10 := hSW.2.1.at 10 _ rfl; have c11 := hSW.2.1.at 11 _ rfl; go_simp; (first | done | with_reducible rfl)
      simp only [Act.put, List.getElem_toArray, List.getElem_cons_zero, List.getElem_cons_succ, List.setIfInBounds_toArray, List.set_cons_zero, List.set_cons_succ]
      refine wpAnyH_ready (rs := [3]) (by kernel_rfl) (by simp) ?_
      refine (AllReadyH.cons rfl (fun K hK => ?_) AllReadyH.nil)
      go_simp
      refine (usedAuto_any s.m0.k s.m0.v _).mono ?_
      rintro e w3 ⟨rfl, hn⟩
      refine hK.out _ _ (⟨hS.1.trans hn, hS.2.1.kept hn, hS.2.2.1.kept hn, hS.2.2.2.kept hn⟩) (fun hS2 => ?_)
      clear hS hK
      have hS := hS2
      clear hS2
      try simp only [Act.put, List.getElem_toArray, List.getElem_cons_zero, List.getElem_cons_succ, List.setIfInBounds_toArray, List.set_cons_zero, List.set_cons_succ]
      refine wpAnyH_ready (rs := [7]) (by kernel_rfl) (by simp) ?_
      refine (AllReadyH.cons rfl (fun K hK => ?_) AllReadyH.nil)
      go_simp
      refine (usedAuto_any s.m1.k s.m1.v _).mono ?_
      rintro e w3 ⟨rfl, hn⟩
      refine hK.out _ _ (⟨hS.1.trans hn, hS.2.1.kept hn, hS.2.2.1.kept hn, hS.2.2.2.kept hn⟩) (fun hS2 => ?_)
      clear hS hK
      have hS := hS2
      clear hS2
      try simp only [Act.put, List.getElem_toArray, List.getElem_cons_zero, List.getElem_cons_succ, List.setIfInBounds_toArray, List.set_cons_zero, List.set_cons_succ]
      refine wpAnyH_take (i := 8) (v := ?_) rfl (by kernel_rfl) (by kernel_rfl) (by kernel_rfl) (fun _ _ _ h => h) (Or.inl ⟨by rfl, ?_⟩) (by assumption) ?_
      rotate_left
      · intro W hSW; (try dsimp only at hSW); go_simp; (first | done | with_reducible rfl)
      simp only [Act.put, List.getElem_toArray, List.getElem_cons_zero, List.getElem_cons_succ, List.setIfInBounds_toArray, List.set_cons_zero, List.set_cons_succ]
      refine wpAnyH_take (i := 9) (v := ?_) rfl (by kernel_rfl) (by kernel_rfl) (by kernel_rfl) (fun _ _ _ h => h) (Or.inl ⟨by rfl, ?_⟩) (by assumption) ?_
      rotate_left
      · intro W hSW; (try dsimp only at hSW); go_simp; (first | done | with_reducible rfl)
      simp only [Act.put, List.getElem_toArray, List.getElem_cons_zero, List.getElem_cons_succ, List.setIfInBounds_toArray, List.set_cons_zero, List.set_cons_succ]
      refine wpAnyH_done (by kernel_rfl) ?_ _
      obtain ⟨hk, st, r, sp⟩ := hS
      have r0 := r.at 0 _ rfl
      have rf0 := r.free 0
      have r1 := r.at 1 _ rfl
      have rf1 := r.free 1
      have r2 := r.at 2 _ rfl
      have rf2 := r.free 2
      have rl := r.lt
      have sp0 := sp.at 0 _ rfl
      have spf0 := sp.free 0
      have sp1 := sp.at 1 _ rfl
      have spf1 := sp.free 1
      have sp2 := sp.at 2 _ rfl
      have spf2 := sp.free 2
      have spl := sp.lt
      clear st r sp
      rcases true_first (s.m0.k == 0) with e0 | e0
      · rcases true_first (s.m1.k == 0) with e1 | e1
        · have Hs := Lib.hid (show spanS s room = (max 0 (leftS s room) / 2, sizeS s room, leftS s room - max 0 (leftS s room) / 2) from if_pos ⟨by simpa using e0, by simpa using e1⟩)
          rcases (by omega : room - sizeS s room - alongS s < 0 ∨ room - sizeS s room - alongS s = 0 ∨ 0 < room - sizeS s room - alongS s) with hl | hl | hl
          · skip
            go_wp2
            exact bodyPost_ret (v := .agg #[.int .i64 (0), .int .i64 (sizeS s room), .int .i64 (room - sizeS s room - alongS s)]) (by simp [results, Try.results38, go_sem, r0, r1, r2, rl, sp0, sp1, sp2, spl]) rfl ⟨ret_span (by first | (rw [Hs.out]; done) | (rw [Hs.out]; rfl) | (rw [Hs.out]; simp only [F1.out]; done) | (rw [Hs.out]; simp only [F1.out]; omega)) (by rw [Hs.out]) (by first | (rw [Hs.out]; done) | (rw [Hs.out]; rfl) | (rw [Hs.out]; simp only [F1.out]; done) | (rw [Hs.out]; simp only [F1.out]; omega)), by repeat (first | with_reducible exact hk | with_reducible refine Kept.set ?_ (by first | (simp; done) | (simp; omega) | omega) _)⟩
          · skip
            go_wp2
            exact bodyPost_ret (v := .agg #[.int .i64 (0), .int .i64 (sizeS s room), .int .i64 (0)]) (by simp [results, Try.results38, go_sem, r0, r1, r2, rl, sp0, sp1, sp2, spl]) rfl ⟨ret_span (by first | (rw [Hs.out]; done) | (rw [Hs.out]; rfl) | (rw [Hs.out]; simp only [F1.out]; done) | (rw [Hs.out]; simp only [F1.out]; omega)) (by rw [Hs.out]) (by first | (rw [Hs.out]; done) | (rw [Hs.out]; rfl) | (rw [Hs.out]; simp only [F1.out]; done) | (rw [Hs.out]; simp only [F1.out]; omega)), by repeat (first | with_reducible exact hk | with_reducible refine Kept.set ?_ (by first | (simp; done) | (simp; omega) | omega) _)⟩
          · skip
            go_wp2
            exact bodyPost_ret (v := .agg #[.int .i64 ((room - sizeS s room - alongS s) / 2), .int .i64 (sizeS s room), .int .i64 (room - sizeS s room - alongS s - (room - sizeS s room - alongS s) / 2)]) (by simp [results, Try.results38, go_sem, r0, r1, r2, rl, sp0, sp1, sp2, spl]) rfl ⟨ret_span (by first | (rw [Hs.out]; done) | (rw [Hs.out]; rfl) | (rw [Hs.out]; simp only [F1.out]; done) | (rw [Hs.out]; simp only [F1.out]; omega)) (by rw [Hs.out]) (by first | (rw [Hs.out]; done) | (rw [Hs.out]; rfl) | (rw [Hs.out]; simp only [F1.out]; done) | (rw [Hs.out]; simp only [F1.out]; omega)), by repeat (first | with_reducible exact hk | with_reducible refine Kept.set ?_ (by first | (simp; done) | (simp; omega) | omega) _)⟩
        · have Hs := Lib.hid (show spanS s room = (leftS s room, sizeS s room, marS s.m1) by unfold spanS; rw [if_neg (by simp at e1; simp [e1]), if_pos (by simpa using e0)])
          go_wp2
          exact bodyPost_ret (v := .agg #[.int .i64 (room - sizeS s room - alongS s), .int .i64 (sizeS s room), .int .i64 (marS s.m1)]) (by simp [results, Try.results38, go_sem, r0, r1, r2, rl, sp0, sp1, sp2, spl]) rfl ⟨ret_span (by first | (rw [Hs.out]; done) | (rw [Hs.out]; rfl) | (rw [Hs.out]; simp only [F1.out]; done) | (rw [Hs.out]; simp only [F1.out]; omega)) (by rw [Hs.out]) (by first | (rw [Hs.out]; done) | (rw [Hs.out]; rfl) | (rw [Hs.out]; simp only [F1.out]; done) | (rw [Hs.out]; simp only [F1.out]; omega)), by repeat (first | with_reducible exact hk | with_reducible refine Kept.set ?_ (by first | (simp; done) | (simp; omega) | omega) _)⟩
      · have Hs := Lib.hid (show spanS s room = (marS s.m0, sizeS s room, marS s.m1 + leftS s room) by unfold spanS; rw [if_neg (by simp at e0; simp [e0]), if_neg (by simpa using e0)])
        go_wp2
        exact bodyPost_ret (v := .agg #[.int .i64 (marS s.m0), .int .i64 (sizeS s room), .int .i64 (marS s.m1 + (room - sizeS s room - alongS s))]) (by simp [results, Try.results38, go_sem, r0, r1, r2, rl, sp0, sp1, sp2, spl]) rfl ⟨ret_span (by first | (rw [Hs.out]; done) | (rw [Hs.out]; rfl) | (rw [Hs.out]; simp only [F1.out]; done) | (rw [Hs.out]; simp only [F1.out]; omega)) (by rw [Hs.out]) (by first | (rw [Hs.out]; done) | (rw [Hs.out]; rfl) | (rw [Hs.out]; simp only [F1.out]; done) | (rw [Hs.out]; simp only [F1.out]; omega)), by repeat (first | with_reducible exact hk | with_reducible refine Kept.set ?_ (by first | (simp; done) | (simp; omega) | omega) _)⟩
    · skip
      go_simp
      have nl := hS.2.2.lt
      refine held_alloc hK.out hS ?_
      clear hS hK
      intro X eX hS sp
      try dsimp only [World.drew] at sp nl
      clear eX
      try simp only [Act.put, List.getElem_toArray, List.getElem_cons_zero, List.getElem_cons_succ, List.setIfInBounds_toArray, List.set_cons_zero, List.set_cons_succ]
      refine wpAnyH_ready (rs := [4]) (by kernel_rfl) (by simp) ?_
      refine (AllReadyH.cons rfl (fun K hK => ?_) AllReadyH.nil)
      go_simp
      refine (usedMargin1_any s _).mono ?_
      rintro e w3 ⟨rfl, hn⟩
      replace sp := sp.kept hn
      refine hK.out _ _ (⟨hS.1.trans hn, hS.2.1.kept hn, hS.2.2.kept hn⟩) (fun hS2 => ?_)
      clear hS hK
      have hS := hS2
      clear hS2
      try simp only [Act.put, List.getElem_toArray, List.getElem_cons_zero, List.getElem_cons_succ, List.setIfInBounds_toArray, List.set_cons_zero, List.set_cons_succ]
      refine wpAnyH_take (i := 5) (v := ?_) rfl (by kernel_rfl) (by kernel_rfl) (by kernel_rfl) (fun _ _ _ h => h) (Or.inl ⟨by rfl, ?_⟩) (by assumption) ?_
      rotate_left
      · intro W hSW; (try dsimp only at hSW); go_simp; (first | done | with_reducible rfl)
      simp only [Act.put, List.getElem_toArray, List.getElem_cons_zero, List.getElem_cons_succ, List.setIfInBounds_toArray, List.set_cons_zero, List.set_cons_succ]
      refine wpAnyH_ready (rs := [7]) (by kernel_rfl) (by simp) ?_
      refine (AllReadyH.cons rfl (fun K hK => ?_) AllReadyH.nil)
      have s0 := sp.at 0 _ rfl
      have s1 := sp.at 1 _ rfl
      have s2 := sp.at 2 _ rfl
      have q0 := sp.free 0
      have q1 := sp.free 1
      have q2 := sp.free 2
      go_simp
      refine held_store3 hK.out hS sp (by omega) (by omega) (by omega) ?_
      clear hS hK sp s0 s1 s2 q0 q1 q2
      intro X hS sp
      replace sp := sp.is (ds := #[.int .i64 (marS s.m0), .int .i64 (sizeS s room), .int .i64 (marS s.m1)]) rfl
      try simp only [Act.put, List.getElem_toArray, List.getElem_cons_zero, List.getElem_cons_succ, List.setIfInBounds_toArray, List.set_cons_zero, List.set_cons_succ]
      refine wpAnyH_done (by kernel_rfl) ?_ _
      go_wp2_with fail
      refine wp_region_held_drew (S := fun W => Kept w W ∧ Own W w.heap.size 26 s.C ∧ Own W (w.heap.size + 1) 43 #[.int .i64 0, .int .i64 0, .int .i64 0] ∧ Own W _ 43 #[.int .i64 (marS s.m0), .int .i64 (sizeS s room), .int .i64 (marS s.m1)]) (by kernel_rfl) (⟨hS.1.drew, hS.2.1.drew, hS.2.2.drew, sp.drew⟩) (fun hS => ?_)
      clear sp
      refine wpAnyH_take (i := 0) (v := ?_) rfl (by kernel_rfl) (by kernel_rfl) (by kernel_rfl) (fun _ _ _ h => h) (Or.inl ⟨by rfl, ?_⟩) (by assumption) ?_
      rotate_left
      · intro W hSW; (try dsimp only at hSW); go_simp; (first | done | with_reducible rfl)
      simp only [Act.put, List.getElem_toArray, List.getElem_cons_zero, List.getElem_cons_succ, List.setIfInBounds_toArray, List.set_cons_zero, List.set_cons_succ]
      refine wpAnyH_take (i := 1) (v := ?_) rfl (by kernel_rfl) (by kernel_rfl) (by kernel_rfl) (fun _ _ _ h => h) (Or.inl ⟨by rfl, ?_⟩) (by assumption) ?_
      rotate_left
      · intro W hSW; (try dsimp only at hSW); go_simp; (first | done | with_reducible rfl)
      simp only [Act.put, List.getElem_toArray, List.getElem_cons_zero, List.getElem_cons_succ, List.setIfInBounds_toArray, List.set_cons_zero, List.set_cons_succ]
      refine wpAnyH_take (i := 2) (v := ?_) rfl (by kernel_rfl) (by kernel_rfl) (by kernel_rfl) (fun _ _ _ h => h) (Or.inl ⟨by rfl, ?_⟩) (by assumption) ?_
      rotate_left
      · intro W hSW; (try dsimp only at hSW); have c8 := hSW.2.1.at 8 _ rfl; have c9 := hSW.2.1.at 9 _ rfl; go_simp; (first | done | with_reducible rfl)
      simp only [Act.put, List.getElem_toArray, List.getElem_cons_zero, List.getElem_cons_succ, List.setIfInBounds_toArray, List.set_cons_zero, List.set_cons_succ]
      refine wpAnyH_take (i := 4) (v := ?_) rfl (by kernel_rfl) (by kernel_rfl) (by kernel_rfl) (fun _ _ _ h => h) (Or.inl ⟨by rfl, ?_⟩) (by assumption) ?_
      rotate_left
      · intro W hSW; (try dsimp only at hSW); go_simp; (first | done | with_reducible rfl)
      simp only [Act.put, List.getElem_toArray, List.getElem_cons_zero, List.getElem_cons_succ, List.setIfInBounds_toArray, List.set_cons_zero, List.set_cons_succ]
      refine wpAnyH_take (i := 5) (v := ?_) rfl (by kernel_rfl) (by kernel_rfl) (by kernel_rfl) (fun _ _ _ h => h) (Or.inl ⟨by rfl, ?_⟩) (by assumption) ?_
      rotate_left
      · intro W hSW; (try dsimp only at hSW); go_simp; (first | done | with_reducible rfl)
      simp only [Act.put, List.getElem_toArray, List.getElem_cons_zero, List.getElem_cons_succ, List.setIfInBounds_toArray, List.set_cons_zero, List.set_cons_succ]
      refine wpAnyH_take (i := 6) (v := ?_) rfl (by kernel_rfl) (by kernel_rfl) (by kernel_rfl) (fun _ _ _ h => h) (Or.inl ⟨by rfl, ?_⟩) (by assumption) ?_
      rotate_left
      · intro W hSW; (try dsimp only at hSW); have c10 := hSW.2.1.at 10 _ rfl; have c11 := hSW.2.1.at 11 _ rfl; go_simp; (first | done | with_reducible rfl)
      simp only [Act.put, List.getElem_toArray, List.getElem_cons_zero, List.getElem_cons_succ, List.setIfInBounds_toArray, List.set_cons_zero, List.set_cons_succ]
      refine wpAnyH_ready (rs := [3]) (by kernel_rfl) (by simp) ?_
      refine (AllReadyH.cons rfl (fun K hK => ?_) AllReadyH.nil)
      go_simp
      refine (usedAuto_any s.m0.k s.m0.v _).mono ?_
      rintro e w3 ⟨rfl, hn⟩
      refine hK.out _ _ (⟨hS.1.trans hn, hS.2.1.kept hn, hS.2.2.1.kept hn, hS.2.2.2.kept hn⟩) (fun hS2 => ?_)
      clear hS hK
      have hS := hS2
      clear hS2
      try simp only [Act.put, List.getElem_toArray, List.getElem_cons_zero, List.getElem_cons_succ, List.setIfInBounds_toArray, List.set_cons_zero, List.set_cons_succ]
      refine wpAnyH_ready (rs := [7]) (by kernel_rfl) (by simp) ?_
      refine (AllReadyH.cons rfl (fun K hK => ?_) AllReadyH.nil)
      go_simp
      refine (usedAuto_any s.m1.k s.m1.v _).mono ?_
      rintro e w3 ⟨rfl, hn⟩
      refine hK.out _ _ (⟨hS.1.trans hn, hS.2.1.kept hn, hS.2.2.1.kept hn, hS.2.2.2.kept hn⟩) (fun hS2 => ?_)
      clear hS hK
      have hS := hS2
      clear hS2
      try simp only [Act.put, List.getElem_toArray, List.getElem_cons_zero, List.getElem_cons_succ, List.setIfInBounds_toArray, List.set_cons_zero, List.set_cons_succ]
      refine wpAnyH_take (i := 8) (v := ?_) rfl (by kernel_rfl) (by kernel_rfl) (by kernel_rfl) (fun _ _ _ h => h) (Or.inl ⟨by rfl, ?_⟩) (by assumption) ?_
      rotate_left
      · intro W hSW; (try dsimp only at hSW); go_simp; (first | done | with_reducible rfl)
      simp only [Act.put, List.getElem_toArray, List.getElem_cons_zero, List.getElem_cons_succ, List.setIfInBounds_toArray, List.set_cons_zero, List.set_cons_succ]
      refine wpAnyH_take (i := 9) (v := ?_) rfl (by kernel_rfl) (by kernel_rfl) (by kernel_rfl) (fun _ _ _ h => h) (Or.inl ⟨by rfl, ?_⟩) (by assumption) ?_
      rotate_left
      · intro W hSW; (try dsimp only at hSW); go_simp; (first | done | with_reducible rfl)
      simp only [Act.put, List.getElem_toArray, List.getElem_cons_zero, List.getElem_cons_succ, List.setIfInBounds_toArray, List.set_cons_zero, List.set_cons_succ]
      refine wpAnyH_done (by kernel_rfl) ?_ _
      obtain ⟨hk, st, r, sp⟩ := hS
      have r0 := r.at 0 _ rfl
      have rf0 := r.free 0
      have r1 := r.at 1 _ rfl
      have rf1 := r.free 1
      have r2 := r.at 2 _ rfl
      have rf2 := r.free 2
      have rl := r.lt
      have sp0 := sp.at 0 _ rfl
      have spf0 := sp.free 0
      have sp1 := sp.at 1 _ rfl
      have spf1 := sp.free 1
      have sp2 := sp.at 2 _ rfl
      have spf2 := sp.free 2
      have spl := sp.lt
      clear st r sp
      rcases true_first (s.m0.k == 0) with e0 | e0
      · rcases true_first (s.m1.k == 0) with e1 | e1
        · have Hs := Lib.hid (show spanS s room = (max 0 (leftS s room) / 2, sizeS s room, leftS s room - max 0 (leftS s room) / 2) from if_pos ⟨by simpa using e0, by simpa using e1⟩)
          rcases (by omega : room - sizeS s room - alongS s < 0 ∨ room - sizeS s room - alongS s = 0 ∨ 0 < room - sizeS s room - alongS s) with hl | hl | hl
          · skip
            go_wp2
            exact bodyPost_ret (v := .agg #[.int .i64 (0), .int .i64 (sizeS s room), .int .i64 (room - sizeS s room - alongS s)]) (by simp [results, Try.results38, go_sem, r0, r1, r2, rl, sp0, sp1, sp2, spl]) rfl ⟨ret_span (by first | (rw [Hs.out]; done) | (rw [Hs.out]; rfl) | (rw [Hs.out]; simp only [F1.out]; done) | (rw [Hs.out]; simp only [F1.out]; omega)) (by rw [Hs.out]) (by first | (rw [Hs.out]; done) | (rw [Hs.out]; rfl) | (rw [Hs.out]; simp only [F1.out]; done) | (rw [Hs.out]; simp only [F1.out]; omega)), by repeat (first | with_reducible exact hk | with_reducible refine Kept.set ?_ (by first | (simp; done) | (simp; omega) | omega) _)⟩
          · skip
            go_wp2
            exact bodyPost_ret (v := .agg #[.int .i64 (0), .int .i64 (sizeS s room), .int .i64 (0)]) (by simp [results, Try.results38, go_sem, r0, r1, r2, rl, sp0, sp1, sp2, spl]) rfl ⟨ret_span (by first | (rw [Hs.out]; done) | (rw [Hs.out]; rfl) | (rw [Hs.out]; simp only [F1.out]; done) | (rw [Hs.out]; simp only [F1.out]; omega)) (by rw [Hs.out]) (by first | (rw [Hs.out]; done) | (rw [Hs.out]; rfl) | (rw [Hs.out]; simp only [F1.out]; done) | (rw [Hs.out]; simp only [F1.out]; omega)), by repeat (first | with_reducible exact hk | with_reducible refine Kept.set ?_ (by first | (simp; done) | (simp; omega) | omega) _)⟩
          · skip
            go_wp2
            exact bodyPost_ret (v := .agg #[.int .i64 ((room - sizeS s room - alongS s) / 2), .int .i64 (sizeS s room), .int .i64 (room - sizeS s room - alongS s - (room - sizeS s room - alongS s) / 2)]) (by simp [results, Try.results38, go_sem, r0, r1, r2, rl, sp0, sp1, sp2, spl]) rfl ⟨ret_span (by first | (rw [Hs.out]; done) | (rw [Hs.out]; rfl) | (rw [Hs.out]; simp only [F1.out]; done) | (rw [Hs.out]; simp only [F1.out]; omega)) (by rw [Hs.out]) (by first | (rw [Hs.out]; done) | (rw [Hs.out]; rfl) | (rw [Hs.out]; simp only [F1.out]; done) | (rw [Hs.out]; simp only [F1.out]; omega)), by repeat (first | with_reducible exact hk | with_reducible refine Kept.set ?_ (by first | (simp; done) | (simp; omega) | omega) _)⟩
        · have Hs := Lib.hid (show spanS s room = (leftS s room, sizeS s room, marS s.m1) by unfold spanS; rw [if_neg (by simp at e1; simp [e1]), if_pos (by simpa using e0)])
          go_wp2
          exact bodyPost_ret (v := .agg #[.int .i64 (room - sizeS s room - alongS s), .int .i64 (sizeS s room), .int .i64 (marS s.m1)]) (by simp [results, Try.results38, go_sem, r0, r1, r2, rl, sp0, sp1, sp2, spl]) rfl ⟨ret_span (by first | (rw [Hs.out]; done) | (rw [Hs.out]; rfl) | (rw [Hs.out]; simp only [F1.out]; done) | (rw [Hs.out]; simp only [F1.out]; omega)) (by rw [Hs.out]) (by first | (rw [Hs.out]; done) | (rw [Hs.out]; rfl) | (rw [Hs.out]; simp only [F1.out]; done) | (rw [Hs.out]; simp only [F1.out]; omega)), by repeat (first | with_reducible exact hk | with_reducible refine Kept.set ?_ (by first | (simp; done) | (simp; omega) | omega) _)⟩
      · have Hs := Lib.hid (show spanS s room = (marS s.m0, sizeS s room, marS s.m1 + leftS s room) by unfold spanS; rw [if_neg (by simp at e0; simp [e0]), if_neg (by simpa using e0)])
        go_wp2
        exact bodyPost_ret (v := .agg #[.int .i64 (marS s.m0), .int .i64 (sizeS s room), .int .i64 (marS s.m1 + (room - sizeS s room - alongS s))]) (by simp [results, Try.results38, go_sem, r0, r1, r2, rl, sp0, sp1, sp2, spl]) rfl ⟨ret_span (by first | (rw [Hs.out]; done) | (rw [Hs.out]; rfl) | (rw [Hs.out]; simp only [F1.out]; done) | (rw [Hs.out]; simp only [F1.out]; omega)) (by rw [Hs.out]) (by first | (rw [Hs.out]; done) | (rw [Hs.out]; rfl) | (rw [Hs.out]; simp only [F1.out]; done) | (rw [Hs.out]; simp only [F1.out]; omega)), by repeat (first | with_reducible exact hk | with_reducible refine Kept.set ?_ (by first | (simp; done) | (simp; omega) | omega) _)⟩
  · skip
    go_simp
    have nl := hS.2.2.lt
    refine held_alloc hK.out hS ?_
    clear hS hK
    intro X eX hS sp
    try dsimp only [World.drew] at sp nl
    clear eX
    try simp only [Act.put, List.getElem_toArray, List.getElem_cons_zero, List.getElem_cons_succ, List.setIfInBounds_toArray, List.set_cons_zero, List.set_cons_succ]
    refine wpAnyH_ready (rs := [1]) (by kernel_rfl) (by simp) ?_
    refine (AllReadyH.cons rfl (fun K hK => ?_) AllReadyH.nil)
    go_simp
    refine (usedMargin0_any s _).mono ?_
    rintro e w3 ⟨rfl, hn⟩
    replace sp := sp.kept hn
    refine hK.out _ _ (⟨hS.1.trans hn, hS.2.1.kept hn, hS.2.2.kept hn⟩) (fun hS2 => ?_)
    clear hS hK
    have hS := hS2
    clear hS2
    try simp only [Act.put, List.getElem_toArray, List.getElem_cons_zero, List.getElem_cons_succ, List.setIfInBounds_toArray, List.set_cons_zero, List.set_cons_succ]
    refine wpAnyH_ready (rs := [4]) (by kernel_rfl) (by simp) ?_
    refine (AllReadyH.cons rfl (fun K hK => ?_) AllReadyH.nil)
    go_simp
    refine (usedMargin1_any s _).mono ?_
    rintro e w3 ⟨rfl, hn⟩
    replace sp := sp.kept hn
    refine hK.out _ _ (⟨hS.1.trans hn, hS.2.1.kept hn, hS.2.2.kept hn⟩) (fun hS2 => ?_)
    clear hS hK
    have hS := hS2
    clear hS2
    try simp only [Act.put, List.getElem_toArray, List.getElem_cons_zero, List.getElem_cons_succ, List.setIfInBounds_toArray, List.set_cons_zero, List.set_cons_succ]
    refine wpAnyH_take (i := 5) (v := ?_) rfl (by kernel_rfl) (by kernel_rfl) (by kernel_rfl) (fun _ _ _ h => h) (Or.inl ⟨by rfl, ?_⟩) (by assumption) ?_
    rotate_left
    · intro W hSW; (try dsimp only at hSW); go_simp; (first | done | with_reducible rfl)
    simp only [Act.put, List.getElem_toArray, List.getElem_cons_zero, List.getElem_cons_succ, List.setIfInBounds_toArray, List.set_cons_zero, List.set_cons_succ]
    refine wpAnyH_ready (rs := [7]) (by kernel_rfl) (by simp) ?_
    refine (AllReadyH.cons rfl (fun K hK => ?_) AllReadyH.nil)
    have s0 := sp.at 0 _ rfl
    have s1 := sp.at 1 _ rfl
    have s2 := sp.at 2 _ rfl
    have q0 := sp.free 0
    have q1 := sp.free 1
    have q2 := sp.free 2
    go_simp
    refine held_store3 hK.out hS sp (by omega) (by omega) (by omega) ?_
    clear hS hK sp s0 s1 s2 q0 q1 q2
    intro X hS sp
    replace sp := sp.is (ds := #[.int .i64 (marS s.m0), .int .i64 (sizeS s room), .int .i64 (marS s.m1)]) rfl
    try simp only [Act.put, List.getElem_toArray, List.getElem_cons_zero, List.getElem_cons_succ, List.setIfInBounds_toArray, List.set_cons_zero, List.set_cons_succ]
    refine wpAnyH_done (by kernel_rfl) ?_ _
    go_wp2_with fail
    refine wp_region_held_drew (S := fun W => Kept w W ∧ Own W w.heap.size 26 s.C ∧ Own W (w.heap.size + 1) 43 #[.int .i64 0, .int .i64 0, .int .i64 0] ∧ Own W _ 43 #[.int .i64 (marS s.m0), .int .i64 (sizeS s room), .int .i64 (marS s.m1)]) (by kernel_rfl) (⟨hS.1.drew, hS.2.1.drew, hS.2.2.drew, sp.drew⟩) (fun hS => ?_)
    clear sp
    refine wpAnyH_take (i := 0) (v := ?_) rfl (by kernel_rfl) (by kernel_rfl) (by kernel_rfl) (fun _ _ _ h => h) (Or.inl ⟨by rfl, ?_⟩) (by assumption) ?_
    rotate_left
    · intro W hSW; (try dsimp only at hSW); go_simp; (first | done | with_reducible rfl)
    simp only [Act.put, List.getElem_toArray, List.getElem_cons_zero, List.getElem_cons_succ, List.setIfInBounds_toArray, List.set_cons_zero, List.set_cons_succ]
    refine wpAnyH_take (i := 1) (v := ?_) rfl (by kernel_rfl) (by kernel_rfl) (by kernel_rfl) (fun _ _ _ h => h) (Or.inl ⟨by rfl, ?_⟩) (by assumption) ?_
    rotate_left
    · intro W hSW; (try dsimp only at hSW); go_simp; (first | done | with_reducible rfl)
    simp only [Act.put, List.getElem_toArray, List.getElem_cons_zero, List.getElem_cons_succ, List.setIfInBounds_toArray, List.set_cons_zero, List.set_cons_succ]
    refine wpAnyH_take (i := 2) (v := ?_) rfl (by kernel_rfl) (by kernel_rfl) (by kernel_rfl) (fun _ _ _ h => h) (Or.inl ⟨by rfl, ?_⟩) (by assumption) ?_
    rotate_left
    · intro W hSW; (try dsimp only at hSW); have c8 := hSW.2.1.at 8 _ rfl; have c9 := hSW.2.1.at 9 _ rfl; go_simp; (first | done | with_reducible rfl)
    simp only [Act.put, List.getElem_toArray, List.getElem_cons_zero, List.getElem_cons_succ, List.setIfInBounds_toArray, List.set_cons_zero, List.set_cons_succ]
    refine wpAnyH_take (i := 4) (v := ?_) rfl (by kernel_rfl) (by kernel_rfl) (by kernel_rfl) (fun _ _ _ h => h) (Or.inl ⟨by rfl, ?_⟩) (by assumption) ?_
    rotate_left
    · intro W hSW; (try dsimp only at hSW); go_simp; (first | done | with_reducible rfl)
    simp only [Act.put, List.getElem_toArray, List.getElem_cons_zero, List.getElem_cons_succ, List.setIfInBounds_toArray, List.set_cons_zero, List.set_cons_succ]
    refine wpAnyH_take (i := 5) (v := ?_) rfl (by kernel_rfl) (by kernel_rfl) (by kernel_rfl) (fun _ _ _ h => h) (Or.inl ⟨by rfl, ?_⟩) (by assumption) ?_
    rotate_left
    · intro W hSW; (try dsimp only at hSW); go_simp; (first | done | with_reducible rfl)
    simp only [Act.put, List.getElem_toArray, List.getElem_cons_zero, List.getElem_cons_succ, List.setIfInBounds_toArray, List.set_cons_zero, List.set_cons_succ]
    refine wpAnyH_take (i := 6) (v := ?_) rfl (by kernel_rfl) (by kernel_rfl) (by kernel_rfl) (fun _ _ _ h => h) (Or.inl ⟨by rfl, ?_⟩) (by assumption) ?_
    rotate_left
    · intro W hSW; (try dsimp only at hSW); have c10 := hSW.2.1.at 10 _ rfl; have c11 := hSW.2.1.at 11 _ rfl; go_simp; (first | done | with_reducible rfl)
    simp only [Act.put, List.getElem_toArray, List.getElem_cons_zero, List.getElem_cons_succ, List.setIfInBounds_toArray, List.set_cons_zero, List.set_cons_succ]
    refine wpAnyH_ready (rs := [3]) (by kernel_rfl) (by simp) ?_
    refine (AllReadyH.cons rfl (fun K hK => ?_) AllReadyH.nil)
    go_simp
    refine (usedAuto_any s.m0.k s.m0.v _).mono ?_
    rintro e w3 ⟨rfl, hn⟩
    refine hK.out _ _ (⟨hS.1.trans hn, hS.2.1.kept hn, hS.2.2.1.kept hn, hS.2.2.2.kept hn⟩) (fun hS2 => ?_)
    clear hS hK
    have hS := hS2
    clear hS2
    try simp only [Act.put, List.getElem_toArray, List.getElem_cons_zero, List.getElem_cons_succ, List.setIfInBounds_toArray, List.set_cons_zero, List.set_cons_succ]
    refine wpAnyH_ready (rs := [7]) (by kernel_rfl) (by simp) ?_
    refine (AllReadyH.cons rfl (fun K hK => ?_) AllReadyH.nil)
    go_simp
    refine (usedAuto_any s.m1.k s.m1.v _).mono ?_
    rintro e w3 ⟨rfl, hn⟩
    refine hK.out _ _ (⟨hS.1.trans hn, hS.2.1.kept hn, hS.2.2.1.kept hn, hS.2.2.2.kept hn⟩) (fun hS2 => ?_)
    clear hS hK
    have hS := hS2
    clear hS2
    try simp only [Act.put, List.getElem_toArray, List.getElem_cons_zero, List.getElem_cons_succ, List.setIfInBounds_toArray, List.set_cons_zero, List.set_cons_succ]
    refine wpAnyH_take (i := 8) (v := ?_) rfl (by kernel_rfl) (by kernel_rfl) (by kernel_rfl) (fun _ _ _ h => h) (Or.inl ⟨by rfl, ?_⟩) (by assumption) ?_
    rotate_left
    · intro W hSW; (try dsimp only at hSW); go_simp; (first | done | with_reducible rfl)
    simp only [Act.put, List.getElem_toArray, List.getElem_cons_zero, List.getElem_cons_succ, List.setIfInBounds_toArray, List.set_cons_zero, List.set_cons_succ]
    refine wpAnyH_take (i := 9) (v := ?_) rfl (by kernel_rfl) (by kernel_rfl) (by kernel_rfl) (fun _ _ _ h => h) (Or.inl ⟨by rfl, ?_⟩) (by assumption) ?_
    rotate_left
    · intro W hSW; (try dsimp only at hSW); go_simp; (first | done | with_reducible rfl)
    simp only [Act.put, List.getElem_toArray, List.getElem_cons_zero, List.getElem_cons_succ, List.setIfInBounds_toArray, List.set_cons_zero, List.set_cons_succ]
    refine wpAnyH_done (by kernel_rfl) ?_ _
    obtain ⟨hk, st, r, sp⟩ := hS
    have r0 := r.at 0 _ rfl
    have rf0 := r.free 0
    have r1 := r.at 1 _ rfl
    have rf1 := r.free 1
    have r2 := r.at 2 _ rfl
    have rf2 := r.free 2
    have rl := r.lt
    have sp0 := sp.at 0 _ rfl
    have spf0 := sp.free 0
    have sp1 := sp.at 1 _ rfl
    have spf1 := sp.free 1
    have sp2 := sp.at 2 _ rfl
    have spf2 := sp.free 2
    have spl := sp.lt
    clear st r sp
    rcases true_first (s.m0.k == 0) with e0 | e0
    · rcases true_first (s.m1.k == 0) with e1 | e1
      · have Hs := Lib.hid (show spanS s room = (max 0 (leftS s room) / 2, sizeS s room, leftS s room - max 0 (leftS s room) / 2) from if_pos ⟨by simpa using e0, by simpa using e1⟩)
        rcases (by omega : room - sizeS s room - alongS s < 0 ∨ room - sizeS s room - alongS s = 0 ∨ 0 < room - sizeS s room - alongS s) with hl | hl | hl
        · skip
          go_wp2
          exact bodyPost_ret (v := .agg #[.int .i64 (0), .int .i64 (sizeS s room), .int .i64 (room - sizeS s room - alongS s)]) (by simp [results, Try.results38, go_sem, r0, r1, r2, rl, sp0, sp1, sp2, spl]) rfl ⟨ret_span (by first | (rw [Hs.out]; done) | (rw [Hs.out]; rfl) | (rw [Hs.out]; simp only [F1.out]; done) | (rw [Hs.out]; simp only [F1.out]; omega)) (by rw [Hs.out]) (by first | (rw [Hs.out]; done) | (rw [Hs.out]; rfl) | (rw [Hs.out]; simp only [F1.out]; done) | (rw [Hs.out]; simp only [F1.out]; omega)), by repeat (first | with_reducible exact hk | with_reducible refine Kept.set ?_ (by first | (simp; done) | (simp; omega) | omega) _)⟩
        · skip
          go_wp2
          exact bodyPost_ret (v := .agg #[.int .i64 (0), .int .i64 (sizeS s room), .int .i64 (0)]) (by simp [results, Try.results38, go_sem, r0, r1, r2, rl, sp0, sp1, sp2, spl]) rfl ⟨ret_span (by first | (rw [Hs.out]; done) | (rw [Hs.out]; rfl) | (rw [Hs.out]; simp only [F1.out]; done) | (rw [Hs.out]; simp only [F1.out]; omega)) (by rw [Hs.out]) (by first | (rw [Hs.out]; done) | (rw [Hs.out]; rfl) | (rw [Hs.out]; simp only [F1.out]; done) | (rw [Hs.out]; simp only [F1.out]; omega)), by repeat (first | with_reducible exact hk | with_reducible refine Kept.set ?_ (by first | (simp; done) | (simp; omega) | omega) _)⟩
        · skip
          go_wp2
          exact bodyPost_ret (v := .agg #[.int .i64 ((room - sizeS s room - alongS s) / 2), .int .i64 (sizeS s room), .int .i64 (room - sizeS s room - alongS s - (room - sizeS s room - alongS s) / 2)]) (by simp [results, Try.results38, go_sem, r0, r1, r2, rl, sp0, sp1, sp2, spl]) rfl ⟨ret_span (by first | (rw [Hs.out]; done) | (rw [Hs.out]; rfl) | (rw [Hs.out]; simp only [F1.out]; done) | (rw [Hs.out]; simp only [F1.out]; omega)) (by rw [Hs.out]) (by first | (rw [Hs.out]; done) | (rw [Hs.out]; rfl) | (rw [Hs.out]; simp only [F1.out]; done) | (rw [Hs.out]; simp only [F1.out]; omega)), by repeat (first | with_reducible exact hk | with_reducible refine Kept.set ?_ (by first | (simp; done) | (simp; omega) | omega) _)⟩
      · have Hs := Lib.hid (show spanS s room = (leftS s room, sizeS s room, marS s.m1) by unfold spanS; rw [if_neg (by simp at e1; simp [e1]), if_pos (by simpa using e0)])
        go_wp2
        exact bodyPost_ret (v := .agg #[.int .i64 (room - sizeS s room - alongS s), .int .i64 (sizeS s room), .int .i64 (marS s.m1)]) (by simp [results, Try.results38, go_sem, r0, r1, r2, rl, sp0, sp1, sp2, spl]) rfl ⟨ret_span (by first | (rw [Hs.out]; done) | (rw [Hs.out]; rfl) | (rw [Hs.out]; simp only [F1.out]; done) | (rw [Hs.out]; simp only [F1.out]; omega)) (by rw [Hs.out]) (by first | (rw [Hs.out]; done) | (rw [Hs.out]; rfl) | (rw [Hs.out]; simp only [F1.out]; done) | (rw [Hs.out]; simp only [F1.out]; omega)), by repeat (first | with_reducible exact hk | with_reducible refine Kept.set ?_ (by first | (simp; done) | (simp; omega) | omega) _)⟩
    · have Hs := Lib.hid (show spanS s room = (marS s.m0, sizeS s room, marS s.m1 + leftS s room) by unfold spanS; rw [if_neg (by simp at e0; simp [e0]), if_neg (by simpa using e0)])
      go_wp2
      exact bodyPost_ret (v := .agg #[.int .i64 (marS s.m0), .int .i64 (sizeS s room), .int .i64 (marS s.m1 + (room - sizeS s room - alongS s))]) (by simp [results, Try.results38, go_sem, r0, r1, r2, rl, sp0, sp1, sp2, spl]) rfl ⟨ret_span (by first | (rw [Hs.out]; done) | (rw [Hs.out]; rfl) | (rw [Hs.out]; simp only [F1.out]; done) | (rw [Hs.out]; simp only [F1.out]; omega)) (by rw [Hs.out]) (by first | (rw [Hs.out]; done) | (rw [Hs.out]; rfl) | (rw [Hs.out]; simp only [F1.out]; done) | (rw [Hs.out]; simp only [F1.out]; omega)), by repeat (first | with_reducible exact hk | with_reducible refine Kept.set ?_ (by first | (simp; done) | (simp; omega) | omega) _)⟩

end Go.Proofs.Ytpkphohgnelajaa
