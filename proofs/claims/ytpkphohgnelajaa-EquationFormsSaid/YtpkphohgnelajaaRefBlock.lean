/- Layer 14: a block's numbers, by the reference. -/
import Derived.Test.YtpkphohgnelajaaEqBlock
namespace Go.Proofs.Ytpkphohgnelajaa
open Go.RowKit
set_option linter.unusedSimpArgs false
set_option linter.unusedVariables false
set_option maxRecDepth 20000
/-- in a drawn region: a block of two cells is written -/
theorem held_store2 {w W : World} {t u v : TypeId} {cs ds es : Array Value} {m n k : Nat} {x y : Value} {K : Act → World → Prop} {G : Act → World → Prop} {a : Act}
    (hK : ∀ (a : Act) (X : World), (Kept w X ∧ Own X m t cs ∧ Own X n u ds) → ((Kept w X ∧ Own X m t cs ∧ Own X n u ds) → G a X) → K a X) (hS : Kept w W ∧ Own W m t cs ∧ Own W n u ds)
    (sp : Own W k v es) (hk : w.heap.size ≤ k) (hm : m ≠ k) (hn : n ≠ k)
    (h : ∀ X, X = ((W.setCell ⟨k, 0, none⟩ x).setCell ⟨k, 1, none⟩ y) → (Kept w X ∧ Own X m t cs ∧ Own X n u ds) → Own X k v ((es.setIfInBounds 0 x).setIfInBounds 1 y) → G a X) :
    K a ((W.setCell ⟨k, 0, none⟩ x).setCell ⟨k, 1, none⟩ y) :=
  hK a _ ⟨(hS.1.set hk _).set hk _, (hS.2.1.other hm _).other hm _, (hS.2.2.other hn _).other hn _⟩ fun h2 => h _ rfl h2 ((sp.set 0 x).set 1 y)
theorem ret_spanT {a b c d e f k : Int} (h : a = d) (g : b = e) (i : c = f) : Ending.returned (.tuple #[.agg #[.int .i64 a, .int .i64 b, .int .i64 c], .int .i64 k]) = .returned (.tuple #[.agg #[.int .i64 d, .int .i64 e, .int .i64 f], .int .i64 k]) := by rw [h, g, i]
theorem refUsedInl_any (s : Sty) (room : Int) (w : World) (hA : room - (s.p0.v + s.p1.v) - s.m0.v - s.m1.v = room - alongS s) :
    Calls Try.prog 33 #[s.inl.V, .int .i64 room, .int .i64 (room - (s.p0.v + s.p1.v) - s.m0.v - s.m1.v)] w fun e w' => e = .returned (.tuple #[.int .i64 (usedS s.inl.k s.inl.v room (room - alongS s)).1, .int .i64 (usedS s.inl.k s.inl.v room (room - alongS s)).2]) ∧ Kept w w' := by
  rw [hA]; exact refUsed_any _ _ _ _ _
theorem refClampSize_any (s : Sty) (room : Int) (w : World) (hc : clampInS s room (usedS s.inl.k s.inl.v room (room - alongS s)).1 = (sizeS s room, 0)) :
    Calls Try.prog 14 #[s.V, .int .i64 room, .int .i64 (usedS s.inl.k s.inl.v room (room - alongS s)).1] w fun e w' => e = .returned (.tuple #[.int .i64 (sizeS s room), .int .i64 0]) ∧ Kept w w' := by
  have := refClampInline_any s room (usedS s.inl.k s.inl.v room (room - alongS s)).1 w
  rwa [hc] at this
theorem size_eq {s : Sty} (h : mayS s = true) {r : Int} (r0 : 0 ≤ r) (r1 : r ≤ 4194304) : clampInS s r (usedS s.inl.k s.inl.v r (r - alongS s)).1 = (sizeS s r, 0) := by
  obtain ⟨⟨a, _, _, _, _⟩, _, _, _⟩ := may_parts h
  obtain ⟨_, _, l0, l1⟩ := along_bd h
  obtain ⟨y, hy, h1⟩ := used_bd (a := r - alongS s) a r0 r1 (mayB_true.2 (by omega))
  have e : (usedS s.inl.k s.inl.v r (r - alongS s)).1 = y := by rw [hy]
  rw [inline_yes h r0 r1 (by omega) (by omega)]
  rfl

set_option maxHeartbeats 16000000 in
theorem refBlock_any (s : Sty) (room : Int) (w : World) :
    Calls Try.prog 22 #[s.V, .int .i64 room] w fun e w' => e = .returned (.tuple #[spanV (eqS s room).1, .int .i64 (eqS s room).2]) ∧ Kept w w' := by
  have hk : Kept w w := Kept.refl w
  go_enter Try.func22, Try.ntmps22
  go_wp2_with (refine here_load 26 _ rfl ?_; refine wpList_load_own rfl 26 _ rfl _ rfl (Own.alloc (Own.new _ _ _) _) _ Try.underlying26 rfl (by kernel_rfl) ?_)
  go_wp2_with fail
  refine with_boxes2 ?_
  intro X hX st r
  have hsz := hk.size
  replace hk := hk.trans hX
  clear hX
  refine (refStyleMay_any s _).mono ?_
  rintro e w1 ⟨rfl, hn⟩
  replace hk := hk.trans hn
  replace st := st.kept hn
  replace r := r.kept hn
  clear hn
  rcases false_first (mayS s) with h | h
  · have Hs := Lib.hid (show eqS s room = ((0, 0, 0), 1400) from if_neg (by simp [h]))
    clear st
    replace r_l := r.lt
    replace r_0 := r.at 0 _ rfl
    replace r_f0 := r.free 0
    replace r_1 := r.at 1 _ rfl
    replace r_f1 := r.free 1
    replace r_2 := r.at 2 _ rfl
    replace r_f2 := r.free 2
    go_wp2
    exact bodyPost_ret (v := .tuple #[spanV (0, 0, 0), .int .i64 1400]) (by simp [results, Try.results22, go_sem, r_0, r_1, r_2, r_l]) rfl ⟨by first | (rw [Hs.out]; done) | rfl, (by first | ((repeat (first | with_reducible exact hk | with_reducible refine Kept.alloc ?_ _ | with_reducible refine Kept.drew ?_ | with_reducible refine Kept.drewN ?_ _ | with_reducible refine Kept.set ?_ (by first | (simp; done) | (simp; omega) | omega) _)); done) | exact hk | exact (hk.alloc _) | exact ((hk.alloc _).alloc _) | exact (((hk.alloc _).alloc _).alloc _) | exact ((((hk.alloc _).alloc _).alloc _).alloc _) | exact (((((hk.alloc _).alloc _).alloc _).alloc _).alloc _) | exact ((((((hk.alloc _).alloc _).alloc _).alloc _).alloc _).alloc _) | (repeat (first | exact hk | refine Kept.alloc ?_ _ | refine Kept.drew ?_ | refine Kept.drewN ?_ _ | refine Kept.set ?_ (by first | (simp; done) | (simp; omega) | omega) _)))⟩
  rcases false_first (inB 0 4194304 room) with h2 | h2
  · have Hs := Lib.hid (show eqS s room = ((0, 0, 0), 1400) from if_neg (by simp [h2]))
    go_wp2_with fail
    refine (refRoom_any _ _).mono ?_
    rintro e w1 ⟨rfl, rfl⟩
    clear st
    replace r_l := r.lt
    replace r_0 := r.at 0 _ rfl
    replace r_f0 := r.free 0
    replace r_1 := r.at 1 _ rfl
    replace r_f1 := r.free 1
    replace r_2 := r.at 2 _ rfl
    replace r_f2 := r.free 2
    go_wp2
    exact bodyPost_ret (v := .tuple #[spanV (0, 0, 0), .int .i64 1400]) (by simp [results, Try.results22, go_sem, r_0, r_1, r_2, r_l]) rfl ⟨by first | (rw [Hs.out]; done) | rfl, (by first | ((repeat (first | with_reducible exact hk | with_reducible refine Kept.alloc ?_ _ | with_reducible refine Kept.drew ?_ | with_reducible refine Kept.drewN ?_ _ | with_reducible refine Kept.set ?_ (by first | (simp; done) | (simp; omega) | omega) _)); done) | exact hk | exact (hk.alloc _) | exact ((hk.alloc _).alloc _) | exact (((hk.alloc _).alloc _).alloc _) | exact ((((hk.alloc _).alloc _).alloc _).alloc _) | exact (((((hk.alloc _).alloc _).alloc _).alloc _).alloc _) | exact ((((((hk.alloc _).alloc _).alloc _).alloc _).alloc _).alloc _) | (repeat (first | exact hk | refine Kept.alloc ?_ _ | refine Kept.drew ?_ | refine Kept.drewN ?_ _ | refine Kept.set ?_ (by first | (simp; done) | (simp; omega) | omega) _)))⟩
  have He := Lib.hid (show eqS s room = (spanS s room, 0) from if_pos ⟨h, h2⟩)
  obtain ⟨r0, r1⟩ := inB_true.1 h2
  obtain ⟨z0, z1⟩ := size_bd h r0 r1
  have hc := Lib.hid (size_eq h r0 r1)
  obtain ⟨_, ⟨b0, b1, _, _⟩, _, _⟩ := may_parts h
  obtain ⟨a0, a1, a2, a3, a4, _⟩ := mar_bd b0
  obtain ⟨d0, d1, d2, d3, d4, _⟩ := mar_bd b1
  have hA := Lib.hid (show room - (s.p0.v + s.p1.v) - s.m0.v - s.m1.v = room - alongS s by unfold alongS; omega)
  have F1 := Lib.hid (show leftS s room = room - (s.p0.v + s.p1.v) - sizeS s room - s.m0.v - s.m1.v by unfold leftS alongS; omega)
  have M0 := Lib.hid a0
  have M1 := Lib.hid d0
  rw [a0] at a1 a2
  rw [d0] at d1 d2
  clear a0 d0 b0 b1
  go_wp2_with fail
  refine (refRoom_any _ _).mono ?_
  rintro e w1 ⟨rfl, rfl⟩
  go_wp2_with fail
  clear h h2
  refine wp_region_held_drew (S := fun W => Kept w W ∧ Own W w.heap.size 26 s.C ∧ Own W (w.heap.size + 1) 43 #[.int .i64 0, .int .i64 0, .int .i64 0]) (by kernel_rfl) (⟨hk.drew, st.drew, r.drew⟩) (fun hS => ?_)
  clear hk st r
  refine wpAnyH_take (i := 0) (v := ?_) rfl (by kernel_rfl) (by kernel_rfl) (by kernel_rfl) (fun _ _ _ h => h) (Or.inl ⟨by rfl, ?_⟩) (by assumption) ?_
  rotate_left
  · intro W hSW; (try dsimp only at hSW); go_simp; (first | done | with_reducible rfl)
  simp only [Act.put, List.getElem_toArray, List.getElem_cons_zero, List.getElem_cons_succ, List.setIfInBounds_toArray, List.set_cons_zero, List.set_cons_succ]
  refine wpAnyH_take (i := 1) (v := ?_) rfl (by kernel_rfl) (by kernel_rfl) (by kernel_rfl) (fun _ _ _ h => h) (Or.inl ⟨by rfl, ?_⟩) (by assumption) ?_
  rotate_left
  · intro W hSW; (try dsimp only at hSW); go_simp; (first | done | with_reducible rfl)
  simp only [Act.put, List.getElem_toArray, List.getElem_cons_zero, List.getElem_cons_succ, List.setIfInBounds_toArray, List.set_cons_zero, List.set_cons_succ]
  refine wpAnyH_take (i := 2) (v := ?_) rfl (by kernel_rfl) (by kernel_rfl) (by kernel_rfl) (fun _ _ _ h => h) (Or.inl ⟨by rfl, ?_⟩) (by assumption) ?_
  rotate_left
  · intro W hSW; (try dsimp only at hSW); have c8 := hSW.2.1.at 8 _ rfl; have c9 := hSW.2.1.at 9 _ rfl; go_simp; (first | done | with_reducible rfl)
  simp only [Act.put, List.getElem_toArray, List.getElem_cons_zero, List.getElem_cons_succ, List.setIfInBounds_toArray, List.set_cons_zero, List.set_cons_succ]
  refine wpAnyH_take (i := 3) (v := ?_) rfl (by kernel_rfl) (by kernel_rfl) (by kernel_rfl) (fun _ _ _ h => h) (Or.inl ⟨by rfl, ?_⟩) (by assumption) ?_
  rotate_left
  · intro W hSW; (try dsimp only at hSW); go_simp; (first | done | with_reducible rfl)
  simp only [Act.put, List.getElem_toArray, List.getElem_cons_zero, List.getElem_cons_succ, List.setIfInBounds_toArray, List.set_cons_zero, List.set_cons_succ]
  refine wpAnyH_take (i := 4) (v := ?_) rfl (by kernel_rfl) (by kernel_rfl) (by kernel_rfl) (fun _ _ _ h => h) (Or.inl ⟨by rfl, ?_⟩) (by assumption) ?_
  rotate_left
  · intro W hSW; (try dsimp only at hSW); go_simp; (first | done | with_reducible rfl)
  simp only [Act.put, List.getElem_toArray, List.getElem_cons_zero, List.getElem_cons_succ, List.setIfInBounds_toArray, List.set_cons_zero, List.set_cons_succ]
  refine wpAnyH_take (i := 5) (v := ?_) rfl (by kernel_rfl) (by kernel_rfl) (by kernel_rfl) (fun _ _ _ h => h) (Or.inl ⟨by rfl, ?_⟩) (by assumption) ?_
  rotate_left
  · intro W hSW; (try dsimp only at hSW); have c10 := hSW.2.1.at 10 _ rfl; have c11 := hSW.2.1.at 11 _ rfl; go_simp; (first | done | with_reducible rfl)
  simp only [Act.put, List.getElem_toArray, List.getElem_cons_zero, List.getElem_cons_succ, List.setIfInBounds_toArray, List.set_cons_zero, List.set_cons_succ]

  refine wpAnyH_ready (rs := [6, 7]) (by kernel_rfl) (by simp) ?_
  refine (AllReadyH.cons rfl (fun K hK => ?_) (AllReadyH.cons rfl (fun K hK => ?_) AllReadyH.nil))
  · skip
    go_simp
    have nla := hS.2.2.lt
    refine held_alloc hK.out hS ?_
    clear hS hK
    intro X eX hS a
    try dsimp only [World.drew] at a nla
    clear eX
    try simp only [Act.put, List.getElem_toArray, List.getElem_cons_zero, List.getElem_cons_succ, List.setIfInBounds_toArray, List.set_cons_zero, List.set_cons_succ]
    refine wpAnyH_ready (rs := [7]) (by kernel_rfl) (by simp) ?_
    refine (AllReadyH.cons rfl (fun K hK => ?_) AllReadyH.nil)
    go_simp
    have nlb := hS.2.2.lt
    have ob := a.lt
    refine held_alloc hK.out hS ?_
    clear hS hK
    intro X eX hS b
    try dsimp only [World.drew] at b nlb
    replace a := (a.alloc _).same (X := X) (by rw [eX])
    clear eX
    try simp only [Act.put, List.getElem_toArray, List.getElem_cons_zero, List.getElem_cons_succ, List.setIfInBounds_toArray, List.set_cons_zero, List.set_cons_succ]
    refine wpAnyH_ready (rs := [8]) (by kernel_rfl) (by simp) ?_
    refine (AllReadyH.cons rfl (fun K hK => ?_) AllReadyH.nil)
    have s0 := a.at 0 _ rfl
    have q0 := a.free 0
    have s1 := a.at 1 _ rfl
    have q1 := a.free 1
    go_simp
    refine held_store2 hK.out hS a (by omega) (by omega) (by omega) ?_
    clear hS hK a s0 s1 q0 q1
    intro X eX hS a
    replace b := b.same (X := X) (by rw [eX, Below.heap_setCell _ _ _ _ (by simp; omega), Below.heap_setCell _ _ _ _ (by simp; omega)])
    clear eX
    replace a := a.is (ds := #[.int .i64 s.m0.k, .int .i64 s.m0.v]) rfl
    try simp only [Act.put, List.getElem_toArray, List.getElem_cons_zero, List.getElem_cons_succ, List.setIfInBounds_toArray, List.set_cons_zero, List.set_cons_succ]
    refine wpAnyH_ready (rs := [9]) (by kernel_rfl) (by simp) ?_
    refine (AllReadyH.cons rfl (fun K hK => ?_) AllReadyH.nil)
    have s0 := b.at 0 _ rfl
    have q0 := b.free 0
    have s1 := b.at 1 _ rfl
    have q1 := b.free 1
    go_simp
    refine held_store2 hK.out hS b (by omega) (by omega) (by omega) ?_
    clear hS hK b s0 s1 q0 q1
    intro X eX hS b
    replace a := a.same (X := X) (by rw [eX, Below.heap_setCell _ _ _ _ (by simp; omega), Below.heap_setCell _ _ _ _ (by simp; omega)])
    clear eX
    replace b := b.is (ds := #[.int .i64 s.m1.k, .int .i64 s.m1.v]) rfl
    try simp only [Act.put, List.getElem_toArray, List.getElem_cons_zero, List.getElem_cons_succ, List.setIfInBounds_toArray, List.set_cons_zero, List.set_cons_succ]
    refine wpAnyH_done (by kernel_rfl) ?_ _
    obtain ⟨hk, st, r⟩ := hS
    have c17 := st.at 17 _ rfl
    have c19 := st.at 19 _ rfl
    have c0 := st.at 0 _ rfl
    have c1 := st.at 1 _ rfl
    have a_0 := a.at 0 _ rfl
    have a_1 := a.at 1 _ rfl
    have a_l := a.lt
    have b_0 := b.at 0 _ rfl
    have b_1 := b.at 1 _ rfl
    have b_l := b.lt
    go_wp2_with fail
    refine (refUsedInl_any s room _ hA.out).mono ?_
    rintro e w1 ⟨rfl, hn⟩
    replace hk := hk.trans hn
    replace r := r.kept hn
    replace st := st.kept hn
    replace a := a.kept hn
    replace b := b.kept hn
    clear hn
    replace a_l := a.lt
    replace a_0 := a.at 0 _ rfl
    replace a_1 := a.at 1 _ rfl
    replace b_l := b.lt
    replace b_0 := b.at 0 _ rfl
    replace b_1 := b.at 1 _ rfl
    clear c17 c19 c0 c1
    go_wp2_with (refine here_load 26 _ rfl ?_; refine wpList_load_own rfl 26 _ rfl _ rfl st _ Try.underlying26 rfl (by kernel_rfl) ?_)
    go_wp2_with fail
    refine (refClampSize_any s room _ hc.out).mono ?_
    rintro e w1 ⟨rfl, hn⟩
    replace hk := hk.trans hn
    replace r := r.kept hn
    replace st := st.kept hn
    replace a := a.kept hn
    replace b := b.kept hn
    clear hn
    replace a_l := a.lt
    replace a_0 := a.at 0 _ rfl
    replace a_1 := a.at 1 _ rfl
    replace b_l := b.lt
    replace b_0 := b.at 0 _ rfl
    replace b_1 := b.at 1 _ rfl
    clear st
    have r_l := r.lt
    rcases true_first (s.m0.k == 0) with e0 | e0
    · rcases true_first (s.m1.k == 0) with e1 | e1
      · have Hs := Lib.hid (show spanS s room = (max 0 (leftS s room) / 2, sizeS s room, leftS s room - max 0 (leftS s room) / 2) from if_pos ⟨by simpa using e0, by simpa using e1⟩)
        have hb0 : -20000000 ≤ room - (s.p0.v + s.p1.v) - sizeS s room - s.m0.v - s.m1.v := by omega
        have hb1 : room - (s.p0.v + s.p1.v) - sizeS s room - s.m0.v - s.m1.v ≤ 20000000 := by omega
        rcases (by omega : (room - (s.p0.v + s.p1.v) - sizeS s room - s.m0.v - s.m1.v) / 2 < 0 ∨ (room - (s.p0.v + s.p1.v) - sizeS s room - s.m0.v - s.m1.v) / 2 = 0 ∨ 0 < (room - (s.p0.v + s.p1.v) - sizeS s room - s.m0.v - s.m1.v) / 2) with hl | hl | hl
        · skip
          go_wp2_with fail
          refine (refFloor_any _ _ _ (by omega) (by omega) (by omega) (by omega)).mono ?_
          rintro e w1 ⟨rfl, rfl⟩
          replace r_l := r.lt
          replace r_0 := r.at 0 _ rfl
          replace r_f0 := r.free 0
          replace r_1 := r.at 1 _ rfl
          replace r_f1 := r.free 1
          replace r_2 := r.at 2 _ rfl
          replace r_f2 := r.free 2
          go_wp2
          exact bodyPost_ret (v := .tuple #[.agg #[.int .i64 (0), .int .i64 (sizeS s room), .int .i64 (room - (s.p0.v + s.p1.v) - sizeS s room - s.m0.v - s.m1.v)], .int .i64 0]) (by simp [results, Try.results22, go_sem, r_0, r_1, r_2, r_l]) rfl ⟨by rw [He.out]; exact ret_spanT (by first | (rw [Hs.out]; done) | (rw [Hs.out]; simp only [F1.out, M0.out, M1.out]; done) | (rw [Hs.out]; simp only [F1.out, M0.out, M1.out]; omega)) (by first | (rw [Hs.out]; done) | (rw [Hs.out]; simp only [F1.out, M0.out, M1.out]; done) | (rw [Hs.out]; simp only [F1.out, M0.out, M1.out]; omega)) (by first | (rw [Hs.out]; done) | (rw [Hs.out]; simp only [F1.out, M0.out, M1.out]; done) | (rw [Hs.out]; simp only [F1.out, M0.out, M1.out]; omega)), by repeat (first | with_reducible exact hk | with_reducible refine Kept.alloc ?_ _ | with_reducible refine Kept.set ?_ (by first | (simp; done) | (simp; omega) | omega) _)⟩
        · skip
          go_wp2_with fail
          refine (refFloor_any _ _ _ (by omega) (by omega) (by omega) (by omega)).mono ?_
          rintro e w1 ⟨rfl, rfl⟩
          replace r_l := r.lt
          replace r_0 := r.at 0 _ rfl
          replace r_f0 := r.free 0
          replace r_1 := r.at 1 _ rfl
          replace r_f1 := r.free 1
          replace r_2 := r.at 2 _ rfl
          replace r_f2 := r.free 2
          go_wp2
          exact bodyPost_ret (v := .tuple #[.agg #[.int .i64 (0), .int .i64 (sizeS s room), .int .i64 (room - (s.p0.v + s.p1.v) - sizeS s room - s.m0.v - s.m1.v)], .int .i64 0]) (by simp [results, Try.results22, go_sem, r_0, r_1, r_2, r_l]) rfl ⟨by rw [He.out]; exact ret_spanT (by first | (rw [Hs.out]; done) | (rw [Hs.out]; simp only [F1.out, M0.out, M1.out]; done) | (rw [Hs.out]; simp only [F1.out, M0.out, M1.out]; omega)) (by first | (rw [Hs.out]; done) | (rw [Hs.out]; simp only [F1.out, M0.out, M1.out]; done) | (rw [Hs.out]; simp only [F1.out, M0.out, M1.out]; omega)) (by first | (rw [Hs.out]; done) | (rw [Hs.out]; simp only [F1.out, M0.out, M1.out]; done) | (rw [Hs.out]; simp only [F1.out, M0.out, M1.out]; omega)), by repeat (first | with_reducible exact hk | with_reducible refine Kept.alloc ?_ _ | with_reducible refine Kept.set ?_ (by first | (simp; done) | (simp; omega) | omega) _)⟩
        · skip
          go_wp2_with fail
          refine (refFloor_any _ _ _ (by omega) (by omega) (by omega) (by omega)).mono ?_
          rintro e w1 ⟨rfl, rfl⟩
          replace r_l := r.lt
          replace r_0 := r.at 0 _ rfl
          replace r_f0 := r.free 0
          replace r_1 := r.at 1 _ rfl
          replace r_f1 := r.free 1
          replace r_2 := r.at 2 _ rfl
          replace r_f2 := r.free 2
          go_wp2
          exact bodyPost_ret (v := .tuple #[.agg #[.int .i64 ((room - (s.p0.v + s.p1.v) - sizeS s room - s.m0.v - s.m1.v) / 2), .int .i64 (sizeS s room), .int .i64 (room - (s.p0.v + s.p1.v) - sizeS s room - s.m0.v - s.m1.v - (room - (s.p0.v + s.p1.v) - sizeS s room - s.m0.v - s.m1.v) / 2)], .int .i64 0]) (by simp [results, Try.results22, go_sem, r_0, r_1, r_2, r_l]) rfl ⟨by rw [He.out]; exact ret_spanT (by first | (rw [Hs.out]; done) | (rw [Hs.out]; simp only [F1.out, M0.out, M1.out]; done) | (rw [Hs.out]; simp only [F1.out, M0.out, M1.out]; omega)) (by first | (rw [Hs.out]; done) | (rw [Hs.out]; simp only [F1.out, M0.out, M1.out]; done) | (rw [Hs.out]; simp only [F1.out, M0.out, M1.out]; omega)) (by first | (rw [Hs.out]; done) | (rw [Hs.out]; simp only [F1.out, M0.out, M1.out]; done) | (rw [Hs.out]; simp only [F1.out, M0.out, M1.out]; omega)), by repeat (first | with_reducible exact hk | with_reducible refine Kept.alloc ?_ _ | with_reducible refine Kept.set ?_ (by first | (simp; done) | (simp; omega) | omega) _)⟩
      · have Hs := Lib.hid (show spanS s room = (leftS s room, sizeS s room, marS s.m1) by unfold spanS; rw [if_neg (by simp at e1; simp [e1]), if_pos (by simpa using e0)])
        replace r_l := r.lt
        replace r_0 := r.at 0 _ rfl
        replace r_f0 := r.free 0
        replace r_1 := r.at 1 _ rfl
        replace r_f1 := r.free 1
        replace r_2 := r.at 2 _ rfl
        replace r_f2 := r.free 2
        go_wp2
        exact bodyPost_ret (v := .tuple #[.agg #[.int .i64 (room - (s.p0.v + s.p1.v) - sizeS s room - s.m0.v - s.m1.v), .int .i64 (sizeS s room), .int .i64 (s.m1.v)], .int .i64 0]) (by simp [results, Try.results22, go_sem, r_0, r_1, r_2, r_l]) rfl ⟨by rw [He.out]; exact ret_spanT (by first | (rw [Hs.out]; done) | (rw [Hs.out]; simp only [F1.out, M0.out, M1.out]; done) | (rw [Hs.out]; simp only [F1.out, M0.out, M1.out]; omega)) (by first | (rw [Hs.out]; done) | (rw [Hs.out]; simp only [F1.out, M0.out, M1.out]; done) | (rw [Hs.out]; simp only [F1.out, M0.out, M1.out]; omega)) (by first | (rw [Hs.out]; done) | (rw [Hs.out]; simp only [F1.out, M0.out, M1.out]; done) | (rw [Hs.out]; simp only [F1.out, M0.out, M1.out]; omega)), by repeat (first | with_reducible exact hk | with_reducible refine Kept.alloc ?_ _ | with_reducible refine Kept.set ?_ (by first | (simp; done) | (simp; omega) | omega) _)⟩
    · have Hs := Lib.hid (show spanS s room = (marS s.m0, sizeS s room, marS s.m1 + leftS s room) by unfold spanS; rw [if_neg (by simp at e0; simp [e0]), if_neg (by simpa using e0)])
      replace r_l := r.lt
      replace r_0 := r.at 0 _ rfl
      replace r_f0 := r.free 0
      replace r_1 := r.at 1 _ rfl
      replace r_f1 := r.free 1
      replace r_2 := r.at 2 _ rfl
      replace r_f2 := r.free 2
      go_wp2
      exact bodyPost_ret (v := .tuple #[.agg #[.int .i64 (s.m0.v), .int .i64 (sizeS s room), .int .i64 (s.m1.v + (room - (s.p0.v + s.p1.v) - sizeS s room - s.m0.v - s.m1.v))], .int .i64 0]) (by simp [results, Try.results22, go_sem, r_0, r_1, r_2, r_l]) rfl ⟨by rw [He.out]; exact ret_spanT (by first | (rw [Hs.out]; done) | (rw [Hs.out]; simp only [F1.out, M0.out, M1.out]; done) | (rw [Hs.out]; simp only [F1.out, M0.out, M1.out]; omega)) (by first | (rw [Hs.out]; done) | (rw [Hs.out]; simp only [F1.out, M0.out, M1.out]; done) | (rw [Hs.out]; simp only [F1.out, M0.out, M1.out]; omega)) (by first | (rw [Hs.out]; done) | (rw [Hs.out]; simp only [F1.out, M0.out, M1.out]; done) | (rw [Hs.out]; simp only [F1.out, M0.out, M1.out]; omega)), by repeat (first | with_reducible exact hk | with_reducible refine Kept.alloc ?_ _ | with_reducible refine Kept.set ?_ (by first | (simp; done) | (simp; omega) | omega) _)⟩
  · skip
    go_simp
    have nlb := hS.2.2.lt
    refine held_alloc hK.out hS ?_
    clear hS hK
    intro X eX hS b
    try dsimp only [World.drew] at b nlb
    clear eX
    try simp only [Act.put, List.getElem_toArray, List.getElem_cons_zero, List.getElem_cons_succ, List.setIfInBounds_toArray, List.set_cons_zero, List.set_cons_succ]
    refine wpAnyH_ready (rs := [6]) (by kernel_rfl) (by simp) ?_
    refine (AllReadyH.cons rfl (fun K hK => ?_) AllReadyH.nil)
    go_simp
    have nla := hS.2.2.lt
    have oa := b.lt
    refine held_alloc hK.out hS ?_
    clear hS hK
    intro X eX hS a
    try dsimp only [World.drew] at a nla
    replace b := (b.alloc _).same (X := X) (by rw [eX])
    clear eX
    try simp only [Act.put, List.getElem_toArray, List.getElem_cons_zero, List.getElem_cons_succ, List.setIfInBounds_toArray, List.set_cons_zero, List.set_cons_succ]
    refine wpAnyH_ready (rs := [8]) (by kernel_rfl) (by simp) ?_
    refine (AllReadyH.cons rfl (fun K hK => ?_) AllReadyH.nil)
    have s0 := a.at 0 _ rfl
    have q0 := a.free 0
    have s1 := a.at 1 _ rfl
    have q1 := a.free 1
    go_simp
    refine held_store2 hK.out hS a (by omega) (by omega) (by omega) ?_
    clear hS hK a s0 s1 q0 q1
    intro X eX hS a
    replace b := b.same (X := X) (by rw [eX, Below.heap_setCell _ _ _ _ (by simp; omega), Below.heap_setCell _ _ _ _ (by simp; omega)])
    clear eX
    replace a := a.is (ds := #[.int .i64 s.m0.k, .int .i64 s.m0.v]) rfl
    try simp only [Act.put, List.getElem_toArray, List.getElem_cons_zero, List.getElem_cons_succ, List.setIfInBounds_toArray, List.set_cons_zero, List.set_cons_succ]
    refine wpAnyH_ready (rs := [9]) (by kernel_rfl) (by simp) ?_
    refine (AllReadyH.cons rfl (fun K hK => ?_) AllReadyH.nil)
    have s0 := b.at 0 _ rfl
    have q0 := b.free 0
    have s1 := b.at 1 _ rfl
    have q1 := b.free 1
    go_simp
    refine held_store2 hK.out hS b (by omega) (by omega) (by omega) ?_
    clear hS hK b s0 s1 q0 q1
    intro X eX hS b
    replace a := a.same (X := X) (by rw [eX, Below.heap_setCell _ _ _ _ (by simp; omega), Below.heap_setCell _ _ _ _ (by simp; omega)])
    clear eX
    replace b := b.is (ds := #[.int .i64 s.m1.k, .int .i64 s.m1.v]) rfl
    try simp only [Act.put, List.getElem_toArray, List.getElem_cons_zero, List.getElem_cons_succ, List.setIfInBounds_toArray, List.set_cons_zero, List.set_cons_succ]
    refine wpAnyH_done (by kernel_rfl) ?_ _
    obtain ⟨hk, st, r⟩ := hS
    have c17 := st.at 17 _ rfl
    have c19 := st.at 19 _ rfl
    have c0 := st.at 0 _ rfl
    have c1 := st.at 1 _ rfl
    have a_0 := a.at 0 _ rfl
    have a_1 := a.at 1 _ rfl
    have a_l := a.lt
    have b_0 := b.at 0 _ rfl
    have b_1 := b.at 1 _ rfl
    have b_l := b.lt
    go_wp2_with fail
    refine (refUsedInl_any s room _ hA.out).mono ?_
    rintro e w1 ⟨rfl, hn⟩
    replace hk := hk.trans hn
    replace st := st.kept hn
    replace r := r.kept hn
    replace a := a.kept hn
    replace b := b.kept hn
    clear hn
    replace a_l := a.lt
    replace a_0 := a.at 0 _ rfl
    replace a_1 := a.at 1 _ rfl
    replace b_l := b.lt
    replace b_0 := b.at 0 _ rfl
    replace b_1 := b.at 1 _ rfl
    clear c17 c19 c0 c1
    go_wp2_with (refine here_load 26 _ rfl ?_; refine wpList_load_own rfl 26 _ rfl _ rfl st _ Try.underlying26 rfl (by kernel_rfl) ?_)
    go_wp2_with fail
    refine (refClampSize_any s room _ hc.out).mono ?_
    rintro e w1 ⟨rfl, hn⟩
    replace hk := hk.trans hn
    replace st := st.kept hn
    replace r := r.kept hn
    replace a := a.kept hn
    replace b := b.kept hn
    clear hn
    replace a_l := a.lt
    replace a_0 := a.at 0 _ rfl
    replace a_1 := a.at 1 _ rfl
    replace b_l := b.lt
    replace b_0 := b.at 0 _ rfl
    replace b_1 := b.at 1 _ rfl
    clear st
    have r_l := r.lt
    rcases true_first (s.m0.k == 0) with e0 | e0
    · rcases true_first (s.m1.k == 0) with e1 | e1
      · have Hs := Lib.hid (show spanS s room = (max 0 (leftS s room) / 2, sizeS s room, leftS s room - max 0 (leftS s room) / 2) from if_pos ⟨by simpa using e0, by simpa using e1⟩)
        have hb0 : -20000000 ≤ room - (s.p0.v + s.p1.v) - sizeS s room - s.m0.v - s.m1.v := by omega
        have hb1 : room - (s.p0.v + s.p1.v) - sizeS s room - s.m0.v - s.m1.v ≤ 20000000 := by omega
        rcases (by omega : (room - (s.p0.v + s.p1.v) - sizeS s room - s.m0.v - s.m1.v) / 2 < 0 ∨ (room - (s.p0.v + s.p1.v) - sizeS s room - s.m0.v - s.m1.v) / 2 = 0 ∨ 0 < (room - (s.p0.v + s.p1.v) - sizeS s room - s.m0.v - s.m1.v) / 2) with hl | hl | hl
        · skip
          go_wp2_with fail
          refine (refFloor_any _ _ _ (by omega) (by omega) (by omega) (by omega)).mono ?_
          rintro e w1 ⟨rfl, rfl⟩
          replace r_l := r.lt
          replace r_0 := r.at 0 _ rfl
          replace r_f0 := r.free 0
          replace r_1 := r.at 1 _ rfl
          replace r_f1 := r.free 1
          replace r_2 := r.at 2 _ rfl
          replace r_f2 := r.free 2
          go_wp2
          exact bodyPost_ret (v := .tuple #[.agg #[.int .i64 (0), .int .i64 (sizeS s room), .int .i64 (room - (s.p0.v + s.p1.v) - sizeS s room - s.m0.v - s.m1.v)], .int .i64 0]) (by simp [results, Try.results22, go_sem, r_0, r_1, r_2, r_l]) rfl ⟨by rw [He.out]; exact ret_spanT (by first | (rw [Hs.out]; done) | (rw [Hs.out]; simp only [F1.out, M0.out, M1.out]; done) | (rw [Hs.out]; simp only [F1.out, M0.out, M1.out]; omega)) (by first | (rw [Hs.out]; done) | (rw [Hs.out]; simp only [F1.out, M0.out, M1.out]; done) | (rw [Hs.out]; simp only [F1.out, M0.out, M1.out]; omega)) (by first | (rw [Hs.out]; done) | (rw [Hs.out]; simp only [F1.out, M0.out, M1.out]; done) | (rw [Hs.out]; simp only [F1.out, M0.out, M1.out]; omega)), by repeat (first | with_reducible exact hk | with_reducible refine Kept.alloc ?_ _ | with_reducible refine Kept.set ?_ (by first | (simp; done) | (simp; omega) | omega) _)⟩
        · skip
          go_wp2_with fail
          refine (refFloor_any _ _ _ (by omega) (by omega) (by omega) (by omega)).mono ?_
          rintro e w1 ⟨rfl, rfl⟩
          replace r_l := r.lt
          replace r_0 := r.at 0 _ rfl
          replace r_f0 := r.free 0
          replace r_1 := r.at 1 _ rfl
          replace r_f1 := r.free 1
          replace r_2 := r.at 2 _ rfl
          replace r_f2 := r.free 2
          go_wp2
          exact bodyPost_ret (v := .tuple #[.agg #[.int .i64 (0), .int .i64 (sizeS s room), .int .i64 (room - (s.p0.v + s.p1.v) - sizeS s room - s.m0.v - s.m1.v)], .int .i64 0]) (by simp [results, Try.results22, go_sem, r_0, r_1, r_2, r_l]) rfl ⟨by rw [He.out]; exact ret_spanT (by first | (rw [Hs.out]; done) | (rw [Hs.out]; simp only [F1.out, M0.out, M1.out]; done) | (rw [Hs.out]; simp only [F1.out, M0.out, M1.out]; omega)) (by first | (rw [Hs.out]; done) | (rw [Hs.out]; simp only [F1.out, M0.out, M1.out]; done) | (rw [Hs.out]; simp only [F1.out, M0.out, M1.out]; omega)) (by first | (rw [Hs.out]; done) | (rw [Hs.out]; simp only [F1.out, M0.out, M1.out]; done) | (rw [Hs.out]; simp only [F1.out, M0.out, M1.out]; omega)), by repeat (first | with_reducible exact hk | with_reducible refine Kept.alloc ?_ _ | with_reducible refine Kept.set ?_ (by first | (simp; done) | (simp; omega) | omega) _)⟩
        · skip
          go_wp2_with fail
          refine (refFloor_any _ _ _ (by omega) (by omega) (by omega) (by omega)).mono ?_
          rintro e w1 ⟨rfl, rfl⟩
          replace r_l := r.lt
          replace r_0 := r.at 0 _ rfl
          replace r_f0 := r.free 0
          replace r_1 := r.at 1 _ rfl
          replace r_f1 := r.free 1
          replace r_2 := r.at 2 _ rfl
          replace r_f2 := r.free 2
          go_wp2
          exact bodyPost_ret (v := .tuple #[.agg #[.int .i64 ((room - (s.p0.v + s.p1.v) - sizeS s room - s.m0.v - s.m1.v) / 2), .int .i64 (sizeS s room), .int .i64 (room - (s.p0.v + s.p1.v) - sizeS s room - s.m0.v - s.m1.v - (room - (s.p0.v + s.p1.v) - sizeS s room - s.m0.v - s.m1.v) / 2)], .int .i64 0]) (by simp [results, Try.results22, go_sem, r_0, r_1, r_2, r_l]) rfl ⟨by rw [He.out]; exact ret_spanT (by first | (rw [Hs.out]; done) | (rw [Hs.out]; simp only [F1.out, M0.out, M1.out]; done) | (rw [Hs.out]; simp only [F1.out, M0.out, M1.out]; omega)) (by first | (rw [Hs.out]; done) | (rw [Hs.out]; simp only [F1.out, M0.out, M1.out]; done) | (rw [Hs.out]; simp only [F1.out, M0.out, M1.out]; omega)) (by first | (rw [Hs.out]; done) | (rw [Hs.out]; simp only [F1.out, M0.out, M1.out]; done) | (rw [Hs.out]; simp only [F1.out, M0.out, M1.out]; omega)), by repeat (first | with_reducible exact hk | with_reducible refine Kept.alloc ?_ _ | with_reducible refine Kept.set ?_ (by first | (simp; done) | (simp; omega) | omega) _)⟩
      · have Hs := Lib.hid (show spanS s room = (leftS s room, sizeS s room, marS s.m1) by unfold spanS; rw [if_neg (by simp at e1; simp [e1]), if_pos (by simpa using e0)])
        replace r_l := r.lt
        replace r_0 := r.at 0 _ rfl
        replace r_f0 := r.free 0
        replace r_1 := r.at 1 _ rfl
        replace r_f1 := r.free 1
        replace r_2 := r.at 2 _ rfl
        replace r_f2 := r.free 2
        go_wp2
        exact bodyPost_ret (v := .tuple #[.agg #[.int .i64 (room - (s.p0.v + s.p1.v) - sizeS s room - s.m0.v - s.m1.v), .int .i64 (sizeS s room), .int .i64 (s.m1.v)], .int .i64 0]) (by simp [results, Try.results22, go_sem, r_0, r_1, r_2, r_l]) rfl ⟨by rw [He.out]; exact ret_spanT (by first | (rw [Hs.out]; done) | (rw [Hs.out]; simp only [F1.out, M0.out, M1.out]; done) | (rw [Hs.out]; simp only [F1.out, M0.out, M1.out]; omega)) (by first | (rw [Hs.out]; done) | (rw [Hs.out]; simp only [F1.out, M0.out, M1.out]; done) | (rw [Hs.out]; simp only [F1.out, M0.out, M1.out]; omega)) (by first | (rw [Hs.out]; done) | (rw [Hs.out]; simp only [F1.out, M0.out, M1.out]; done) | (rw [Hs.out]; simp only [F1.out, M0.out, M1.out]; omega)), by repeat (first | with_reducible exact hk | with_reducible refine Kept.alloc ?_ _ | with_reducible refine Kept.set ?_ (by first | (simp; done) | (simp; omega) | omega) _)⟩
    · have Hs := Lib.hid (show spanS s room = (marS s.m0, sizeS s room, marS s.m1 + leftS s room) by unfold spanS; rw [if_neg (by simp at e0; simp [e0]), if_neg (by simpa using e0)])
      replace r_l := r.lt
      replace r_0 := r.at 0 _ rfl
      replace r_f0 := r.free 0
      replace r_1 := r.at 1 _ rfl
      replace r_f1 := r.free 1
      replace r_2 := r.at 2 _ rfl
      replace r_f2 := r.free 2
      go_wp2
      exact bodyPost_ret (v := .tuple #[.agg #[.int .i64 (s.m0.v), .int .i64 (sizeS s room), .int .i64 (s.m1.v + (room - (s.p0.v + s.p1.v) - sizeS s room - s.m0.v - s.m1.v))], .int .i64 0]) (by simp [results, Try.results22, go_sem, r_0, r_1, r_2, r_l]) rfl ⟨by rw [He.out]; exact ret_spanT (by first | (rw [Hs.out]; done) | (rw [Hs.out]; simp only [F1.out, M0.out, M1.out]; done) | (rw [Hs.out]; simp only [F1.out, M0.out, M1.out]; omega)) (by first | (rw [Hs.out]; done) | (rw [Hs.out]; simp only [F1.out, M0.out, M1.out]; done) | (rw [Hs.out]; simp only [F1.out, M0.out, M1.out]; omega)) (by first | (rw [Hs.out]; done) | (rw [Hs.out]; simp only [F1.out, M0.out, M1.out]; done) | (rw [Hs.out]; simp only [F1.out, M0.out, M1.out]; omega)), by repeat (first | with_reducible exact hk | with_reducible refine Kept.alloc ?_ _ | with_reducible refine Kept.set ?_ (by first | (simp; done) | (simp; omega) | omega) _)⟩

end Go.Proofs.Ytpkphohgnelajaa
