/- Layer 14: Law14Forms. -/
import Derived.Test.YtpkphohgnelajaaSpan14
import Derived.Test.YtpkphohgnelajaaMask
import Derived.Test.YtpkphohgnelajaaHeld
namespace Go.Proofs.Ytpkphohgnelajaa
open Go.RowKit
set_option linter.unusedSimpArgs false
set_option linter.unusedVariables false
set_option maxHeartbeats 8000000
set_option maxRecDepth 20000
/-- in a drawn region: a block is made, whatever holds -/
theorem held_new {S : World → Prop} {W : World} {v : TypeId} {es : Array Value} {K : Act → World → Prop} {G : Act → World → Prop} {a : Act}
    (hK : ∀ (a : Act) (X : World), S X → (S X → G a X) → K a X) (hS : S (W.alloc (.cells es v)))
    (h : ∀ X, X = W.alloc (.cells es v) → S X → Own X W.heap.size v es → G a X) : K a (W.alloc (.cells es v)) :=
  hK a _ hS fun h2 => h _ rfl h2 (Own.new _ _ _)
theorem held_put3 {w W : World} {t v : TypeId} {cs es : Array Value} {m k : Nat} {x y z : Value} {K : Act → World → Prop} {G : Act → World → Prop} {a : Act}
    (hK : ∀ (a : Act) (X : World), (Kept w X ∧ Own X m t cs) → ((Kept w X ∧ Own X m t cs) → G a X) → K a X) (hS : Kept w W ∧ Own W m t cs)
    (sp : Own W k v es) (hk : w.heap.size ≤ k) (hm : m ≠ k)
    (h : ∀ X, (Kept w X ∧ Own X m t cs) → Own X k v (((es.setIfInBounds 0 x).setIfInBounds 1 y).setIfInBounds 2 z) → G a X) :
    K a (((W.setCell ⟨k, 0, none⟩ x).setCell ⟨k, 1, none⟩ y).setCell ⟨k, 2, none⟩ z) :=
  hK a _ ⟨((hS.1.set hk _).set hk _).set hk _, ((hS.2.other hm _).other hm _).other hm _⟩ fun h2 => h _ h2 (((sp.set 0 x).set 1 y).set 2 z)
def badE (d : Int) : Sty := ⟨⟨0, 0⟩, ⟨0, 0⟩, ⟨1, 0⟩, ⟨0, 0⟩, ⟨1, 0⟩, ⟨1, 0⟩, ⟨1, 0⟩, ⟨1, 0⟩, ⟨1, 0⟩, ⟨1, 0⟩, ⟨1, 0⟩, ⟨1, 0⟩, ⟨0, 0⟩, (-(1 + d)), 1, 0, 0, 0, false⟩
theorem equationForms_0 (which x d : Int) (w : World) (hq : bits .and .i64 which 1 = 0) (hd : bits .and .i64 x 1023 = d) (d0 : 0 ≤ d) (d1 : d ≤ 1023) :
    Calls Try.prog 10 #[.int .i64 which, .int .i64 x] w fun e w' => e = .returned (.bool true) ∧ Kept w w' := by
  have hm : mayS (badE d) = false := by
    rw [← ref_may]
    have e : inB 0 100 (-(1 + d)) = false := inB_false.2 (by omega)
    unfold refS badE
    simp [e]
  have h1 : eqS (badE d) 5 = ((0, 0, 0), 1400) := if_neg (by simp [hm])
  have h2 : edgeE (badE d) = 1400 := by unfold edgeE; rw [if_neg (by simp [hm])]
  have h3 : eqS newS (-(1 + d)) = ((0, 0, 0), 1400) := if_neg (by rw [inB_false.2 (.inl (by omega))]; simp)
  clear hm
  have hw1 : IntKind.i64.wrap (-(1 + d)) = -(1 + d) := by rw [IntKind.wrap_i64]; omega
  have hw2 : IntKind.i64.wrap (4194304 + (1 + d)) = 4194304 + (1 + d) := by rw [IntKind.wrap_i64]; omega
  have hk : Kept w w := Kept.refl w
  go_enter Try.func10, Try.ntmps10
  go_wp2_with fail
  refine (awake14_any _).mono ?_
  rintro e w1 ⟨rfl, hn⟩
  replace hk := hk.trans hn
  clear hn
  go_wp2_with fail
  refine (newStyle_lit _).mono ?_
  rintro e w1 ⟨rfl, hn⟩
  replace hk := hk.trans hn
  clear hn
  go_wp2_with (first | (refine here_store 26 _ _ rfl ?_; refine wpList_store_own rfl 26 _ _ rfl _ _ rfl rfl (Own.new _ _ _) (by rfl) (by kernel_rfl) (by rfl) ?_; intro X s hoX hkX; have hsz := hk.size; replace hk := hkX _ (hk.alloc _) (by first | omega | (simp; omega)); clear hoX hkX; have cs26 := s.at 26 _ rfl; have fs26 := s.free 26) | (refine here_load 26 _ rfl ?_; refine wpList_load_own rfl 26 _ rfl _ rfl (s.set 26 _) _ Try.underlying26 rfl (by kernel_rfl) ?_))
  go_wp2_with fail
  refine with_eq ?_
  intro X eX
  have hsz := hk.size
  replace hk := (eX ▸ (by first | ((repeat (first | with_reducible exact hk | with_reducible refine Kept.alloc ?_ _ | with_reducible refine Kept.drew ?_ | with_reducible refine Kept.drewN ?_ _ | with_reducible refine Kept.set ?_ (by first | (simp; done) | (simp; omega) | omega) _)); done) | exact hk | exact (hk.alloc _) | exact ((hk.alloc _).alloc _) | exact (((hk.alloc _).alloc _).alloc _) | exact ((((hk.alloc _).alloc _).alloc _).alloc _) | exact (((((hk.alloc _).alloc _).alloc _).alloc _).alloc _) | exact ((((((hk.alloc _).alloc _).alloc _).alloc _).alloc _).alloc _) | (repeat (first | exact hk | refine Kept.alloc ?_ _ | refine Kept.drew ?_ | refine Kept.drewN ?_ _ | refine Kept.set ?_ (by first | (simp; done) | (simp; omega) | omega) _))) : Kept w X)
  replace s : Own X _ _ #[.int .i64 0, .int .i64 0, .int .i64 0, .int .i64 0, .int .i64 1, .int .i64 0, .int .i64 0, .int .i64 0, .int .i64 1, .int .i64 0, .int .i64 1, .int .i64 0, .int .i64 1, .int .i64 0, .int .i64 1, .int .i64 0, .int .i64 1, .int .i64 0, .int .i64 1, .int .i64 0, .int .i64 1, .int .i64 0, .int .i64 1, .int .i64 0, .int .i64 0, .int .i64 0, .int .i64 (-(1 + d)), .int .i64 1, .int .i64 0, .int .i64 0, .int .i64 0, .bool false] := eX ▸ (((s.set 26 _)).is (by rfl))
  clear eX
  clear fs26 cs26
  go_wp2_with fail
  refine (eqBlock_any (badE d) 5 _).mono ?_
  rintro e w1 ⟨rfl, hn⟩
  replace hk := hk.trans hn
  replace s := s.kept hn
  clear hn
  go_wp2_with (refine here_load 26 _ rfl ?_; refine wpList_load_own rfl 26 _ rfl _ rfl (Own.alloc s _) _ Try.underlying26 rfl (by kernel_rfl) ?_)
  go_wp2_with fail
  refine with_boxes1 ?_
  intro X hX a
  have hsz := hk.size
  replace hk := hk.trans hX
  replace s := s.kept hX
  clear hX
  replace a_l := a.lt
  replace a_0 := a.at 0 _ rfl
  replace a_1 := a.at 1 _ rfl
  replace a_2 := a.at 2 _ rfl
  refine (eqEdges_any (badE d) _).mono ?_
  rintro e w1 ⟨v, rfl, hv, hn⟩
  replace hk := hk.trans hn
  replace s := s.kept hn
  replace a := a.kept hn
  clear hn
  replace a_l := a.lt
  replace a_0 := a.at 0 _ rfl
  replace a_1 := a.at 1 _ rfl
  replace a_2 := a.at 2 _ rfl
  clear s
  clear hv
  go_wp2_with fail
  refine wp_region_held_drew (S := fun W => Kept w W ∧ Own W _ 43 #[.int .i64 0, .int .i64 0, .int .i64 0]) (by kernel_rfl) (⟨hk.drew, a.drew⟩) (fun hS => ?_)
  have agt := hk.size
  clear hk a a_l a_0 a_1 a_2
  refine wpAnyH_take (i := 1) (v := ?_) rfl (by kernel_rfl) (by kernel_rfl) (by kernel_rfl) (fun _ _ _ h => h) (Or.inl ⟨by rfl, ?_⟩) (by assumption) ?_
  rotate_left
  · intro W hSW; (try dsimp only at hSW); go_simp; (first | done | with_reducible rfl)
  simp only [Act.put, List.getElem_toArray, List.getElem_cons_zero, List.getElem_cons_succ, List.setIfInBounds_toArray, List.set_cons_zero, List.set_cons_succ]
  refine wpAnyH_take (i := 2) (v := ?_) rfl (by kernel_rfl) (by kernel_rfl) (by kernel_rfl) (fun _ _ _ h => h) (Or.inl ⟨by rfl, ?_⟩) (by assumption) ?_
  rotate_left
  · intro W hSW; (try dsimp only at hSW); go_simp; (first | done | with_reducible rfl)
  simp only [Act.put, List.getElem_toArray, List.getElem_cons_zero, List.getElem_cons_succ, List.setIfInBounds_toArray, List.set_cons_zero, List.set_cons_succ]
  refine wpAnyH_take (i := 3) (v := ?_) rfl (by kernel_rfl) (by kernel_rfl) (by kernel_rfl) (fun _ _ _ h => h) (Or.inl ⟨by rfl, ?_⟩) (by assumption) ?_
  rotate_left
  · intro W hSW; (try dsimp only at hSW); go_simp; (first | done | with_reducible rfl)
  simp only [Act.put, List.getElem_toArray, List.getElem_cons_zero, List.getElem_cons_succ, List.setIfInBounds_toArray, List.set_cons_zero, List.set_cons_succ]
  refine wpAnyH_take (i := 4) (v := ?_) rfl (by kernel_rfl) (by kernel_rfl) (by kernel_rfl) (fun _ _ _ h => h) (Or.inl ⟨by rfl, ?_⟩) (by assumption) ?_
  rotate_left
  · intro W hSW; (try dsimp only at hSW); go_simp; (first | done | with_reducible rfl)
  simp only [Act.put, List.getElem_toArray, List.getElem_cons_zero, List.getElem_cons_succ, List.setIfInBounds_toArray, List.set_cons_zero, List.set_cons_succ]
  refine wpAnyH_take (i := 6) (v := ?_) rfl (by kernel_rfl) (by kernel_rfl) (by kernel_rfl) (fun _ _ _ h => h) (Or.inl ⟨by rfl, ?_⟩) (by assumption) ?_
  rotate_left
  · intro W hSW; (try dsimp only at hSW); go_simp; (first | done | with_reducible rfl)
  simp only [Act.put, List.getElem_toArray, List.getElem_cons_zero, List.getElem_cons_succ, List.setIfInBounds_toArray, List.set_cons_zero, List.set_cons_succ]
  refine wpAnyH_take (i := 7) (v := ?_) rfl (by kernel_rfl) (by kernel_rfl) (by kernel_rfl) (fun _ _ _ h => h) (Or.inl ⟨by rfl, ?_⟩) (by assumption) ?_
  rotate_left
  · intro W hSW; (try dsimp only at hSW); go_simp; (first | done | with_reducible rfl)
  simp only [Act.put, List.getElem_toArray, List.getElem_cons_zero, List.getElem_cons_succ, List.setIfInBounds_toArray, List.set_cons_zero, List.set_cons_succ]
  refine wpAnyH_ready (rs := [0, 5, 14]) (by kernel_rfl) (by simp) ?_
  refine (AllReadyH.cons rfl (fun K hK => ?_) (AllReadyH.cons rfl (fun K hK => ?_) (AllReadyH.cons rfl (fun K hK => ?_) AllReadyH.nil)))
  · skip
    go_simp
    refine (newStyle_lit _).mono ?_
    rintro e w3 ⟨rfl, hn⟩
    refine hK.out _ _ (⟨hS.1.trans hn, hS.2.kept hn⟩) (fun hS2 => ?_)
    clear hS hK
    have hS := hS2
    clear hS2
    try simp only [Act.put, List.getElem_toArray, List.getElem_cons_zero, List.getElem_cons_succ, List.setIfInBounds_toArray, List.set_cons_zero, List.set_cons_succ]
    refine wpAnyH_ready (rs := [5, 14]) (by kernel_rfl) (by simp) ?_
    refine (AllReadyH.cons rfl (fun K hK => ?_) (AllReadyH.cons rfl (fun K hK => ?_) AllReadyH.nil))
    · skip
      go_simp
      refine held_new hK.out ⟨hS.1.alloc _, hS.2.alloc _⟩ ?_
      intro X eX hS2 nb
      clear hS hK
      have hS := hS2
      clear hS2
      try dsimp only [World.drew] at nb
      clear eX
      try simp only [Act.put, List.getElem_toArray, List.getElem_cons_zero, List.getElem_cons_succ, List.setIfInBounds_toArray, List.set_cons_zero, List.set_cons_succ]
      refine wpAnyH_take (i := 8) (v := ?_) rfl (by kernel_rfl) (by kernel_rfl) (by kernel_rfl) (fun _ _ _ h => h) (Or.inl ⟨by rfl, ?_⟩) (by assumption) ?_
      rotate_left
      · intro W hSW; (try dsimp only at hSW); go_simp; (first | done | with_reducible rfl)
      simp only [Act.put, List.getElem_toArray, List.getElem_cons_zero, List.getElem_cons_succ, List.setIfInBounds_toArray, List.set_cons_zero, List.set_cons_succ]
      refine wpAnyH_ready (rs := [9, 14]) (by kernel_rfl) (by simp) ?_
      refine (AllReadyH.cons rfl (fun K hK => ?_) (AllReadyH.cons rfl (fun K hK => ?_) AllReadyH.nil))
      · skip
        have nb0 := nb.at 0 _ rfl
        have nb1 := nb.at 1 _ rfl
        go_simp
        clear nb0 nb1 nb
        refine hK.out _ _ (hS) (fun hS2 => ?_)
        clear hS hK
        have hS := hS2
        clear hS2
        try simp only [Act.put, List.getElem_toArray, List.getElem_cons_zero, List.getElem_cons_succ, List.setIfInBounds_toArray, List.set_cons_zero, List.set_cons_succ]
        refine wpAnyH_ready (rs := [10, 14]) (by kernel_rfl) (by simp) ?_
        refine (AllReadyH.cons rfl (fun K hK => ?_) (AllReadyH.cons rfl (fun K hK => ?_) AllReadyH.nil))
        · skip
          go_simp
          refine (eqBlock_any newS (-(1 + d)) _).mono ?_
          rintro e w3 ⟨rfl, hn⟩
          refine hK.out _ _ (⟨hS.1.trans hn, hS.2.kept hn⟩) (fun hS2 => ?_)
          clear hS hK
          have hS := hS2
          clear hS2
          try simp only [Act.put, List.getElem_toArray, List.getElem_cons_zero, List.getElem_cons_succ, List.setIfInBounds_toArray, List.set_cons_zero, List.set_cons_succ]
          refine wpAnyH_take (i := 11) (v := ?_) rfl (by kernel_rfl) (by kernel_rfl) (by kernel_rfl) (fun _ _ _ h => h) (Or.inl ⟨by rfl, ?_⟩) (by assumption) ?_
          rotate_left
          · intro W hSW; (try dsimp only at hSW); go_simp; (first | done | with_reducible rfl)
          simp only [Act.put, List.getElem_toArray, List.getElem_cons_zero, List.getElem_cons_succ, List.setIfInBounds_toArray, List.set_cons_zero, List.set_cons_succ]
          refine wpAnyH_take (i := 12) (v := ?_) rfl (by kernel_rfl) (by kernel_rfl) (by kernel_rfl) (fun _ _ _ h => h) (Or.inl ⟨by rfl, ?_⟩) (by assumption) ?_
          rotate_left
          · intro W hSW; (try dsimp only at hSW); go_simp; (first | done | with_reducible rfl)
          simp only [Act.put, List.getElem_toArray, List.getElem_cons_zero, List.getElem_cons_succ, List.setIfInBounds_toArray, List.set_cons_zero, List.set_cons_succ]
          refine wpAnyH_take (i := 13) (v := ?_) rfl (by kernel_rfl) (by kernel_rfl) (by kernel_rfl) (fun _ _ _ h => h) (Or.inl ⟨by rfl, ?_⟩) (by assumption) ?_
          rotate_left
          · intro W hSW; (try dsimp only at hSW); go_simp; (first | done | with_reducible rfl)
          simp only [Act.put, List.getElem_toArray, List.getElem_cons_zero, List.getElem_cons_succ, List.setIfInBounds_toArray, List.set_cons_zero, List.set_cons_succ]
          refine wpAnyH_ready (rs := [14]) (by kernel_rfl) (by simp) ?_
          refine (AllReadyH.cons rfl (fun K hK => ?_) AllReadyH.nil)
          have al := hS.2.lt
          have al2 := hS.1.size
          try dsimp only [World.drew] at al al2
          go_simp
          refine held_new hK.out ⟨hS.1.alloc _, hS.2.alloc _⟩ ?_
          intro X eX hS2 sp
          clear hS hK
          have hS := hS2
          clear hS2
          try dsimp only [World.drew] at sp
          clear eX
          try simp only [Act.put, List.getElem_toArray, List.getElem_cons_zero, List.getElem_cons_succ, List.setIfInBounds_toArray, List.set_cons_zero, List.set_cons_succ]
          refine wpAnyH_ready (rs := [15]) (by kernel_rfl) (by simp) ?_
          refine (AllReadyH.cons rfl (fun K hK => ?_) AllReadyH.nil)
          have s0 := sp.at 0 _ rfl
          have q0 := sp.free 0
          have s1 := sp.at 1 _ rfl
          have q1 := sp.free 1
          have s2 := sp.at 2 _ rfl
          have q2 := sp.free 2
          go_simp
          refine held_put3 hK.out hS sp ?_ ?_ ?_
          · omega
          · omega
          clear hS hK sp s0 s1 s2 q0 q1 q2
          intro X hS sp
          replace sp := sp.is (ds := #[.int .i64 0, .int .i64 0, .int .i64 0]) rfl
          try simp only [Act.put, List.getElem_toArray, List.getElem_cons_zero, List.getElem_cons_succ, List.setIfInBounds_toArray, List.set_cons_zero, List.set_cons_succ]
          refine wpAnyH_take (i := 16) (v := ?_) rfl (by kernel_rfl) (by kernel_rfl) (by kernel_rfl) (fun _ _ _ h => h) (Or.inl ⟨by rfl, ?_⟩) (by assumption) ?_
          rotate_left
          · intro W hSW; (try dsimp only at hSW); go_simp; (first | done | with_reducible rfl)
          simp only [Act.put, List.getElem_toArray, List.getElem_cons_zero, List.getElem_cons_succ, List.setIfInBounds_toArray, List.set_cons_zero, List.set_cons_succ]
          refine wpAnyH_done (by kernel_rfl) ?_ _
          obtain ⟨hk, a⟩ := hS
          have a0' := a.at 0 _ rfl
          have a1' := a.at 1 _ rfl
          have a2' := a.at 2 _ rfl
          have s0' := sp.at 0 _ rfl
          have s1' := sp.at 1 _ rfl
          have s2' := sp.at 2 _ rfl
          go_wp2_with (first | (go_at_call 17; refine (num_any _ _).mono ?_; rintro e w4 ⟨rfl, rfl⟩) | fail)
          go_ret
          exact ⟨rfl, hk⟩
        · skip
          have al := hS.2.lt
          have al2 := hS.1.size
          try dsimp only [World.drew] at al al2
          go_simp
          refine held_new hK.out ⟨hS.1.alloc _, hS.2.alloc _⟩ ?_
          intro X eX hS2 sp
          clear hS hK
          have hS := hS2
          clear hS2
          try dsimp only [World.drew] at sp
          clear eX
          try simp only [Act.put, List.getElem_toArray, List.getElem_cons_zero, List.getElem_cons_succ, List.setIfInBounds_toArray, List.set_cons_zero, List.set_cons_succ]
          refine wpAnyH_ready (rs := [10]) (by kernel_rfl) (by simp) ?_
          refine (AllReadyH.cons rfl (fun K hK => ?_) AllReadyH.nil)
          go_simp
          refine (eqBlock_any newS (-(1 + d)) _).mono ?_
          rintro e w3 ⟨rfl, hn⟩
          replace sp := sp.kept hn
          refine hK.out _ _ (⟨hS.1.trans hn, hS.2.kept hn⟩) (fun hS2 => ?_)
          clear hS hK
          have hS := hS2
          clear hS2
          try simp only [Act.put, List.getElem_toArray, List.getElem_cons_zero, List.getElem_cons_succ, List.setIfInBounds_toArray, List.set_cons_zero, List.set_cons_succ]
          refine wpAnyH_take (i := 11) (v := ?_) rfl (by kernel_rfl) (by kernel_rfl) (by kernel_rfl) (fun _ _ _ h => h) (Or.inl ⟨by rfl, ?_⟩) (by assumption) ?_
          rotate_left
          · intro W hSW; (try dsimp only at hSW); go_simp; (first | done | with_reducible rfl)
          simp only [Act.put, List.getElem_toArray, List.getElem_cons_zero, List.getElem_cons_succ, List.setIfInBounds_toArray, List.set_cons_zero, List.set_cons_succ]
          refine wpAnyH_take (i := 12) (v := ?_) rfl (by kernel_rfl) (by kernel_rfl) (by kernel_rfl) (fun _ _ _ h => h) (Or.inl ⟨by rfl, ?_⟩) (by assumption) ?_
          rotate_left
          · intro W hSW; (try dsimp only at hSW); go_simp; (first | done | with_reducible rfl)
          simp only [Act.put, List.getElem_toArray, List.getElem_cons_zero, List.getElem_cons_succ, List.setIfInBounds_toArray, List.set_cons_zero, List.set_cons_succ]
          refine wpAnyH_take (i := 13) (v := ?_) rfl (by kernel_rfl) (by kernel_rfl) (by kernel_rfl) (fun _ _ _ h => h) (Or.inl ⟨by rfl, ?_⟩) (by assumption) ?_
          rotate_left
          · intro W hSW; (try dsimp only at hSW); go_simp; (first | done | with_reducible rfl)
          simp only [Act.put, List.getElem_toArray, List.getElem_cons_zero, List.getElem_cons_succ, List.setIfInBounds_toArray, List.set_cons_zero, List.set_cons_succ]
          refine wpAnyH_ready (rs := [15]) (by kernel_rfl) (by simp) ?_
          refine (AllReadyH.cons rfl (fun K hK => ?_) AllReadyH.nil)
          have s0 := sp.at 0 _ rfl
          have q0 := sp.free 0
          have s1 := sp.at 1 _ rfl
          have q1 := sp.free 1
          have s2 := sp.at 2 _ rfl
          have q2 := sp.free 2
          go_simp
          refine held_put3 hK.out hS sp ?_ ?_ ?_
          · omega
          · omega
          clear hS hK sp s0 s1 s2 q0 q1 q2
          intro X hS sp
          replace sp := sp.is (ds := #[.int .i64 0, .int .i64 0, .int .i64 0]) rfl
          try simp only [Act.put, List.getElem_toArray, List.getElem_cons_zero, List.getElem_cons_succ, List.setIfInBounds_toArray, List.set_cons_zero, List.set_cons_succ]
          refine wpAnyH_take (i := 16) (v := ?_) rfl (by kernel_rfl) (by kernel_rfl) (by kernel_rfl) (fun _ _ _ h => h) (Or.inl ⟨by rfl, ?_⟩) (by assumption) ?_
          rotate_left
          · intro W hSW; (try dsimp only at hSW); go_simp; (first | done | with_reducible rfl)
          simp only [Act.put, List.getElem_toArray, List.getElem_cons_zero, List.getElem_cons_succ, List.setIfInBounds_toArray, List.set_cons_zero, List.set_cons_succ]
          refine wpAnyH_done (by kernel_rfl) ?_ _
          obtain ⟨hk, a⟩ := hS
          have a0' := a.at 0 _ rfl
          have a1' := a.at 1 _ rfl
          have a2' := a.at 2 _ rfl
          have s0' := sp.at 0 _ rfl
          have s1' := sp.at 1 _ rfl
          have s2' := sp.at 2 _ rfl
          go_wp2_with (first | (go_at_call 17; refine (num_any _ _).mono ?_; rintro e w4 ⟨rfl, rfl⟩) | fail)
          go_ret
          exact ⟨rfl, hk⟩
      · skip
        have al := hS.2.lt
        have al2 := hS.1.size
        try dsimp only [World.drew] at al al2
        go_simp
        refine held_new hK.out ⟨hS.1.alloc _, hS.2.alloc _⟩ ?_
        intro X eX hS2 sp
        clear hS hK
        have hS := hS2
        clear hS2
        try dsimp only [World.drew] at sp
        replace nb := (eX ▸ nb.alloc _ : Own X _ _ _)
        clear eX
        try simp only [Act.put, List.getElem_toArray, List.getElem_cons_zero, List.getElem_cons_succ, List.setIfInBounds_toArray, List.set_cons_zero, List.set_cons_succ]
        refine wpAnyH_ready (rs := [9]) (by kernel_rfl) (by simp) ?_
        refine (AllReadyH.cons rfl (fun K hK => ?_) AllReadyH.nil)
        have nb0 := nb.at 0 _ rfl
        have nb1 := nb.at 1 _ rfl
        go_simp
        clear nb0 nb1 nb
        refine hK.out _ _ (hS) (fun hS2 => ?_)
        clear hS hK
        have hS := hS2
        clear hS2
        try simp only [Act.put, List.getElem_toArray, List.getElem_cons_zero, List.getElem_cons_succ, List.setIfInBounds_toArray, List.set_cons_zero, List.set_cons_succ]
        refine wpAnyH_ready (rs := [10]) (by kernel_rfl) (by simp) ?_
        refine (AllReadyH.cons rfl (fun K hK => ?_) AllReadyH.nil)
        go_simp
        refine (eqBlock_any newS (-(1 + d)) _).mono ?_
        rintro e w3 ⟨rfl, hn⟩
        replace sp := sp.kept hn
        refine hK.out _ _ (⟨hS.1.trans hn, hS.2.kept hn⟩) (fun hS2 => ?_)
        clear hS hK
        have hS := hS2
        clear hS2
        try simp only [Act.put, List.getElem_toArray, List.getElem_cons_zero, List.getElem_cons_succ, List.setIfInBounds_toArray, List.set_cons_zero, List.set_cons_succ]
        refine wpAnyH_take (i := 11) (v := ?_) rfl (by kernel_rfl) (by kernel_rfl) (by kernel_rfl) (fun _ _ _ h => h) (Or.inl ⟨by rfl, ?_⟩) (by assumption) ?_
        rotate_left
        · intro W hSW; (try dsimp only at hSW); go_simp; (first | done | with_reducible rfl)
        simp only [Act.put, List.getElem_toArray, List.getElem_cons_zero, List.getElem_cons_succ, List.setIfInBounds_toArray, List.set_cons_zero, List.set_cons_succ]
        refine wpAnyH_take (i := 12) (v := ?_) rfl (by kernel_rfl) (by kernel_rfl) (by kernel_rfl) (fun _ _ _ h => h) (Or.inl ⟨by rfl, ?_⟩) (by assumption) ?_
        rotate_left
        · intro W hSW; (try dsimp only at hSW); go_simp; (first | done | with_reducible rfl)
        simp only [Act.put, List.getElem_toArray, List.getElem_cons_zero, List.getElem_cons_succ, List.setIfInBounds_toArray, List.set_cons_zero, List.set_cons_succ]
        refine wpAnyH_take (i := 13) (v := ?_) rfl (by kernel_rfl) (by kernel_rfl) (by kernel_rfl) (fun _ _ _ h => h) (Or.inl ⟨by rfl, ?_⟩) (by assumption) ?_
        rotate_left
        · intro W hSW; (try dsimp only at hSW); go_simp; (first | done | with_reducible rfl)
        simp only [Act.put, List.getElem_toArray, List.getElem_cons_zero, List.getElem_cons_succ, List.setIfInBounds_toArray, List.set_cons_zero, List.set_cons_succ]
        refine wpAnyH_ready (rs := [15]) (by kernel_rfl) (by simp) ?_
        refine (AllReadyH.cons rfl (fun K hK => ?_) AllReadyH.nil)
        have s0 := sp.at 0 _ rfl
        have q0 := sp.free 0
        have s1 := sp.at 1 _ rfl
        have q1 := sp.free 1
        have s2 := sp.at 2 _ rfl
        have q2 := sp.free 2
        go_simp
        refine held_put3 hK.out hS sp ?_ ?_ ?_
        · omega
        · omega
        clear hS hK sp s0 s1 s2 q0 q1 q2
        intro X hS sp
        replace sp := sp.is (ds := #[.int .i64 0, .int .i64 0, .int .i64 0]) rfl
        try simp only [Act.put, List.getElem_toArray, List.getElem_cons_zero, List.getElem_cons_succ, List.setIfInBounds_toArray, List.set_cons_zero, List.set_cons_succ]
        refine wpAnyH_take (i := 16) (v := ?_) rfl (by kernel_rfl) (by kernel_rfl) (by kernel_rfl) (fun _ _ _ h => h) (Or.inl ⟨by rfl, ?_⟩) (by assumption) ?_
        rotate_left
        · intro W hSW; (try dsimp only at hSW); go_simp; (first | done | with_reducible rfl)
        simp only [Act.put, List.getElem_toArray, List.getElem_cons_zero, List.getElem_cons_succ, List.setIfInBounds_toArray, List.set_cons_zero, List.set_cons_succ]
        refine wpAnyH_done (by kernel_rfl) ?_ _
        obtain ⟨hk, a⟩ := hS
        have a0' := a.at 0 _ rfl
        have a1' := a.at 1 _ rfl
        have a2' := a.at 2 _ rfl
        have s0' := sp.at 0 _ rfl
        have s1' := sp.at 1 _ rfl
        have s2' := sp.at 2 _ rfl
        go_wp2_with (first | (go_at_call 17; refine (num_any _ _).mono ?_; rintro e w4 ⟨rfl, rfl⟩) | fail)
        go_ret
        exact ⟨rfl, hk⟩
    · skip
      have al := hS.2.lt
      have al2 := hS.1.size
      try dsimp only [World.drew] at al al2
      go_simp
      refine held_new hK.out ⟨hS.1.alloc _, hS.2.alloc _⟩ ?_
      intro X eX hS2 sp
      clear hS hK
      have hS := hS2
      clear hS2
      try dsimp only [World.drew] at sp
      clear eX
      try simp only [Act.put, List.getElem_toArray, List.getElem_cons_zero, List.getElem_cons_succ, List.setIfInBounds_toArray, List.set_cons_zero, List.set_cons_succ]
      refine wpAnyH_ready (rs := [5]) (by kernel_rfl) (by simp) ?_
      refine (AllReadyH.cons rfl (fun K hK => ?_) AllReadyH.nil)
      go_simp
      refine held_new hK.out ⟨hS.1.alloc _, hS.2.alloc _⟩ ?_
      intro X eX hS2 nb
      clear hS hK
      have hS := hS2
      clear hS2
      try dsimp only [World.drew] at nb
      replace sp := (eX ▸ sp.alloc _ : Own X _ _ _)
      clear eX
      try simp only [Act.put, List.getElem_toArray, List.getElem_cons_zero, List.getElem_cons_succ, List.setIfInBounds_toArray, List.set_cons_zero, List.set_cons_succ]
      refine wpAnyH_take (i := 8) (v := ?_) rfl (by kernel_rfl) (by kernel_rfl) (by kernel_rfl) (fun _ _ _ h => h) (Or.inl ⟨by rfl, ?_⟩) (by assumption) ?_
      rotate_left
      · intro W hSW; (try dsimp only at hSW); go_simp; (first | done | with_reducible rfl)
      simp only [Act.put, List.getElem_toArray, List.getElem_cons_zero, List.getElem_cons_succ, List.setIfInBounds_toArray, List.set_cons_zero, List.set_cons_succ]
      refine wpAnyH_ready (rs := [9]) (by kernel_rfl) (by simp) ?_
      refine (AllReadyH.cons rfl (fun K hK => ?_) AllReadyH.nil)
      have nb0 := nb.at 0 _ rfl
      have nb1 := nb.at 1 _ rfl
      go_simp
      clear nb0 nb1 nb
      refine hK.out _ _ (hS) (fun hS2 => ?_)
      clear hS hK
      have hS := hS2
      clear hS2
      try simp only [Act.put, List.getElem_toArray, List.getElem_cons_zero, List.getElem_cons_succ, List.setIfInBounds_toArray, List.set_cons_zero, List.set_cons_succ]
      refine wpAnyH_ready (rs := [10]) (by kernel_rfl) (by simp) ?_
      refine (AllReadyH.cons rfl (fun K hK => ?_) AllReadyH.nil)
      go_simp
      refine (eqBlock_any newS (-(1 + d)) _).mono ?_
      rintro e w3 ⟨rfl, hn⟩
      replace sp := sp.kept hn
      refine hK.out _ _ (⟨hS.1.trans hn, hS.2.kept hn⟩) (fun hS2 => ?_)
      clear hS hK
      have hS := hS2
      clear hS2
      try simp only [Act.put, List.getElem_toArray, List.getElem_cons_zero, List.getElem_cons_succ, List.setIfInBounds_toArray, List.set_cons_zero, List.set_cons_succ]
      refine wpAnyH_take (i := 11) (v := ?_) rfl (by kernel_rfl) (by kernel_rfl) (by kernel_rfl) (fun _ _ _ h => h) (Or.inl ⟨by rfl, ?_⟩) (by assumption) ?_
      rotate_left
      · intro W hSW; (try dsimp only at hSW); go_simp; (first | done | with_reducible rfl)
      simp only [Act.put, List.getElem_toArray, List.getElem_cons_zero, List.getElem_cons_succ, List.setIfInBounds_toArray, List.set_cons_zero, List.set_cons_succ]
      refine wpAnyH_take (i := 12) (v := ?_) rfl (by kernel_rfl) (by kernel_rfl) (by kernel_rfl) (fun _ _ _ h => h) (Or.inl ⟨by rfl, ?_⟩) (by assumption) ?_
      rotate_left
      · intro W hSW; (try dsimp only at hSW); go_simp; (first | done | with_reducible rfl)
      simp only [Act.put, List.getElem_toArray, List.getElem_cons_zero, List.getElem_cons_succ, List.setIfInBounds_toArray, List.set_cons_zero, List.set_cons_succ]
      refine wpAnyH_take (i := 13) (v := ?_) rfl (by kernel_rfl) (by kernel_rfl) (by kernel_rfl) (fun _ _ _ h => h) (Or.inl ⟨by rfl, ?_⟩) (by assumption) ?_
      rotate_left
      · intro W hSW; (try dsimp only at hSW); go_simp; (first | done | with_reducible rfl)
      simp only [Act.put, List.getElem_toArray, List.getElem_cons_zero, List.getElem_cons_succ, List.setIfInBounds_toArray, List.set_cons_zero, List.set_cons_succ]
      refine wpAnyH_ready (rs := [15]) (by kernel_rfl) (by simp) ?_
      refine (AllReadyH.cons rfl (fun K hK => ?_) AllReadyH.nil)
      have s0 := sp.at 0 _ rfl
      have q0 := sp.free 0
      have s1 := sp.at 1 _ rfl
      have q1 := sp.free 1
      have s2 := sp.at 2 _ rfl
      have q2 := sp.free 2
      go_simp
      refine held_put3 hK.out hS sp ?_ ?_ ?_
      · omega
      · omega
      clear hS hK sp s0 s1 s2 q0 q1 q2
      intro X hS sp
      replace sp := sp.is (ds := #[.int .i64 0, .int .i64 0, .int .i64 0]) rfl
      try simp only [Act.put, List.getElem_toArray, List.getElem_cons_zero, List.getElem_cons_succ, List.setIfInBounds_toArray, List.set_cons_zero, List.set_cons_succ]
      refine wpAnyH_take (i := 16) (v := ?_) rfl (by kernel_rfl) (by kernel_rfl) (by kernel_rfl) (fun _ _ _ h => h) (Or.inl ⟨by rfl, ?_⟩) (by assumption) ?_
      rotate_left
      · intro W hSW; (try dsimp only at hSW); go_simp; (first | done | with_reducible rfl)
      simp only [Act.put, List.getElem_toArray, List.getElem_cons_zero, List.getElem_cons_succ, List.setIfInBounds_toArray, List.set_cons_zero, List.set_cons_succ]
      refine wpAnyH_done (by kernel_rfl) ?_ _
      obtain ⟨hk, a⟩ := hS
      have a0' := a.at 0 _ rfl
      have a1' := a.at 1 _ rfl
      have a2' := a.at 2 _ rfl
      have s0' := sp.at 0 _ rfl
      have s1' := sp.at 1 _ rfl
      have s2' := sp.at 2 _ rfl
      go_wp2_with (first | (go_at_call 17; refine (num_any _ _).mono ?_; rintro e w4 ⟨rfl, rfl⟩) | fail)
      go_ret
      exact ⟨rfl, hk⟩
  · skip
    go_simp
    refine held_new hK.out ⟨hS.1.alloc _, hS.2.alloc _⟩ ?_
    intro X eX hS2 nb
    clear hS hK
    have hS := hS2
    clear hS2
    try dsimp only [World.drew] at nb
    clear eX
    try simp only [Act.put, List.getElem_toArray, List.getElem_cons_zero, List.getElem_cons_succ, List.setIfInBounds_toArray, List.set_cons_zero, List.set_cons_succ]
    refine wpAnyH_take (i := 8) (v := ?_) rfl (by kernel_rfl) (by kernel_rfl) (by kernel_rfl) (fun _ _ _ h => h) (Or.inl ⟨by rfl, ?_⟩) (by assumption) ?_
    rotate_left
    · intro W hSW; (try dsimp only at hSW); go_simp; (first | done | with_reducible rfl)
    simp only [Act.put, List.getElem_toArray, List.getElem_cons_zero, List.getElem_cons_succ, List.setIfInBounds_toArray, List.set_cons_zero, List.set_cons_succ]
    refine wpAnyH_ready (rs := [0, 9, 14]) (by kernel_rfl) (by simp) ?_
    refine (AllReadyH.cons rfl (fun K hK => ?_) (AllReadyH.cons rfl (fun K hK => ?_) (AllReadyH.cons rfl (fun K hK => ?_) AllReadyH.nil)))
    · skip
      go_simp
      refine (newStyle_lit _).mono ?_
      rintro e w3 ⟨rfl, hn⟩
      replace nb := nb.kept hn
      refine hK.out _ _ (⟨hS.1.trans hn, hS.2.kept hn⟩) (fun hS2 => ?_)
      clear hS hK
      have hS := hS2
      clear hS2
      try simp only [Act.put, List.getElem_toArray, List.getElem_cons_zero, List.getElem_cons_succ, List.setIfInBounds_toArray, List.set_cons_zero, List.set_cons_succ]
      refine wpAnyH_ready (rs := [9, 14]) (by kernel_rfl) (by simp) ?_
      refine (AllReadyH.cons rfl (fun K hK => ?_) (AllReadyH.cons rfl (fun K hK => ?_) AllReadyH.nil))
      · skip
        have nb0 := nb.at 0 _ rfl
        have nb1 := nb.at 1 _ rfl
        go_simp
        clear nb0 nb1 nb
        refine hK.out _ _ (hS) (fun hS2 => ?_)
        clear hS hK
        have hS := hS2
        clear hS2
        try simp only [Act.put, List.getElem_toArray, List.getElem_cons_zero, List.getElem_cons_succ, List.setIfInBounds_toArray, List.set_cons_zero, List.set_cons_succ]
        refine wpAnyH_ready (rs := [10, 14]) (by kernel_rfl) (by simp) ?_
        refine (AllReadyH.cons rfl (fun K hK => ?_) (AllReadyH.cons rfl (fun K hK => ?_) AllReadyH.nil))
        · skip
          go_simp
          refine (eqBlock_any newS (-(1 + d)) _).mono ?_
          rintro e w3 ⟨rfl, hn⟩
          refine hK.out _ _ (⟨hS.1.trans hn, hS.2.kept hn⟩) (fun hS2 => ?_)
          clear hS hK
          have hS := hS2
          clear hS2
          try simp only [Act.put, List.getElem_toArray, List.getElem_cons_zero, List.getElem_cons_succ, List.setIfInBounds_toArray, List.set_cons_zero, List.set_cons_succ]
          refine wpAnyH_take (i := 11) (v := ?_) rfl (by kernel_rfl) (by kernel_rfl) (by kernel_rfl) (fun _ _ _ h => h) (Or.inl ⟨by rfl, ?_⟩) (by assumption) ?_
          rotate_left
          · intro W hSW; (try dsimp only at hSW); go_simp; (first | done | with_reducible rfl)
          simp only [Act.put, List.getElem_toArray, List.getElem_cons_zero, List.getElem_cons_succ, List.setIfInBounds_toArray, List.set_cons_zero, List.set_cons_succ]
          refine wpAnyH_take (i := 12) (v := ?_) rfl (by kernel_rfl) (by kernel_rfl) (by kernel_rfl) (fun _ _ _ h => h) (Or.inl ⟨by rfl, ?_⟩) (by assumption) ?_
          rotate_left
          · intro W hSW; (try dsimp only at hSW); go_simp; (first | done | with_reducible rfl)
          simp only [Act.put, List.getElem_toArray, List.getElem_cons_zero, List.getElem_cons_succ, List.setIfInBounds_toArray, List.set_cons_zero, List.set_cons_succ]
          refine wpAnyH_take (i := 13) (v := ?_) rfl (by kernel_rfl) (by kernel_rfl) (by kernel_rfl) (fun _ _ _ h => h) (Or.inl ⟨by rfl, ?_⟩) (by assumption) ?_
          rotate_left
          · intro W hSW; (try dsimp only at hSW); go_simp; (first | done | with_reducible rfl)
          simp only [Act.put, List.getElem_toArray, List.getElem_cons_zero, List.getElem_cons_succ, List.setIfInBounds_toArray, List.set_cons_zero, List.set_cons_succ]
          refine wpAnyH_ready (rs := [14]) (by kernel_rfl) (by simp) ?_
          refine (AllReadyH.cons rfl (fun K hK => ?_) AllReadyH.nil)
          have al := hS.2.lt
          have al2 := hS.1.size
          try dsimp only [World.drew] at al al2
          go_simp
          refine held_new hK.out ⟨hS.1.alloc _, hS.2.alloc _⟩ ?_
          intro X eX hS2 sp
          clear hS hK
          have hS := hS2
          clear hS2
          try dsimp only [World.drew] at sp
          clear eX
          try simp only [Act.put, List.getElem_toArray, List.getElem_cons_zero, List.getElem_cons_succ, List.setIfInBounds_toArray, List.set_cons_zero, List.set_cons_succ]
          refine wpAnyH_ready (rs := [15]) (by kernel_rfl) (by simp) ?_
          refine (AllReadyH.cons rfl (fun K hK => ?_) AllReadyH.nil)
          have s0 := sp.at 0 _ rfl
          have q0 := sp.free 0
          have s1 := sp.at 1 _ rfl
          have q1 := sp.free 1
          have s2 := sp.at 2 _ rfl
          have q2 := sp.free 2
          go_simp
          refine held_put3 hK.out hS sp ?_ ?_ ?_
          · omega
          · omega
          clear hS hK sp s0 s1 s2 q0 q1 q2
          intro X hS sp
          replace sp := sp.is (ds := #[.int .i64 0, .int .i64 0, .int .i64 0]) rfl
          try simp only [Act.put, List.getElem_toArray, List.getElem_cons_zero, List.getElem_cons_succ, List.setIfInBounds_toArray, List.set_cons_zero, List.set_cons_succ]
          refine wpAnyH_take (i := 16) (v := ?_) rfl (by kernel_rfl) (by kernel_rfl) (by kernel_rfl) (fun _ _ _ h => h) (Or.inl ⟨by rfl, ?_⟩) (by assumption) ?_
          rotate_left
          · intro W hSW; (try dsimp only at hSW); go_simp; (first | done | with_reducible rfl)
          simp only [Act.put, List.getElem_toArray, List.getElem_cons_zero, List.getElem_cons_succ, List.setIfInBounds_toArray, List.set_cons_zero, List.set_cons_succ]
          refine wpAnyH_done (by kernel_rfl) ?_ _
          obtain ⟨hk, a⟩ := hS
          have a0' := a.at 0 _ rfl
          have a1' := a.at 1 _ rfl
          have a2' := a.at 2 _ rfl
          have s0' := sp.at 0 _ rfl
          have s1' := sp.at 1 _ rfl
          have s2' := sp.at 2 _ rfl
          go_wp2_with (first | (go_at_call 17; refine (num_any _ _).mono ?_; rintro e w4 ⟨rfl, rfl⟩) | fail)
          go_ret
          exact ⟨rfl, hk⟩
        · skip
          have al := hS.2.lt
          have al2 := hS.1.size
          try dsimp only [World.drew] at al al2
          go_simp
          refine held_new hK.out ⟨hS.1.alloc _, hS.2.alloc _⟩ ?_
          intro X eX hS2 sp
          clear hS hK
          have hS := hS2
          clear hS2
          try dsimp only [World.drew] at sp
          clear eX
          try simp only [Act.put, List.getElem_toArray, List.getElem_cons_zero, List.getElem_cons_succ, List.setIfInBounds_toArray, List.set_cons_zero, List.set_cons_succ]
          refine wpAnyH_ready (rs := [10]) (by kernel_rfl) (by simp) ?_
          refine (AllReadyH.cons rfl (fun K hK => ?_) AllReadyH.nil)
          go_simp
          refine (eqBlock_any newS (-(1 + d)) _).mono ?_
          rintro e w3 ⟨rfl, hn⟩
          replace sp := sp.kept hn
          refine hK.out _ _ (⟨hS.1.trans hn, hS.2.kept hn⟩) (fun hS2 => ?_)
          clear hS hK
          have hS := hS2
          clear hS2
          try simp only [Act.put, List.getElem_toArray, List.getElem_cons_zero, List.getElem_cons_succ, List.setIfInBounds_toArray, List.set_cons_zero, List.set_cons_succ]
          refine wpAnyH_take (i := 11) (v := ?_) rfl (by kernel_rfl) (by kernel_rfl) (by kernel_rfl) (fun _ _ _ h => h) (Or.inl ⟨by rfl, ?_⟩) (by assumption) ?_
          rotate_left
          · intro W hSW; (try dsimp only at hSW); go_simp; (first | done | with_reducible rfl)
          simp only [Act.put, List.getElem_toArray, List.getElem_cons_zero, List.getElem_cons_succ, List.setIfInBounds_toArray, List.set_cons_zero, List.set_cons_succ]
          refine wpAnyH_take (i := 12) (v := ?_) rfl (by kernel_rfl) (by kernel_rfl) (by kernel_rfl) (fun _ _ _ h => h) (Or.inl ⟨by rfl, ?_⟩) (by assumption) ?_
          rotate_left
          · intro W hSW; (try dsimp only at hSW); go_simp; (first | done | with_reducible rfl)
          simp only [Act.put, List.getElem_toArray, List.getElem_cons_zero, List.getElem_cons_succ, List.setIfInBounds_toArray, List.set_cons_zero, List.set_cons_succ]
          refine wpAnyH_take (i := 13) (v := ?_) rfl (by kernel_rfl) (by kernel_rfl) (by kernel_rfl) (fun _ _ _ h => h) (Or.inl ⟨by rfl, ?_⟩) (by assumption) ?_
          rotate_left
          · intro W hSW; (try dsimp only at hSW); go_simp; (first | done | with_reducible rfl)
          simp only [Act.put, List.getElem_toArray, List.getElem_cons_zero, List.getElem_cons_succ, List.setIfInBounds_toArray, List.set_cons_zero, List.set_cons_succ]
          refine wpAnyH_ready (rs := [15]) (by kernel_rfl) (by simp) ?_
          refine (AllReadyH.cons rfl (fun K hK => ?_) AllReadyH.nil)
          have s0 := sp.at 0 _ rfl
          have q0 := sp.free 0
          have s1 := sp.at 1 _ rfl
          have q1 := sp.free 1
          have s2 := sp.at 2 _ rfl
          have q2 := sp.free 2
          go_simp
          refine held_put3 hK.out hS sp ?_ ?_ ?_
          · omega
          · omega
          clear hS hK sp s0 s1 s2 q0 q1 q2
          intro X hS sp
          replace sp := sp.is (ds := #[.int .i64 0, .int .i64 0, .int .i64 0]) rfl
          try simp only [Act.put, List.getElem_toArray, List.getElem_cons_zero, List.getElem_cons_succ, List.setIfInBounds_toArray, List.set_cons_zero, List.set_cons_succ]
          refine wpAnyH_take (i := 16) (v := ?_) rfl (by kernel_rfl) (by kernel_rfl) (by kernel_rfl) (fun _ _ _ h => h) (Or.inl ⟨by rfl, ?_⟩) (by assumption) ?_
          rotate_left
          · intro W hSW; (try dsimp only at hSW); go_simp; (first | done | with_reducible rfl)
          simp only [Act.put, List.getElem_toArray, List.getElem_cons_zero, List.getElem_cons_succ, List.setIfInBounds_toArray, List.set_cons_zero, List.set_cons_succ]
          refine wpAnyH_done (by kernel_rfl) ?_ _
          obtain ⟨hk, a⟩ := hS
          have a0' := a.at 0 _ rfl
          have a1' := a.at 1 _ rfl
          have a2' := a.at 2 _ rfl
          have s0' := sp.at 0 _ rfl
          have s1' := sp.at 1 _ rfl
          have s2' := sp.at 2 _ rfl
          go_wp2_with (first | (go_at_call 17; refine (num_any _ _).mono ?_; rintro e w4 ⟨rfl, rfl⟩) | fail)
          go_ret
          exact ⟨rfl, hk⟩
      · skip
        have al := hS.2.lt
        have al2 := hS.1.size
        try dsimp only [World.drew] at al al2
        go_simp
        refine held_new hK.out ⟨hS.1.alloc _, hS.2.alloc _⟩ ?_
        intro X eX hS2 sp
        clear hS hK
        have hS := hS2
        clear hS2
        try dsimp only [World.drew] at sp
        replace nb := (eX ▸ nb.alloc _ : Own X _ _ _)
        clear eX
        try simp only [Act.put, List.getElem_toArray, List.getElem_cons_zero, List.getElem_cons_succ, List.setIfInBounds_toArray, List.set_cons_zero, List.set_cons_succ]
        refine wpAnyH_ready (rs := [9]) (by kernel_rfl) (by simp) ?_
        refine (AllReadyH.cons rfl (fun K hK => ?_) AllReadyH.nil)
        have nb0 := nb.at 0 _ rfl
        have nb1 := nb.at 1 _ rfl
        go_simp
        clear nb0 nb1 nb
        refine hK.out _ _ (hS) (fun hS2 => ?_)
        clear hS hK
        have hS := hS2
        clear hS2
        try simp only [Act.put, List.getElem_toArray, List.getElem_cons_zero, List.getElem_cons_succ, List.setIfInBounds_toArray, List.set_cons_zero, List.set_cons_succ]
        refine wpAnyH_ready (rs := [10]) (by kernel_rfl) (by simp) ?_
        refine (AllReadyH.cons rfl (fun K hK => ?_) AllReadyH.nil)
        go_simp
        refine (eqBlock_any newS (-(1 + d)) _).mono ?_
        rintro e w3 ⟨rfl, hn⟩
        replace sp := sp.kept hn
        refine hK.out _ _ (⟨hS.1.trans hn, hS.2.kept hn⟩) (fun hS2 => ?_)
        clear hS hK
        have hS := hS2
        clear hS2
        try simp only [Act.put, List.getElem_toArray, List.getElem_cons_zero, List.getElem_cons_succ, List.setIfInBounds_toArray, List.set_cons_zero, List.set_cons_succ]
        refine wpAnyH_take (i := 11) (v := ?_) rfl (by kernel_rfl) (by kernel_rfl) (by kernel_rfl) (fun _ _ _ h => h) (Or.inl ⟨by rfl, ?_⟩) (by assumption) ?_
        rotate_left
        · intro W hSW; (try dsimp only at hSW); go_simp; (first | done | with_reducible rfl)
        simp only [Act.put, List.getElem_toArray, List.getElem_cons_zero, List.getElem_cons_succ, List.setIfInBounds_toArray, List.set_cons_zero, List.set_cons_succ]
        refine wpAnyH_take (i := 12) (v := ?_) rfl (by kernel_rfl) (by kernel_rfl) (by kernel_rfl) (fun _ _ _ h => h) (Or.inl ⟨by rfl, ?_⟩) (by assumption) ?_
        rotate_left
        · intro W hSW; (try dsimp only at hSW); go_simp; (first | done | with_reducible rfl)
        simp only [Act.put, List.getElem_toArray, List.getElem_cons_zero, List.getElem_cons_succ, List.setIfInBounds_toArray, List.set_cons_zero, List.set_cons_succ]
        refine wpAnyH_take (i := 13) (v := ?_) rfl (by kernel_rfl) (by kernel_rfl) (by kernel_rfl) (fun _ _ _ h => h) (Or.inl ⟨by rfl, ?_⟩) (by assumption) ?_
        rotate_left
        · intro W hSW; (try dsimp only at hSW); go_simp; (first | done | with_reducible rfl)
        simp only [Act.put, List.getElem_toArray, List.getElem_cons_zero, List.getElem_cons_succ, List.setIfInBounds_toArray, List.set_cons_zero, List.set_cons_succ]
        refine wpAnyH_ready (rs := [15]) (by kernel_rfl) (by simp) ?_
        refine (AllReadyH.cons rfl (fun K hK => ?_) AllReadyH.nil)
        have s0 := sp.at 0 _ rfl
        have q0 := sp.free 0
        have s1 := sp.at 1 _ rfl
        have q1 := sp.free 1
        have s2 := sp.at 2 _ rfl
        have q2 := sp.free 2
        go_simp
        refine held_put3 hK.out hS sp ?_ ?_ ?_
        · omega
        · omega
        clear hS hK sp s0 s1 s2 q0 q1 q2
        intro X hS sp
        replace sp := sp.is (ds := #[.int .i64 0, .int .i64 0, .int .i64 0]) rfl
        try simp only [Act.put, List.getElem_toArray, List.getElem_cons_zero, List.getElem_cons_succ, List.setIfInBounds_toArray, List.set_cons_zero, List.set_cons_succ]
        refine wpAnyH_take (i := 16) (v := ?_) rfl (by kernel_rfl) (by kernel_rfl) (by kernel_rfl) (fun _ _ _ h => h) (Or.inl ⟨by rfl, ?_⟩) (by assumption) ?_
        rotate_left
        · intro W hSW; (try dsimp only at hSW); go_simp; (first | done | with_reducible rfl)
        simp only [Act.put, List.getElem_toArray, List.getElem_cons_zero, List.getElem_cons_succ, List.setIfInBounds_toArray, List.set_cons_zero, List.set_cons_succ]
        refine wpAnyH_done (by kernel_rfl) ?_ _
        obtain ⟨hk, a⟩ := hS
        have a0' := a.at 0 _ rfl
        have a1' := a.at 1 _ rfl
        have a2' := a.at 2 _ rfl
        have s0' := sp.at 0 _ rfl
        have s1' := sp.at 1 _ rfl
        have s2' := sp.at 2 _ rfl
        go_wp2_with (first | (go_at_call 17; refine (num_any _ _).mono ?_; rintro e w4 ⟨rfl, rfl⟩) | fail)
        go_ret
        exact ⟨rfl, hk⟩
    · skip
      have nb0 := nb.at 0 _ rfl
      have nb1 := nb.at 1 _ rfl
      go_simp
      clear nb0 nb1 nb
      refine hK.out _ _ (hS) (fun hS2 => ?_)
      clear hS hK
      have hS := hS2
      clear hS2
      try simp only [Act.put, List.getElem_toArray, List.getElem_cons_zero, List.getElem_cons_succ, List.setIfInBounds_toArray, List.set_cons_zero, List.set_cons_succ]
      refine wpAnyH_ready (rs := [0, 14]) (by kernel_rfl) (by simp) ?_
      refine (AllReadyH.cons rfl (fun K hK => ?_) (AllReadyH.cons rfl (fun K hK => ?_) AllReadyH.nil))
      · skip
        go_simp
        refine (newStyle_lit _).mono ?_
        rintro e w3 ⟨rfl, hn⟩
        refine hK.out _ _ (⟨hS.1.trans hn, hS.2.kept hn⟩) (fun hS2 => ?_)
        clear hS hK
        have hS := hS2
        clear hS2
        try simp only [Act.put, List.getElem_toArray, List.getElem_cons_zero, List.getElem_cons_succ, List.setIfInBounds_toArray, List.set_cons_zero, List.set_cons_succ]
        refine wpAnyH_ready (rs := [10, 14]) (by kernel_rfl) (by simp) ?_
        refine (AllReadyH.cons rfl (fun K hK => ?_) (AllReadyH.cons rfl (fun K hK => ?_) AllReadyH.nil))
        · skip
          go_simp
          refine (eqBlock_any newS (-(1 + d)) _).mono ?_
          rintro e w3 ⟨rfl, hn⟩
          refine hK.out _ _ (⟨hS.1.trans hn, hS.2.kept hn⟩) (fun hS2 => ?_)
          clear hS hK
          have hS := hS2
          clear hS2
          try simp only [Act.put, List.getElem_toArray, List.getElem_cons_zero, List.getElem_cons_succ, List.setIfInBounds_toArray, List.set_cons_zero, List.set_cons_succ]
          refine wpAnyH_take (i := 11) (v := ?_) rfl (by kernel_rfl) (by kernel_rfl) (by kernel_rfl) (fun _ _ _ h => h) (Or.inl ⟨by rfl, ?_⟩) (by assumption) ?_
          rotate_left
          · intro W hSW; (try dsimp only at hSW); go_simp; (first | done | with_reducible rfl)
          simp only [Act.put, List.getElem_toArray, List.getElem_cons_zero, List.getElem_cons_succ, List.setIfInBounds_toArray, List.set_cons_zero, List.set_cons_succ]
          refine wpAnyH_take (i := 12) (v := ?_) rfl (by kernel_rfl) (by kernel_rfl) (by kernel_rfl) (fun _ _ _ h => h) (Or.inl ⟨by rfl, ?_⟩) (by assumption) ?_
          rotate_left
          · intro W hSW; (try dsimp only at hSW); go_simp; (first | done | with_reducible rfl)
          simp only [Act.put, List.getElem_toArray, List.getElem_cons_zero, List.getElem_cons_succ, List.setIfInBounds_toArray, List.set_cons_zero, List.set_cons_succ]
          refine wpAnyH_take (i := 13) (v := ?_) rfl (by kernel_rfl) (by kernel_rfl) (by kernel_rfl) (fun _ _ _ h => h) (Or.inl ⟨by rfl, ?_⟩) (by assumption) ?_
          rotate_left
          · intro W hSW; (try dsimp only at hSW); go_simp; (first | done | with_reducible rfl)
          simp only [Act.put, List.getElem_toArray, List.getElem_cons_zero, List.getElem_cons_succ, List.setIfInBounds_toArray, List.set_cons_zero, List.set_cons_succ]
          refine wpAnyH_ready (rs := [14]) (by kernel_rfl) (by simp) ?_
          refine (AllReadyH.cons rfl (fun K hK => ?_) AllReadyH.nil)
          have al := hS.2.lt
          have al2 := hS.1.size
          try dsimp only [World.drew] at al al2
          go_simp
          refine held_new hK.out ⟨hS.1.alloc _, hS.2.alloc _⟩ ?_
          intro X eX hS2 sp
          clear hS hK
          have hS := hS2
          clear hS2
          try dsimp only [World.drew] at sp
          clear eX
          try simp only [Act.put, List.getElem_toArray, List.getElem_cons_zero, List.getElem_cons_succ, List.setIfInBounds_toArray, List.set_cons_zero, List.set_cons_succ]
          refine wpAnyH_ready (rs := [15]) (by kernel_rfl) (by simp) ?_
          refine (AllReadyH.cons rfl (fun K hK => ?_) AllReadyH.nil)
          have s0 := sp.at 0 _ rfl
          have q0 := sp.free 0
          have s1 := sp.at 1 _ rfl
          have q1 := sp.free 1
          have s2 := sp.at 2 _ rfl
          have q2 := sp.free 2
          go_simp
          refine held_put3 hK.out hS sp ?_ ?_ ?_
          · omega
          · omega
          clear hS hK sp s0 s1 s2 q0 q1 q2
          intro X hS sp
          replace sp := sp.is (ds := #[.int .i64 0, .int .i64 0, .int .i64 0]) rfl
          try simp only [Act.put, List.getElem_toArray, List.getElem_cons_zero, List.getElem_cons_succ, List.setIfInBounds_toArray, List.set_cons_zero, List.set_cons_succ]
          refine wpAnyH_take (i := 16) (v := ?_) rfl (by kernel_rfl) (by kernel_rfl) (by kernel_rfl) (fun _ _ _ h => h) (Or.inl ⟨by rfl, ?_⟩) (by assumption) ?_
          rotate_left
          · intro W hSW; (try dsimp only at hSW); go_simp; (first | done | with_reducible rfl)
          simp only [Act.put, List.getElem_toArray, List.getElem_cons_zero, List.getElem_cons_succ, List.setIfInBounds_toArray, List.set_cons_zero, List.set_cons_succ]
          refine wpAnyH_done (by kernel_rfl) ?_ _
          obtain ⟨hk, a⟩ := hS
          have a0' := a.at 0 _ rfl
          have a1' := a.at 1 _ rfl
          have a2' := a.at 2 _ rfl
          have s0' := sp.at 0 _ rfl
          have s1' := sp.at 1 _ rfl
          have s2' := sp.at 2 _ rfl
          go_wp2_with (first | (go_at_call 17; refine (num_any _ _).mono ?_; rintro e w4 ⟨rfl, rfl⟩) | fail)
          go_ret
          exact ⟨rfl, hk⟩
        · skip
          have al := hS.2.lt
          have al2 := hS.1.size
          try dsimp only [World.drew] at al al2
          go_simp
          refine held_new hK.out ⟨hS.1.alloc _, hS.2.alloc _⟩ ?_
          intro X eX hS2 sp
          clear hS hK
          have hS := hS2
          clear hS2
          try dsimp only [World.drew] at sp
          clear eX
          try simp only [Act.put, List.getElem_toArray, List.getElem_cons_zero, List.getElem_cons_succ, List.setIfInBounds_toArray, List.set_cons_zero, List.set_cons_succ]
          refine wpAnyH_ready (rs := [10]) (by kernel_rfl) (by simp) ?_
          refine (AllReadyH.cons rfl (fun K hK => ?_) AllReadyH.nil)
          go_simp
          refine (eqBlock_any newS (-(1 + d)) _).mono ?_
          rintro e w3 ⟨rfl, hn⟩
          replace sp := sp.kept hn
          refine hK.out _ _ (⟨hS.1.trans hn, hS.2.kept hn⟩) (fun hS2 => ?_)
          clear hS hK
          have hS := hS2
          clear hS2
          try simp only [Act.put, List.getElem_toArray, List.getElem_cons_zero, List.getElem_cons_succ, List.setIfInBounds_toArray, List.set_cons_zero, List.set_cons_succ]
          refine wpAnyH_take (i := 11) (v := ?_) rfl (by kernel_rfl) (by kernel_rfl) (by kernel_rfl) (fun _ _ _ h => h) (Or.inl ⟨by rfl, ?_⟩) (by assumption) ?_
          rotate_left
          · intro W hSW; (try dsimp only at hSW); go_simp; (first | done | with_reducible rfl)
          simp only [Act.put, List.getElem_toArray, List.getElem_cons_zero, List.getElem_cons_succ, List.setIfInBounds_toArray, List.set_cons_zero, List.set_cons_succ]
          refine wpAnyH_take (i := 12) (v := ?_) rfl (by kernel_rfl) (by kernel_rfl) (by kernel_rfl) (fun _ _ _ h => h) (Or.inl ⟨by rfl, ?_⟩) (by assumption) ?_
          rotate_left
          · intro W hSW; (try dsimp only at hSW); go_simp; (first | done | with_reducible rfl)
          simp only [Act.put, List.getElem_toArray, List.getElem_cons_zero, List.getElem_cons_succ, List.setIfInBounds_toArray, List.set_cons_zero, List.set_cons_succ]
          refine wpAnyH_take (i := 13) (v := ?_) rfl (by kernel_rfl) (by kernel_rfl) (by kernel_rfl) (fun _ _ _ h => h) (Or.inl ⟨by rfl, ?_⟩) (by assumption) ?_
          rotate_left
          · intro W hSW; (try dsimp only at hSW); go_simp; (first | done | with_reducible rfl)
          simp only [Act.put, List.getElem_toArray, List.getElem_cons_zero, List.getElem_cons_succ, List.setIfInBounds_toArray, List.set_cons_zero, List.set_cons_succ]
          refine wpAnyH_ready (rs := [15]) (by kernel_rfl) (by simp) ?_
          refine (AllReadyH.cons rfl (fun K hK => ?_) AllReadyH.nil)
          have s0 := sp.at 0 _ rfl
          have q0 := sp.free 0
          have s1 := sp.at 1 _ rfl
          have q1 := sp.free 1
          have s2 := sp.at 2 _ rfl
          have q2 := sp.free 2
          go_simp
          refine held_put3 hK.out hS sp ?_ ?_ ?_
          · omega
          · omega
          clear hS hK sp s0 s1 s2 q0 q1 q2
          intro X hS sp
          replace sp := sp.is (ds := #[.int .i64 0, .int .i64 0, .int .i64 0]) rfl
          try simp only [Act.put, List.getElem_toArray, List.getElem_cons_zero, List.getElem_cons_succ, List.setIfInBounds_toArray, List.set_cons_zero, List.set_cons_succ]
          refine wpAnyH_take (i := 16) (v := ?_) rfl (by kernel_rfl) (by kernel_rfl) (by kernel_rfl) (fun _ _ _ h => h) (Or.inl ⟨by rfl, ?_⟩) (by assumption) ?_
          rotate_left
          · intro W hSW; (try dsimp only at hSW); go_simp; (first | done | with_reducible rfl)
          simp only [Act.put, List.getElem_toArray, List.getElem_cons_zero, List.getElem_cons_succ, List.setIfInBounds_toArray, List.set_cons_zero, List.set_cons_succ]
          refine wpAnyH_done (by kernel_rfl) ?_ _
          obtain ⟨hk, a⟩ := hS
          have a0' := a.at 0 _ rfl
          have a1' := a.at 1 _ rfl
          have a2' := a.at 2 _ rfl
          have s0' := sp.at 0 _ rfl
          have s1' := sp.at 1 _ rfl
          have s2' := sp.at 2 _ rfl
          go_wp2_with (first | (go_at_call 17; refine (num_any _ _).mono ?_; rintro e w4 ⟨rfl, rfl⟩) | fail)
          go_ret
          exact ⟨rfl, hk⟩
      · skip
        have al := hS.2.lt
        have al2 := hS.1.size
        try dsimp only [World.drew] at al al2
        go_simp
        refine held_new hK.out ⟨hS.1.alloc _, hS.2.alloc _⟩ ?_
        intro X eX hS2 sp
        clear hS hK
        have hS := hS2
        clear hS2
        try dsimp only [World.drew] at sp
        clear eX
        try simp only [Act.put, List.getElem_toArray, List.getElem_cons_zero, List.getElem_cons_succ, List.setIfInBounds_toArray, List.set_cons_zero, List.set_cons_succ]
        refine wpAnyH_ready (rs := [0]) (by kernel_rfl) (by simp) ?_
        refine (AllReadyH.cons rfl (fun K hK => ?_) AllReadyH.nil)
        go_simp
        refine (newStyle_lit _).mono ?_
        rintro e w3 ⟨rfl, hn⟩
        replace sp := sp.kept hn
        refine hK.out _ _ (⟨hS.1.trans hn, hS.2.kept hn⟩) (fun hS2 => ?_)
        clear hS hK
        have hS := hS2
        clear hS2
        try simp only [Act.put, List.getElem_toArray, List.getElem_cons_zero, List.getElem_cons_succ, List.setIfInBounds_toArray, List.set_cons_zero, List.set_cons_succ]
        refine wpAnyH_ready (rs := [10]) (by kernel_rfl) (by simp) ?_
        refine (AllReadyH.cons rfl (fun K hK => ?_) AllReadyH.nil)
        go_simp
        refine (eqBlock_any newS (-(1 + d)) _).mono ?_
        rintro e w3 ⟨rfl, hn⟩
        replace sp := sp.kept hn
        refine hK.out _ _ (⟨hS.1.trans hn, hS.2.kept hn⟩) (fun hS2 => ?_)
        clear hS hK
        have hS := hS2
        clear hS2
        try simp only [Act.put, List.getElem_toArray, List.getElem_cons_zero, List.getElem_cons_succ, List.setIfInBounds_toArray, List.set_cons_zero, List.set_cons_succ]
        refine wpAnyH_take (i := 11) (v := ?_) rfl (by kernel_rfl) (by kernel_rfl) (by kernel_rfl) (fun _ _ _ h => h) (Or.inl ⟨by rfl, ?_⟩) (by assumption) ?_
        rotate_left
        · intro W hSW; (try dsimp only at hSW); go_simp; (first | done | with_reducible rfl)
        simp only [Act.put, List.getElem_toArray, List.getElem_cons_zero, List.getElem_cons_succ, List.setIfInBounds_toArray, List.set_cons_zero, List.set_cons_succ]
        refine wpAnyH_take (i := 12) (v := ?_) rfl (by kernel_rfl) (by kernel_rfl) (by kernel_rfl) (fun _ _ _ h => h) (Or.inl ⟨by rfl, ?_⟩) (by assumption) ?_
        rotate_left
        · intro W hSW; (try dsimp only at hSW); go_simp; (first | done | with_reducible rfl)
        simp only [Act.put, List.getElem_toArray, List.getElem_cons_zero, List.getElem_cons_succ, List.setIfInBounds_toArray, List.set_cons_zero, List.set_cons_succ]
        refine wpAnyH_take (i := 13) (v := ?_) rfl (by kernel_rfl) (by kernel_rfl) (by kernel_rfl) (fun _ _ _ h => h) (Or.inl ⟨by rfl, ?_⟩) (by assumption) ?_
        rotate_left
        · intro W hSW; (try dsimp only at hSW); go_simp; (first | done | with_reducible rfl)
        simp only [Act.put, List.getElem_toArray, List.getElem_cons_zero, List.getElem_cons_succ, List.setIfInBounds_toArray, List.set_cons_zero, List.set_cons_succ]
        refine wpAnyH_ready (rs := [15]) (by kernel_rfl) (by simp) ?_
        refine (AllReadyH.cons rfl (fun K hK => ?_) AllReadyH.nil)
        have s0 := sp.at 0 _ rfl
        have q0 := sp.free 0
        have s1 := sp.at 1 _ rfl
        have q1 := sp.free 1
        have s2 := sp.at 2 _ rfl
        have q2 := sp.free 2
        go_simp
        refine held_put3 hK.out hS sp ?_ ?_ ?_
        · omega
        · omega
        clear hS hK sp s0 s1 s2 q0 q1 q2
        intro X hS sp
        replace sp := sp.is (ds := #[.int .i64 0, .int .i64 0, .int .i64 0]) rfl
        try simp only [Act.put, List.getElem_toArray, List.getElem_cons_zero, List.getElem_cons_succ, List.setIfInBounds_toArray, List.set_cons_zero, List.set_cons_succ]
        refine wpAnyH_take (i := 16) (v := ?_) rfl (by kernel_rfl) (by kernel_rfl) (by kernel_rfl) (fun _ _ _ h => h) (Or.inl ⟨by rfl, ?_⟩) (by assumption) ?_
        rotate_left
        · intro W hSW; (try dsimp only at hSW); go_simp; (first | done | with_reducible rfl)
        simp only [Act.put, List.getElem_toArray, List.getElem_cons_zero, List.getElem_cons_succ, List.setIfInBounds_toArray, List.set_cons_zero, List.set_cons_succ]
        refine wpAnyH_done (by kernel_rfl) ?_ _
        obtain ⟨hk, a⟩ := hS
        have a0' := a.at 0 _ rfl
        have a1' := a.at 1 _ rfl
        have a2' := a.at 2 _ rfl
        have s0' := sp.at 0 _ rfl
        have s1' := sp.at 1 _ rfl
        have s2' := sp.at 2 _ rfl
        go_wp2_with (first | (go_at_call 17; refine (num_any _ _).mono ?_; rintro e w4 ⟨rfl, rfl⟩) | fail)
        go_ret
        exact ⟨rfl, hk⟩
    · skip
      have al := hS.2.lt
      have al2 := hS.1.size
      try dsimp only [World.drew] at al al2
      go_simp
      refine held_new hK.out ⟨hS.1.alloc _, hS.2.alloc _⟩ ?_
      intro X eX hS2 sp
      clear hS hK
      have hS := hS2
      clear hS2
      try dsimp only [World.drew] at sp
      replace nb := (eX ▸ nb.alloc _ : Own X _ _ _)
      clear eX
      try simp only [Act.put, List.getElem_toArray, List.getElem_cons_zero, List.getElem_cons_succ, List.setIfInBounds_toArray, List.set_cons_zero, List.set_cons_succ]
      refine wpAnyH_ready (rs := [0, 9]) (by kernel_rfl) (by simp) ?_
      refine (AllReadyH.cons rfl (fun K hK => ?_) (AllReadyH.cons rfl (fun K hK => ?_) AllReadyH.nil))
      · skip
        go_simp
        refine (newStyle_lit _).mono ?_
        rintro e w3 ⟨rfl, hn⟩
        replace nb := nb.kept hn
        replace sp := sp.kept hn
        refine hK.out _ _ (⟨hS.1.trans hn, hS.2.kept hn⟩) (fun hS2 => ?_)
        clear hS hK
        have hS := hS2
        clear hS2
        try simp only [Act.put, List.getElem_toArray, List.getElem_cons_zero, List.getElem_cons_succ, List.setIfInBounds_toArray, List.set_cons_zero, List.set_cons_succ]
        refine wpAnyH_ready (rs := [9]) (by kernel_rfl) (by simp) ?_
        refine (AllReadyH.cons rfl (fun K hK => ?_) AllReadyH.nil)
        have nb0 := nb.at 0 _ rfl
        have nb1 := nb.at 1 _ rfl
        go_simp
        clear nb0 nb1 nb
        refine hK.out _ _ (hS) (fun hS2 => ?_)
        clear hS hK
        have hS := hS2
        clear hS2
        try simp only [Act.put, List.getElem_toArray, List.getElem_cons_zero, List.getElem_cons_succ, List.setIfInBounds_toArray, List.set_cons_zero, List.set_cons_succ]
        refine wpAnyH_ready (rs := [10]) (by kernel_rfl) (by simp) ?_
        refine (AllReadyH.cons rfl (fun K hK => ?_) AllReadyH.nil)
        go_simp
        refine (eqBlock_any newS (-(1 + d)) _).mono ?_
        rintro e w3 ⟨rfl, hn⟩
        replace sp := sp.kept hn
        refine hK.out _ _ (⟨hS.1.trans hn, hS.2.kept hn⟩) (fun hS2 => ?_)
        clear hS hK
        have hS := hS2
        clear hS2
        try simp only [Act.put, List.getElem_toArray, List.getElem_cons_zero, List.getElem_cons_succ, List.setIfInBounds_toArray, List.set_cons_zero, List.set_cons_succ]
        refine wpAnyH_take (i := 11) (v := ?_) rfl (by kernel_rfl) (by kernel_rfl) (by kernel_rfl) (fun _ _ _ h => h) (Or.inl ⟨by rfl, ?_⟩) (by assumption) ?_
        rotate_left
        · intro W hSW; (try dsimp only at hSW); go_simp; (first | done | with_reducible rfl)
        simp only [Act.put, List.getElem_toArray, List.getElem_cons_zero, List.getElem_cons_succ, List.setIfInBounds_toArray, List.set_cons_zero, List.set_cons_succ]
        refine wpAnyH_take (i := 12) (v := ?_) rfl (by kernel_rfl) (by kernel_rfl) (by kernel_rfl) (fun _ _ _ h => h) (Or.inl ⟨by rfl, ?_⟩) (by assumption) ?_
        rotate_left
        · intro W hSW; (try dsimp only at hSW); go_simp; (first | done | with_reducible rfl)
        simp only [Act.put, List.getElem_toArray, List.getElem_cons_zero, List.getElem_cons_succ, List.setIfInBounds_toArray, List.set_cons_zero, List.set_cons_succ]
        refine wpAnyH_take (i := 13) (v := ?_) rfl (by kernel_rfl) (by kernel_rfl) (by kernel_rfl) (fun _ _ _ h => h) (Or.inl ⟨by rfl, ?_⟩) (by assumption) ?_
        rotate_left
        · intro W hSW; (try dsimp only at hSW); go_simp; (first | done | with_reducible rfl)
        simp only [Act.put, List.getElem_toArray, List.getElem_cons_zero, List.getElem_cons_succ, List.setIfInBounds_toArray, List.set_cons_zero, List.set_cons_succ]
        refine wpAnyH_ready (rs := [15]) (by kernel_rfl) (by simp) ?_
        refine (AllReadyH.cons rfl (fun K hK => ?_) AllReadyH.nil)
        have s0 := sp.at 0 _ rfl
        have q0 := sp.free 0
        have s1 := sp.at 1 _ rfl
        have q1 := sp.free 1
        have s2 := sp.at 2 _ rfl
        have q2 := sp.free 2
        go_simp
        refine held_put3 hK.out hS sp ?_ ?_ ?_
        · omega
        · omega
        clear hS hK sp s0 s1 s2 q0 q1 q2
        intro X hS sp
        replace sp := sp.is (ds := #[.int .i64 0, .int .i64 0, .int .i64 0]) rfl
        try simp only [Act.put, List.getElem_toArray, List.getElem_cons_zero, List.getElem_cons_succ, List.setIfInBounds_toArray, List.set_cons_zero, List.set_cons_succ]
        refine wpAnyH_take (i := 16) (v := ?_) rfl (by kernel_rfl) (by kernel_rfl) (by kernel_rfl) (fun _ _ _ h => h) (Or.inl ⟨by rfl, ?_⟩) (by assumption) ?_
        rotate_left
        · intro W hSW; (try dsimp only at hSW); go_simp; (first | done | with_reducible rfl)
        simp only [Act.put, List.getElem_toArray, List.getElem_cons_zero, List.getElem_cons_succ, List.setIfInBounds_toArray, List.set_cons_zero, List.set_cons_succ]
        refine wpAnyH_done (by kernel_rfl) ?_ _
        obtain ⟨hk, a⟩ := hS
        have a0' := a.at 0 _ rfl
        have a1' := a.at 1 _ rfl
        have a2' := a.at 2 _ rfl
        have s0' := sp.at 0 _ rfl
        have s1' := sp.at 1 _ rfl
        have s2' := sp.at 2 _ rfl
        go_wp2_with (first | (go_at_call 17; refine (num_any _ _).mono ?_; rintro e w4 ⟨rfl, rfl⟩) | fail)
        go_ret
        exact ⟨rfl, hk⟩
      · skip
        have nb0 := nb.at 0 _ rfl
        have nb1 := nb.at 1 _ rfl
        go_simp
        clear nb0 nb1 nb
        refine hK.out _ _ (hS) (fun hS2 => ?_)
        clear hS hK
        have hS := hS2
        clear hS2
        try simp only [Act.put, List.getElem_toArray, List.getElem_cons_zero, List.getElem_cons_succ, List.setIfInBounds_toArray, List.set_cons_zero, List.set_cons_succ]
        refine wpAnyH_ready (rs := [0]) (by kernel_rfl) (by simp) ?_
        refine (AllReadyH.cons rfl (fun K hK => ?_) AllReadyH.nil)
        go_simp
        refine (newStyle_lit _).mono ?_
        rintro e w3 ⟨rfl, hn⟩
        replace sp := sp.kept hn
        refine hK.out _ _ (⟨hS.1.trans hn, hS.2.kept hn⟩) (fun hS2 => ?_)
        clear hS hK
        have hS := hS2
        clear hS2
        try simp only [Act.put, List.getElem_toArray, List.getElem_cons_zero, List.getElem_cons_succ, List.setIfInBounds_toArray, List.set_cons_zero, List.set_cons_succ]
        refine wpAnyH_ready (rs := [10]) (by kernel_rfl) (by simp) ?_
        refine (AllReadyH.cons rfl (fun K hK => ?_) AllReadyH.nil)
        go_simp
        refine (eqBlock_any newS (-(1 + d)) _).mono ?_
        rintro e w3 ⟨rfl, hn⟩
        replace sp := sp.kept hn
        refine hK.out _ _ (⟨hS.1.trans hn, hS.2.kept hn⟩) (fun hS2 => ?_)
        clear hS hK
        have hS := hS2
        clear hS2
        try simp only [Act.put, List.getElem_toArray, List.getElem_cons_zero, List.getElem_cons_succ, List.setIfInBounds_toArray, List.set_cons_zero, List.set_cons_succ]
        refine wpAnyH_take (i := 11) (v := ?_) rfl (by kernel_rfl) (by kernel_rfl) (by kernel_rfl) (fun _ _ _ h => h) (Or.inl ⟨by rfl, ?_⟩) (by assumption) ?_
        rotate_left
        · intro W hSW; (try dsimp only at hSW); go_simp; (first | done | with_reducible rfl)
        simp only [Act.put, List.getElem_toArray, List.getElem_cons_zero, List.getElem_cons_succ, List.setIfInBounds_toArray, List.set_cons_zero, List.set_cons_succ]
        refine wpAnyH_take (i := 12) (v := ?_) rfl (by kernel_rfl) (by kernel_rfl) (by kernel_rfl) (fun _ _ _ h => h) (Or.inl ⟨by rfl, ?_⟩) (by assumption) ?_
        rotate_left
        · intro W hSW; (try dsimp only at hSW); go_simp; (first | done | with_reducible rfl)
        simp only [Act.put, List.getElem_toArray, List.getElem_cons_zero, List.getElem_cons_succ, List.setIfInBounds_toArray, List.set_cons_zero, List.set_cons_succ]
        refine wpAnyH_take (i := 13) (v := ?_) rfl (by kernel_rfl) (by kernel_rfl) (by kernel_rfl) (fun _ _ _ h => h) (Or.inl ⟨by rfl, ?_⟩) (by assumption) ?_
        rotate_left
        · intro W hSW; (try dsimp only at hSW); go_simp; (first | done | with_reducible rfl)
        simp only [Act.put, List.getElem_toArray, List.getElem_cons_zero, List.getElem_cons_succ, List.setIfInBounds_toArray, List.set_cons_zero, List.set_cons_succ]
        refine wpAnyH_ready (rs := [15]) (by kernel_rfl) (by simp) ?_
        refine (AllReadyH.cons rfl (fun K hK => ?_) AllReadyH.nil)
        have s0 := sp.at 0 _ rfl
        have q0 := sp.free 0
        have s1 := sp.at 1 _ rfl
        have q1 := sp.free 1
        have s2 := sp.at 2 _ rfl
        have q2 := sp.free 2
        go_simp
        refine held_put3 hK.out hS sp ?_ ?_ ?_
        · omega
        · omega
        clear hS hK sp s0 s1 s2 q0 q1 q2
        intro X hS sp
        replace sp := sp.is (ds := #[.int .i64 0, .int .i64 0, .int .i64 0]) rfl
        try simp only [Act.put, List.getElem_toArray, List.getElem_cons_zero, List.getElem_cons_succ, List.setIfInBounds_toArray, List.set_cons_zero, List.set_cons_succ]
        refine wpAnyH_take (i := 16) (v := ?_) rfl (by kernel_rfl) (by kernel_rfl) (by kernel_rfl) (fun _ _ _ h => h) (Or.inl ⟨by rfl, ?_⟩) (by assumption) ?_
        rotate_left
        · intro W hSW; (try dsimp only at hSW); go_simp; (first | done | with_reducible rfl)
        simp only [Act.put, List.getElem_toArray, List.getElem_cons_zero, List.getElem_cons_succ, List.setIfInBounds_toArray, List.set_cons_zero, List.set_cons_succ]
        refine wpAnyH_done (by kernel_rfl) ?_ _
        obtain ⟨hk, a⟩ := hS
        have a0' := a.at 0 _ rfl
        have a1' := a.at 1 _ rfl
        have a2' := a.at 2 _ rfl
        have s0' := sp.at 0 _ rfl
        have s1' := sp.at 1 _ rfl
        have s2' := sp.at 2 _ rfl
        go_wp2_with (first | (go_at_call 17; refine (num_any _ _).mono ?_; rintro e w4 ⟨rfl, rfl⟩) | fail)
        go_ret
        exact ⟨rfl, hk⟩
  · skip
    have al := hS.2.lt
    have al2 := hS.1.size
    try dsimp only [World.drew] at al al2
    go_simp
    refine held_new hK.out ⟨hS.1.alloc _, hS.2.alloc _⟩ ?_
    intro X eX hS2 sp
    clear hS hK
    have hS := hS2
    clear hS2
    try dsimp only [World.drew] at sp
    clear eX
    try simp only [Act.put, List.getElem_toArray, List.getElem_cons_zero, List.getElem_cons_succ, List.setIfInBounds_toArray, List.set_cons_zero, List.set_cons_succ]
    refine wpAnyH_ready (rs := [0, 5]) (by kernel_rfl) (by simp) ?_
    refine (AllReadyH.cons rfl (fun K hK => ?_) (AllReadyH.cons rfl (fun K hK => ?_) AllReadyH.nil))
    · skip
      go_simp
      refine (newStyle_lit _).mono ?_
      rintro e w3 ⟨rfl, hn⟩
      replace sp := sp.kept hn
      refine hK.out _ _ (⟨hS.1.trans hn, hS.2.kept hn⟩) (fun hS2 => ?_)
      clear hS hK
      have hS := hS2
      clear hS2
      try simp only [Act.put, List.getElem_toArray, List.getElem_cons_zero, List.getElem_cons_succ, List.setIfInBounds_toArray, List.set_cons_zero, List.set_cons_succ]
      refine wpAnyH_ready (rs := [5]) (by kernel_rfl) (by simp) ?_
      refine (AllReadyH.cons rfl (fun K hK => ?_) AllReadyH.nil)
      go_simp
      refine held_new hK.out ⟨hS.1.alloc _, hS.2.alloc _⟩ ?_
      intro X eX hS2 nb
      clear hS hK
      have hS := hS2
      clear hS2
      try dsimp only [World.drew] at nb
      replace sp := (eX ▸ sp.alloc _ : Own X _ _ _)
      clear eX
      try simp only [Act.put, List.getElem_toArray, List.getElem_cons_zero, List.getElem_cons_succ, List.setIfInBounds_toArray, List.set_cons_zero, List.set_cons_succ]
      refine wpAnyH_take (i := 8) (v := ?_) rfl (by kernel_rfl) (by kernel_rfl) (by kernel_rfl) (fun _ _ _ h => h) (Or.inl ⟨by rfl, ?_⟩) (by assumption) ?_
      rotate_left
      · intro W hSW; (try dsimp only at hSW); go_simp; (first | done | with_reducible rfl)
      simp only [Act.put, List.getElem_toArray, List.getElem_cons_zero, List.getElem_cons_succ, List.setIfInBounds_toArray, List.set_cons_zero, List.set_cons_succ]
      refine wpAnyH_ready (rs := [9]) (by kernel_rfl) (by simp) ?_
      refine (AllReadyH.cons rfl (fun K hK => ?_) AllReadyH.nil)
      have nb0 := nb.at 0 _ rfl
      have nb1 := nb.at 1 _ rfl
      go_simp
      clear nb0 nb1 nb
      refine hK.out _ _ (hS) (fun hS2 => ?_)
      clear hS hK
      have hS := hS2
      clear hS2
      try simp only [Act.put, List.getElem_toArray, List.getElem_cons_zero, List.getElem_cons_succ, List.setIfInBounds_toArray, List.set_cons_zero, List.set_cons_succ]
      refine wpAnyH_ready (rs := [10]) (by kernel_rfl) (by simp) ?_
      refine (AllReadyH.cons rfl (fun K hK => ?_) AllReadyH.nil)
      go_simp
      refine (eqBlock_any newS (-(1 + d)) _).mono ?_
      rintro e w3 ⟨rfl, hn⟩
      replace sp := sp.kept hn
      refine hK.out _ _ (⟨hS.1.trans hn, hS.2.kept hn⟩) (fun hS2 => ?_)
      clear hS hK
      have hS := hS2
      clear hS2
      try simp only [Act.put, List.getElem_toArray, List.getElem_cons_zero, List.getElem_cons_succ, List.setIfInBounds_toArray, List.set_cons_zero, List.set_cons_succ]
      refine wpAnyH_take (i := 11) (v := ?_) rfl (by kernel_rfl) (by kernel_rfl) (by kernel_rfl) (fun _ _ _ h => h) (Or.inl ⟨by rfl, ?_⟩) (by assumption) ?_
      rotate_left
      · intro W hSW; (try dsimp only at hSW); go_simp; (first | done | with_reducible rfl)
      simp only [Act.put, List.getElem_toArray, List.getElem_cons_zero, List.getElem_cons_succ, List.setIfInBounds_toArray, List.set_cons_zero, List.set_cons_succ]
      refine wpAnyH_take (i := 12) (v := ?_) rfl (by kernel_rfl) (by kernel_rfl) (by kernel_rfl) (fun _ _ _ h => h) (Or.inl ⟨by rfl, ?_⟩) (by assumption) ?_
      rotate_left
      · intro W hSW; (try dsimp only at hSW); go_simp; (first | done | with_reducible rfl)
      simp only [Act.put, List.getElem_toArray, List.getElem_cons_zero, List.getElem_cons_succ, List.setIfInBounds_toArray, List.set_cons_zero, List.set_cons_succ]
      refine wpAnyH_take (i := 13) (v := ?_) rfl (by kernel_rfl) (by kernel_rfl) (by kernel_rfl) (fun _ _ _ h => h) (Or.inl ⟨by rfl, ?_⟩) (by assumption) ?_
      rotate_left
      · intro W hSW; (try dsimp only at hSW); go_simp; (first | done | with_reducible rfl)
      simp only [Act.put, List.getElem_toArray, List.getElem_cons_zero, List.getElem_cons_succ, List.setIfInBounds_toArray, List.set_cons_zero, List.set_cons_succ]
      refine wpAnyH_ready (rs := [15]) (by kernel_rfl) (by simp) ?_
      refine (AllReadyH.cons rfl (fun K hK => ?_) AllReadyH.nil)
      have s0 := sp.at 0 _ rfl
      have q0 := sp.free 0
      have s1 := sp.at 1 _ rfl
      have q1 := sp.free 1
      have s2 := sp.at 2 _ rfl
      have q2 := sp.free 2
      go_simp
      refine held_put3 hK.out hS sp ?_ ?_ ?_
      · omega
      · omega
      clear hS hK sp s0 s1 s2 q0 q1 q2
      intro X hS sp
      replace sp := sp.is (ds := #[.int .i64 0, .int .i64 0, .int .i64 0]) rfl
      try simp only [Act.put, List.getElem_toArray, List.getElem_cons_zero, List.getElem_cons_succ, List.setIfInBounds_toArray, List.set_cons_zero, List.set_cons_succ]
      refine wpAnyH_take (i := 16) (v := ?_) rfl (by kernel_rfl) (by kernel_rfl) (by kernel_rfl) (fun _ _ _ h => h) (Or.inl ⟨by rfl, ?_⟩) (by assumption) ?_
      rotate_left
      · intro W hSW; (try dsimp only at hSW); go_simp; (first | done | with_reducible rfl)
      simp only [Act.put, List.getElem_toArray, List.getElem_cons_zero, List.getElem_cons_succ, List.setIfInBounds_toArray, List.set_cons_zero, List.set_cons_succ]
      refine wpAnyH_done (by kernel_rfl) ?_ _
      obtain ⟨hk, a⟩ := hS
      have a0' := a.at 0 _ rfl
      have a1' := a.at 1 _ rfl
      have a2' := a.at 2 _ rfl
      have s0' := sp.at 0 _ rfl
      have s1' := sp.at 1 _ rfl
      have s2' := sp.at 2 _ rfl
      go_wp2_with (first | (go_at_call 17; refine (num_any _ _).mono ?_; rintro e w4 ⟨rfl, rfl⟩) | fail)
      go_ret
      exact ⟨rfl, hk⟩
    · skip
      go_simp
      refine held_new hK.out ⟨hS.1.alloc _, hS.2.alloc _⟩ ?_
      intro X eX hS2 nb
      clear hS hK
      have hS := hS2
      clear hS2
      try dsimp only [World.drew] at nb
      replace sp := (eX ▸ sp.alloc _ : Own X _ _ _)
      clear eX
      try simp only [Act.put, List.getElem_toArray, List.getElem_cons_zero, List.getElem_cons_succ, List.setIfInBounds_toArray, List.set_cons_zero, List.set_cons_succ]
      refine wpAnyH_take (i := 8) (v := ?_) rfl (by kernel_rfl) (by kernel_rfl) (by kernel_rfl) (fun _ _ _ h => h) (Or.inl ⟨by rfl, ?_⟩) (by assumption) ?_
      rotate_left
      · intro W hSW; (try dsimp only at hSW); go_simp; (first | done | with_reducible rfl)
      simp only [Act.put, List.getElem_toArray, List.getElem_cons_zero, List.getElem_cons_succ, List.setIfInBounds_toArray, List.set_cons_zero, List.set_cons_succ]
      refine wpAnyH_ready (rs := [0, 9]) (by kernel_rfl) (by simp) ?_
      refine (AllReadyH.cons rfl (fun K hK => ?_) (AllReadyH.cons rfl (fun K hK => ?_) AllReadyH.nil))
      · skip
        go_simp
        refine (newStyle_lit _).mono ?_
        rintro e w3 ⟨rfl, hn⟩
        replace nb := nb.kept hn
        replace sp := sp.kept hn
        refine hK.out _ _ (⟨hS.1.trans hn, hS.2.kept hn⟩) (fun hS2 => ?_)
        clear hS hK
        have hS := hS2
        clear hS2
        try simp only [Act.put, List.getElem_toArray, List.getElem_cons_zero, List.getElem_cons_succ, List.setIfInBounds_toArray, List.set_cons_zero, List.set_cons_succ]
        refine wpAnyH_ready (rs := [9]) (by kernel_rfl) (by simp) ?_
        refine (AllReadyH.cons rfl (fun K hK => ?_) AllReadyH.nil)
        have nb0 := nb.at 0 _ rfl
        have nb1 := nb.at 1 _ rfl
        go_simp
        clear nb0 nb1 nb
        refine hK.out _ _ (hS) (fun hS2 => ?_)
        clear hS hK
        have hS := hS2
        clear hS2
        try simp only [Act.put, List.getElem_toArray, List.getElem_cons_zero, List.getElem_cons_succ, List.setIfInBounds_toArray, List.set_cons_zero, List.set_cons_succ]
        refine wpAnyH_ready (rs := [10]) (by kernel_rfl) (by simp) ?_
        refine (AllReadyH.cons rfl (fun K hK => ?_) AllReadyH.nil)
        go_simp
        refine (eqBlock_any newS (-(1 + d)) _).mono ?_
        rintro e w3 ⟨rfl, hn⟩
        replace sp := sp.kept hn
        refine hK.out _ _ (⟨hS.1.trans hn, hS.2.kept hn⟩) (fun hS2 => ?_)
        clear hS hK
        have hS := hS2
        clear hS2
        try simp only [Act.put, List.getElem_toArray, List.getElem_cons_zero, List.getElem_cons_succ, List.setIfInBounds_toArray, List.set_cons_zero, List.set_cons_succ]
        refine wpAnyH_take (i := 11) (v := ?_) rfl (by kernel_rfl) (by kernel_rfl) (by kernel_rfl) (fun _ _ _ h => h) (Or.inl ⟨by rfl, ?_⟩) (by assumption) ?_
        rotate_left
        · intro W hSW; (try dsimp only at hSW); go_simp; (first | done | with_reducible rfl)
        simp only [Act.put, List.getElem_toArray, List.getElem_cons_zero, List.getElem_cons_succ, List.setIfInBounds_toArray, List.set_cons_zero, List.set_cons_succ]
        refine wpAnyH_take (i := 12) (v := ?_) rfl (by kernel_rfl) (by kernel_rfl) (by kernel_rfl) (fun _ _ _ h => h) (Or.inl ⟨by rfl, ?_⟩) (by assumption) ?_
        rotate_left
        · intro W hSW; (try dsimp only at hSW); go_simp; (first | done | with_reducible rfl)
        simp only [Act.put, List.getElem_toArray, List.getElem_cons_zero, List.getElem_cons_succ, List.setIfInBounds_toArray, List.set_cons_zero, List.set_cons_succ]
        refine wpAnyH_take (i := 13) (v := ?_) rfl (by kernel_rfl) (by kernel_rfl) (by kernel_rfl) (fun _ _ _ h => h) (Or.inl ⟨by rfl, ?_⟩) (by assumption) ?_
        rotate_left
        · intro W hSW; (try dsimp only at hSW); go_simp; (first | done | with_reducible rfl)
        simp only [Act.put, List.getElem_toArray, List.getElem_cons_zero, List.getElem_cons_succ, List.setIfInBounds_toArray, List.set_cons_zero, List.set_cons_succ]
        refine wpAnyH_ready (rs := [15]) (by kernel_rfl) (by simp) ?_
        refine (AllReadyH.cons rfl (fun K hK => ?_) AllReadyH.nil)
        have s0 := sp.at 0 _ rfl
        have q0 := sp.free 0
        have s1 := sp.at 1 _ rfl
        have q1 := sp.free 1
        have s2 := sp.at 2 _ rfl
        have q2 := sp.free 2
        go_simp
        refine held_put3 hK.out hS sp ?_ ?_ ?_
        · omega
        · omega
        clear hS hK sp s0 s1 s2 q0 q1 q2
        intro X hS sp
        replace sp := sp.is (ds := #[.int .i64 0, .int .i64 0, .int .i64 0]) rfl
        try simp only [Act.put, List.getElem_toArray, List.getElem_cons_zero, List.getElem_cons_succ, List.setIfInBounds_toArray, List.set_cons_zero, List.set_cons_succ]
        refine wpAnyH_take (i := 16) (v := ?_) rfl (by kernel_rfl) (by kernel_rfl) (by kernel_rfl) (fun _ _ _ h => h) (Or.inl ⟨by rfl, ?_⟩) (by assumption) ?_
        rotate_left
        · intro W hSW; (try dsimp only at hSW); go_simp; (first | done | with_reducible rfl)
        simp only [Act.put, List.getElem_toArray, List.getElem_cons_zero, List.getElem_cons_succ, List.setIfInBounds_toArray, List.set_cons_zero, List.set_cons_succ]
        refine wpAnyH_done (by kernel_rfl) ?_ _
        obtain ⟨hk, a⟩ := hS
        have a0' := a.at 0 _ rfl
        have a1' := a.at 1 _ rfl
        have a2' := a.at 2 _ rfl
        have s0' := sp.at 0 _ rfl
        have s1' := sp.at 1 _ rfl
        have s2' := sp.at 2 _ rfl
        go_wp2_with (first | (go_at_call 17; refine (num_any _ _).mono ?_; rintro e w4 ⟨rfl, rfl⟩) | fail)
        go_ret
        exact ⟨rfl, hk⟩
      · skip
        have nb0 := nb.at 0 _ rfl
        have nb1 := nb.at 1 _ rfl
        go_simp
        clear nb0 nb1 nb
        refine hK.out _ _ (hS) (fun hS2 => ?_)
        clear hS hK
        have hS := hS2
        clear hS2
        try simp only [Act.put, List.getElem_toArray, List.getElem_cons_zero, List.getElem_cons_succ, List.setIfInBounds_toArray, List.set_cons_zero, List.set_cons_succ]
        refine wpAnyH_ready (rs := [0]) (by kernel_rfl) (by simp) ?_
        refine (AllReadyH.cons rfl (fun K hK => ?_) AllReadyH.nil)
        go_simp
        refine (newStyle_lit _).mono ?_
        rintro e w3 ⟨rfl, hn⟩
        replace sp := sp.kept hn
        refine hK.out _ _ (⟨hS.1.trans hn, hS.2.kept hn⟩) (fun hS2 => ?_)
        clear hS hK
        have hS := hS2
        clear hS2
        try simp only [Act.put, List.getElem_toArray, List.getElem_cons_zero, List.getElem_cons_succ, List.setIfInBounds_toArray, List.set_cons_zero, List.set_cons_succ]
        refine wpAnyH_ready (rs := [10]) (by kernel_rfl) (by simp) ?_
        refine (AllReadyH.cons rfl (fun K hK => ?_) AllReadyH.nil)
        go_simp
        refine (eqBlock_any newS (-(1 + d)) _).mono ?_
        rintro e w3 ⟨rfl, hn⟩
        replace sp := sp.kept hn
        refine hK.out _ _ (⟨hS.1.trans hn, hS.2.kept hn⟩) (fun hS2 => ?_)
        clear hS hK
        have hS := hS2
        clear hS2
        try simp only [Act.put, List.getElem_toArray, List.getElem_cons_zero, List.getElem_cons_succ, List.setIfInBounds_toArray, List.set_cons_zero, List.set_cons_succ]
        refine wpAnyH_take (i := 11) (v := ?_) rfl (by kernel_rfl) (by kernel_rfl) (by kernel_rfl) (fun _ _ _ h => h) (Or.inl ⟨by rfl, ?_⟩) (by assumption) ?_
        rotate_left
        · intro W hSW; (try dsimp only at hSW); go_simp; (first | done | with_reducible rfl)
        simp only [Act.put, List.getElem_toArray, List.getElem_cons_zero, List.getElem_cons_succ, List.setIfInBounds_toArray, List.set_cons_zero, List.set_cons_succ]
        refine wpAnyH_take (i := 12) (v := ?_) rfl (by kernel_rfl) (by kernel_rfl) (by kernel_rfl) (fun _ _ _ h => h) (Or.inl ⟨by rfl, ?_⟩) (by assumption) ?_
        rotate_left
        · intro W hSW; (try dsimp only at hSW); go_simp; (first | done | with_reducible rfl)
        simp only [Act.put, List.getElem_toArray, List.getElem_cons_zero, List.getElem_cons_succ, List.setIfInBounds_toArray, List.set_cons_zero, List.set_cons_succ]
        refine wpAnyH_take (i := 13) (v := ?_) rfl (by kernel_rfl) (by kernel_rfl) (by kernel_rfl) (fun _ _ _ h => h) (Or.inl ⟨by rfl, ?_⟩) (by assumption) ?_
        rotate_left
        · intro W hSW; (try dsimp only at hSW); go_simp; (first | done | with_reducible rfl)
        simp only [Act.put, List.getElem_toArray, List.getElem_cons_zero, List.getElem_cons_succ, List.setIfInBounds_toArray, List.set_cons_zero, List.set_cons_succ]
        refine wpAnyH_ready (rs := [15]) (by kernel_rfl) (by simp) ?_
        refine (AllReadyH.cons rfl (fun K hK => ?_) AllReadyH.nil)
        have s0 := sp.at 0 _ rfl
        have q0 := sp.free 0
        have s1 := sp.at 1 _ rfl
        have q1 := sp.free 1
        have s2 := sp.at 2 _ rfl
        have q2 := sp.free 2
        go_simp
        refine held_put3 hK.out hS sp ?_ ?_ ?_
        · omega
        · omega
        clear hS hK sp s0 s1 s2 q0 q1 q2
        intro X hS sp
        replace sp := sp.is (ds := #[.int .i64 0, .int .i64 0, .int .i64 0]) rfl
        try simp only [Act.put, List.getElem_toArray, List.getElem_cons_zero, List.getElem_cons_succ, List.setIfInBounds_toArray, List.set_cons_zero, List.set_cons_succ]
        refine wpAnyH_take (i := 16) (v := ?_) rfl (by kernel_rfl) (by kernel_rfl) (by kernel_rfl) (fun _ _ _ h => h) (Or.inl ⟨by rfl, ?_⟩) (by assumption) ?_
        rotate_left
        · intro W hSW; (try dsimp only at hSW); go_simp; (first | done | with_reducible rfl)
        simp only [Act.put, List.getElem_toArray, List.getElem_cons_zero, List.getElem_cons_succ, List.setIfInBounds_toArray, List.set_cons_zero, List.set_cons_succ]
        refine wpAnyH_done (by kernel_rfl) ?_ _
        obtain ⟨hk, a⟩ := hS
        have a0' := a.at 0 _ rfl
        have a1' := a.at 1 _ rfl
        have a2' := a.at 2 _ rfl
        have s0' := sp.at 0 _ rfl
        have s1' := sp.at 1 _ rfl
        have s2' := sp.at 2 _ rfl
        go_wp2_with (first | (go_at_call 17; refine (num_any _ _).mono ?_; rintro e w4 ⟨rfl, rfl⟩) | fail)
        go_ret
        exact ⟨rfl, hk⟩
theorem equationForms_1 (which x d : Int) (w : World) (hq : bits .and .i64 which 1 = 1) (hd : bits .and .i64 x 1023 = d) (d0 : 0 ≤ d) (d1 : d ≤ 1023) :
    Calls Try.prog 10 #[.int .i64 which, .int .i64 x] w fun e w' => e = .returned (.bool true) ∧ Kept w w' := by
  have hm : mayS (badE d) = false := by
    rw [← ref_may]
    have e : inB 0 100 (-(1 + d)) = false := inB_false.2 (by omega)
    unfold refS badE
    simp [e]
  have h1 : eqS (badE d) 5 = ((0, 0, 0), 1400) := if_neg (by simp [hm])
  have h2 : edgeE (badE d) = 1400 := by unfold edgeE; rw [if_neg (by simp [hm])]
  have h3 : eqS newS (4194304 + (1 + d)) = ((0, 0, 0), 1400) := if_neg (by rw [inB_false.2 (.inr (by omega))]; simp)
  clear hm
  have hw1 : IntKind.i64.wrap (-(1 + d)) = -(1 + d) := by rw [IntKind.wrap_i64]; omega
  have hw2 : IntKind.i64.wrap (4194304 + (1 + d)) = 4194304 + (1 + d) := by rw [IntKind.wrap_i64]; omega
  have hk : Kept w w := Kept.refl w
  go_enter Try.func10, Try.ntmps10
  go_wp2_with fail
  refine (awake14_any _).mono ?_
  rintro e w1 ⟨rfl, hn⟩
  replace hk := hk.trans hn
  clear hn
  go_wp2_with fail
  refine (newStyle_lit _).mono ?_
  rintro e w1 ⟨rfl, hn⟩
  replace hk := hk.trans hn
  clear hn
  go_wp2_with (first | (refine here_store 26 _ _ rfl ?_; refine wpList_store_own rfl 26 _ _ rfl _ _ rfl rfl (Own.new _ _ _) (by rfl) (by kernel_rfl) (by rfl) ?_; intro X s hoX hkX; have hsz := hk.size; replace hk := hkX _ (hk.alloc _) (by first | omega | (simp; omega)); clear hoX hkX; have cs26 := s.at 26 _ rfl; have fs26 := s.free 26) | (refine here_load 26 _ rfl ?_; refine wpList_load_own rfl 26 _ rfl _ rfl (s.set 26 _) _ Try.underlying26 rfl (by kernel_rfl) ?_))
  go_wp2_with fail
  refine with_eq ?_
  intro X eX
  have hsz := hk.size
  replace hk := (eX ▸ (by first | ((repeat (first | with_reducible exact hk | with_reducible refine Kept.alloc ?_ _ | with_reducible refine Kept.drew ?_ | with_reducible refine Kept.drewN ?_ _ | with_reducible refine Kept.set ?_ (by first | (simp; done) | (simp; omega) | omega) _)); done) | exact hk | exact (hk.alloc _) | exact ((hk.alloc _).alloc _) | exact (((hk.alloc _).alloc _).alloc _) | exact ((((hk.alloc _).alloc _).alloc _).alloc _) | exact (((((hk.alloc _).alloc _).alloc _).alloc _).alloc _) | exact ((((((hk.alloc _).alloc _).alloc _).alloc _).alloc _).alloc _) | (repeat (first | exact hk | refine Kept.alloc ?_ _ | refine Kept.drew ?_ | refine Kept.drewN ?_ _ | refine Kept.set ?_ (by first | (simp; done) | (simp; omega) | omega) _))) : Kept w X)
  replace s : Own X _ _ #[.int .i64 0, .int .i64 0, .int .i64 0, .int .i64 0, .int .i64 1, .int .i64 0, .int .i64 0, .int .i64 0, .int .i64 1, .int .i64 0, .int .i64 1, .int .i64 0, .int .i64 1, .int .i64 0, .int .i64 1, .int .i64 0, .int .i64 1, .int .i64 0, .int .i64 1, .int .i64 0, .int .i64 1, .int .i64 0, .int .i64 1, .int .i64 0, .int .i64 0, .int .i64 0, .int .i64 (-(1 + d)), .int .i64 1, .int .i64 0, .int .i64 0, .int .i64 0, .bool false] := eX ▸ (((s.set 26 _)).is (by rfl))
  clear eX
  clear fs26 cs26
  go_wp2_with fail
  refine (eqBlock_any (badE d) 5 _).mono ?_
  rintro e w1 ⟨rfl, hn⟩
  replace hk := hk.trans hn
  replace s := s.kept hn
  clear hn
  go_wp2_with (refine here_load 26 _ rfl ?_; refine wpList_load_own rfl 26 _ rfl _ rfl (Own.alloc s _) _ Try.underlying26 rfl (by kernel_rfl) ?_)
  go_wp2_with fail
  refine with_boxes1 ?_
  intro X hX a
  have hsz := hk.size
  replace hk := hk.trans hX
  replace s := s.kept hX
  clear hX
  replace a_l := a.lt
  replace a_0 := a.at 0 _ rfl
  replace a_1 := a.at 1 _ rfl
  replace a_2 := a.at 2 _ rfl
  refine (eqEdges_any (badE d) _).mono ?_
  rintro e w1 ⟨v, rfl, hv, hn⟩
  replace hk := hk.trans hn
  replace s := s.kept hn
  replace a := a.kept hn
  clear hn
  replace a_l := a.lt
  replace a_0 := a.at 0 _ rfl
  replace a_1 := a.at 1 _ rfl
  replace a_2 := a.at 2 _ rfl
  clear s
  clear hv
  go_wp2_with fail
  refine wp_region_held_drew (S := fun W => Kept w W ∧ Own W _ 43 #[.int .i64 0, .int .i64 0, .int .i64 0]) (by kernel_rfl) (⟨hk.drew, a.drew⟩) (fun hS => ?_)
  have agt := hk.size
  clear hk a a_l a_0 a_1 a_2
  refine wpAnyH_take (i := 1) (v := ?_) rfl (by kernel_rfl) (by kernel_rfl) (by kernel_rfl) (fun _ _ _ h => h) (Or.inl ⟨by rfl, ?_⟩) (by assumption) ?_
  rotate_left
  · intro W hSW; (try dsimp only at hSW); go_simp; (first | done | with_reducible rfl)
  simp only [Act.put, List.getElem_toArray, List.getElem_cons_zero, List.getElem_cons_succ, List.setIfInBounds_toArray, List.set_cons_zero, List.set_cons_succ]
  refine wpAnyH_take (i := 2) (v := ?_) rfl (by kernel_rfl) (by kernel_rfl) (by kernel_rfl) (fun _ _ _ h => h) (Or.inl ⟨by rfl, ?_⟩) (by assumption) ?_
  rotate_left
  · intro W hSW; (try dsimp only at hSW); go_simp; (first | done | with_reducible rfl)
  simp only [Act.put, List.getElem_toArray, List.getElem_cons_zero, List.getElem_cons_succ, List.setIfInBounds_toArray, List.set_cons_zero, List.set_cons_succ]
  refine wpAnyH_take (i := 3) (v := ?_) rfl (by kernel_rfl) (by kernel_rfl) (by kernel_rfl) (fun _ _ _ h => h) (Or.inl ⟨by rfl, ?_⟩) (by assumption) ?_
  rotate_left
  · intro W hSW; (try dsimp only at hSW); go_simp; (first | done | with_reducible rfl)
  simp only [Act.put, List.getElem_toArray, List.getElem_cons_zero, List.getElem_cons_succ, List.setIfInBounds_toArray, List.set_cons_zero, List.set_cons_succ]
  refine wpAnyH_take (i := 4) (v := ?_) rfl (by kernel_rfl) (by kernel_rfl) (by kernel_rfl) (fun _ _ _ h => h) (Or.inl ⟨by rfl, ?_⟩) (by assumption) ?_
  rotate_left
  · intro W hSW; (try dsimp only at hSW); go_simp; (first | done | with_reducible rfl)
  simp only [Act.put, List.getElem_toArray, List.getElem_cons_zero, List.getElem_cons_succ, List.setIfInBounds_toArray, List.set_cons_zero, List.set_cons_succ]
  refine wpAnyH_take (i := 6) (v := ?_) rfl (by kernel_rfl) (by kernel_rfl) (by kernel_rfl) (fun _ _ _ h => h) (Or.inl ⟨by rfl, ?_⟩) (by assumption) ?_
  rotate_left
  · intro W hSW; (try dsimp only at hSW); go_simp; (first | done | with_reducible rfl)
  simp only [Act.put, List.getElem_toArray, List.getElem_cons_zero, List.getElem_cons_succ, List.setIfInBounds_toArray, List.set_cons_zero, List.set_cons_succ]
  refine wpAnyH_take (i := 7) (v := ?_) rfl (by kernel_rfl) (by kernel_rfl) (by kernel_rfl) (fun _ _ _ h => h) (Or.inl ⟨by rfl, ?_⟩) (by assumption) ?_
  rotate_left
  · intro W hSW; (try dsimp only at hSW); go_simp; (first | done | with_reducible rfl)
  simp only [Act.put, List.getElem_toArray, List.getElem_cons_zero, List.getElem_cons_succ, List.setIfInBounds_toArray, List.set_cons_zero, List.set_cons_succ]
  refine wpAnyH_ready (rs := [0, 5, 14]) (by kernel_rfl) (by simp) ?_
  refine (AllReadyH.cons rfl (fun K hK => ?_) (AllReadyH.cons rfl (fun K hK => ?_) (AllReadyH.cons rfl (fun K hK => ?_) AllReadyH.nil)))
  · skip
    go_simp
    refine (newStyle_lit _).mono ?_
    rintro e w3 ⟨rfl, hn⟩
    refine hK.out _ _ (⟨hS.1.trans hn, hS.2.kept hn⟩) (fun hS2 => ?_)
    clear hS hK
    have hS := hS2
    clear hS2
    try simp only [Act.put, List.getElem_toArray, List.getElem_cons_zero, List.getElem_cons_succ, List.setIfInBounds_toArray, List.set_cons_zero, List.set_cons_succ]
    refine wpAnyH_ready (rs := [5, 14]) (by kernel_rfl) (by simp) ?_
    refine (AllReadyH.cons rfl (fun K hK => ?_) (AllReadyH.cons rfl (fun K hK => ?_) AllReadyH.nil))
    · skip
      go_simp
      refine held_new hK.out ⟨hS.1.alloc _, hS.2.alloc _⟩ ?_
      intro X eX hS2 nb
      clear hS hK
      have hS := hS2
      clear hS2
      try dsimp only [World.drew] at nb
      clear eX
      try simp only [Act.put, List.getElem_toArray, List.getElem_cons_zero, List.getElem_cons_succ, List.setIfInBounds_toArray, List.set_cons_zero, List.set_cons_succ]
      refine wpAnyH_take (i := 8) (v := ?_) rfl (by kernel_rfl) (by kernel_rfl) (by kernel_rfl) (fun _ _ _ h => h) (Or.inl ⟨by rfl, ?_⟩) (by assumption) ?_
      rotate_left
      · intro W hSW; (try dsimp only at hSW); go_simp; (first | done | with_reducible rfl)
      simp only [Act.put, List.getElem_toArray, List.getElem_cons_zero, List.getElem_cons_succ, List.setIfInBounds_toArray, List.set_cons_zero, List.set_cons_succ]
      refine wpAnyH_ready (rs := [9, 14]) (by kernel_rfl) (by simp) ?_
      refine (AllReadyH.cons rfl (fun K hK => ?_) (AllReadyH.cons rfl (fun K hK => ?_) AllReadyH.nil))
      · skip
        have nb0 := nb.at 0 _ rfl
        have nb1 := nb.at 1 _ rfl
        go_simp
        clear nb0 nb1 nb
        refine hK.out _ _ (hS) (fun hS2 => ?_)
        clear hS hK
        have hS := hS2
        clear hS2
        try simp only [Act.put, List.getElem_toArray, List.getElem_cons_zero, List.getElem_cons_succ, List.setIfInBounds_toArray, List.set_cons_zero, List.set_cons_succ]
        refine wpAnyH_ready (rs := [10, 14]) (by kernel_rfl) (by simp) ?_
        refine (AllReadyH.cons rfl (fun K hK => ?_) (AllReadyH.cons rfl (fun K hK => ?_) AllReadyH.nil))
        · skip
          go_simp
          refine (eqBlock_any newS (4194304 + (1 + d)) _).mono ?_
          rintro e w3 ⟨rfl, hn⟩
          refine hK.out _ _ (⟨hS.1.trans hn, hS.2.kept hn⟩) (fun hS2 => ?_)
          clear hS hK
          have hS := hS2
          clear hS2
          try simp only [Act.put, List.getElem_toArray, List.getElem_cons_zero, List.getElem_cons_succ, List.setIfInBounds_toArray, List.set_cons_zero, List.set_cons_succ]
          refine wpAnyH_take (i := 11) (v := ?_) rfl (by kernel_rfl) (by kernel_rfl) (by kernel_rfl) (fun _ _ _ h => h) (Or.inl ⟨by rfl, ?_⟩) (by assumption) ?_
          rotate_left
          · intro W hSW; (try dsimp only at hSW); go_simp; (first | done | with_reducible rfl)
          simp only [Act.put, List.getElem_toArray, List.getElem_cons_zero, List.getElem_cons_succ, List.setIfInBounds_toArray, List.set_cons_zero, List.set_cons_succ]
          refine wpAnyH_take (i := 12) (v := ?_) rfl (by kernel_rfl) (by kernel_rfl) (by kernel_rfl) (fun _ _ _ h => h) (Or.inl ⟨by rfl, ?_⟩) (by assumption) ?_
          rotate_left
          · intro W hSW; (try dsimp only at hSW); go_simp; (first | done | with_reducible rfl)
          simp only [Act.put, List.getElem_toArray, List.getElem_cons_zero, List.getElem_cons_succ, List.setIfInBounds_toArray, List.set_cons_zero, List.set_cons_succ]
          refine wpAnyH_take (i := 13) (v := ?_) rfl (by kernel_rfl) (by kernel_rfl) (by kernel_rfl) (fun _ _ _ h => h) (Or.inl ⟨by rfl, ?_⟩) (by assumption) ?_
          rotate_left
          · intro W hSW; (try dsimp only at hSW); go_simp; (first | done | with_reducible rfl)
          simp only [Act.put, List.getElem_toArray, List.getElem_cons_zero, List.getElem_cons_succ, List.setIfInBounds_toArray, List.set_cons_zero, List.set_cons_succ]
          refine wpAnyH_ready (rs := [14]) (by kernel_rfl) (by simp) ?_
          refine (AllReadyH.cons rfl (fun K hK => ?_) AllReadyH.nil)
          have al := hS.2.lt
          have al2 := hS.1.size
          try dsimp only [World.drew] at al al2
          go_simp
          refine held_new hK.out ⟨hS.1.alloc _, hS.2.alloc _⟩ ?_
          intro X eX hS2 sp
          clear hS hK
          have hS := hS2
          clear hS2
          try dsimp only [World.drew] at sp
          clear eX
          try simp only [Act.put, List.getElem_toArray, List.getElem_cons_zero, List.getElem_cons_succ, List.setIfInBounds_toArray, List.set_cons_zero, List.set_cons_succ]
          refine wpAnyH_ready (rs := [15]) (by kernel_rfl) (by simp) ?_
          refine (AllReadyH.cons rfl (fun K hK => ?_) AllReadyH.nil)
          have s0 := sp.at 0 _ rfl
          have q0 := sp.free 0
          have s1 := sp.at 1 _ rfl
          have q1 := sp.free 1
          have s2 := sp.at 2 _ rfl
          have q2 := sp.free 2
          go_simp
          refine held_put3 hK.out hS sp ?_ ?_ ?_
          · omega
          · omega
          clear hS hK sp s0 s1 s2 q0 q1 q2
          intro X hS sp
          replace sp := sp.is (ds := #[.int .i64 0, .int .i64 0, .int .i64 0]) rfl
          try simp only [Act.put, List.getElem_toArray, List.getElem_cons_zero, List.getElem_cons_succ, List.setIfInBounds_toArray, List.set_cons_zero, List.set_cons_succ]
          refine wpAnyH_take (i := 16) (v := ?_) rfl (by kernel_rfl) (by kernel_rfl) (by kernel_rfl) (fun _ _ _ h => h) (Or.inl ⟨by rfl, ?_⟩) (by assumption) ?_
          rotate_left
          · intro W hSW; (try dsimp only at hSW); go_simp; (first | done | with_reducible rfl)
          simp only [Act.put, List.getElem_toArray, List.getElem_cons_zero, List.getElem_cons_succ, List.setIfInBounds_toArray, List.set_cons_zero, List.set_cons_succ]
          refine wpAnyH_done (by kernel_rfl) ?_ _
          obtain ⟨hk, a⟩ := hS
          have a0' := a.at 0 _ rfl
          have a1' := a.at 1 _ rfl
          have a2' := a.at 2 _ rfl
          have s0' := sp.at 0 _ rfl
          have s1' := sp.at 1 _ rfl
          have s2' := sp.at 2 _ rfl
          go_wp2_with (first | (go_at_call 17; refine (num_any _ _).mono ?_; rintro e w4 ⟨rfl, rfl⟩) | fail)
          go_ret
          exact ⟨rfl, hk⟩
        · skip
          have al := hS.2.lt
          have al2 := hS.1.size
          try dsimp only [World.drew] at al al2
          go_simp
          refine held_new hK.out ⟨hS.1.alloc _, hS.2.alloc _⟩ ?_
          intro X eX hS2 sp
          clear hS hK
          have hS := hS2
          clear hS2
          try dsimp only [World.drew] at sp
          clear eX
          try simp only [Act.put, List.getElem_toArray, List.getElem_cons_zero, List.getElem_cons_succ, List.setIfInBounds_toArray, List.set_cons_zero, List.set_cons_succ]
          refine wpAnyH_ready (rs := [10]) (by kernel_rfl) (by simp) ?_
          refine (AllReadyH.cons rfl (fun K hK => ?_) AllReadyH.nil)
          go_simp
          refine (eqBlock_any newS (4194304 + (1 + d)) _).mono ?_
          rintro e w3 ⟨rfl, hn⟩
          replace sp := sp.kept hn
          refine hK.out _ _ (⟨hS.1.trans hn, hS.2.kept hn⟩) (fun hS2 => ?_)
          clear hS hK
          have hS := hS2
          clear hS2
          try simp only [Act.put, List.getElem_toArray, List.getElem_cons_zero, List.getElem_cons_succ, List.setIfInBounds_toArray, List.set_cons_zero, List.set_cons_succ]
          refine wpAnyH_take (i := 11) (v := ?_) rfl (by kernel_rfl) (by kernel_rfl) (by kernel_rfl) (fun _ _ _ h => h) (Or.inl ⟨by rfl, ?_⟩) (by assumption) ?_
          rotate_left
          · intro W hSW; (try dsimp only at hSW); go_simp; (first | done | with_reducible rfl)
          simp only [Act.put, List.getElem_toArray, List.getElem_cons_zero, List.getElem_cons_succ, List.setIfInBounds_toArray, List.set_cons_zero, List.set_cons_succ]
          refine wpAnyH_take (i := 12) (v := ?_) rfl (by kernel_rfl) (by kernel_rfl) (by kernel_rfl) (fun _ _ _ h => h) (Or.inl ⟨by rfl, ?_⟩) (by assumption) ?_
          rotate_left
          · intro W hSW; (try dsimp only at hSW); go_simp; (first | done | with_reducible rfl)
          simp only [Act.put, List.getElem_toArray, List.getElem_cons_zero, List.getElem_cons_succ, List.setIfInBounds_toArray, List.set_cons_zero, List.set_cons_succ]
          refine wpAnyH_take (i := 13) (v := ?_) rfl (by kernel_rfl) (by kernel_rfl) (by kernel_rfl) (fun _ _ _ h => h) (Or.inl ⟨by rfl, ?_⟩) (by assumption) ?_
          rotate_left
          · intro W hSW; (try dsimp only at hSW); go_simp; (first | done | with_reducible rfl)
          simp only [Act.put, List.getElem_toArray, List.getElem_cons_zero, List.getElem_cons_succ, List.setIfInBounds_toArray, List.set_cons_zero, List.set_cons_succ]
          refine wpAnyH_ready (rs := [15]) (by kernel_rfl) (by simp) ?_
          refine (AllReadyH.cons rfl (fun K hK => ?_) AllReadyH.nil)
          have s0 := sp.at 0 _ rfl
          have q0 := sp.free 0
          have s1 := sp.at 1 _ rfl
          have q1 := sp.free 1
          have s2 := sp.at 2 _ rfl
          have q2 := sp.free 2
          go_simp
          refine held_put3 hK.out hS sp ?_ ?_ ?_
          · omega
          · omega
          clear hS hK sp s0 s1 s2 q0 q1 q2
          intro X hS sp
          replace sp := sp.is (ds := #[.int .i64 0, .int .i64 0, .int .i64 0]) rfl
          try simp only [Act.put, List.getElem_toArray, List.getElem_cons_zero, List.getElem_cons_succ, List.setIfInBounds_toArray, List.set_cons_zero, List.set_cons_succ]
          refine wpAnyH_take (i := 16) (v := ?_) rfl (by kernel_rfl) (by kernel_rfl) (by kernel_rfl) (fun _ _ _ h => h) (Or.inl ⟨by rfl, ?_⟩) (by assumption) ?_
          rotate_left
          · intro W hSW; (try dsimp only at hSW); go_simp; (first | done | with_reducible rfl)
          simp only [Act.put, List.getElem_toArray, List.getElem_cons_zero, List.getElem_cons_succ, List.setIfInBounds_toArray, List.set_cons_zero, List.set_cons_succ]
          refine wpAnyH_done (by kernel_rfl) ?_ _
          obtain ⟨hk, a⟩ := hS
          have a0' := a.at 0 _ rfl
          have a1' := a.at 1 _ rfl
          have a2' := a.at 2 _ rfl
          have s0' := sp.at 0 _ rfl
          have s1' := sp.at 1 _ rfl
          have s2' := sp.at 2 _ rfl
          go_wp2_with (first | (go_at_call 17; refine (num_any _ _).mono ?_; rintro e w4 ⟨rfl, rfl⟩) | fail)
          go_ret
          exact ⟨rfl, hk⟩
      · skip
        have al := hS.2.lt
        have al2 := hS.1.size
        try dsimp only [World.drew] at al al2
        go_simp
        refine held_new hK.out ⟨hS.1.alloc _, hS.2.alloc _⟩ ?_
        intro X eX hS2 sp
        clear hS hK
        have hS := hS2
        clear hS2
        try dsimp only [World.drew] at sp
        replace nb := (eX ▸ nb.alloc _ : Own X _ _ _)
        clear eX
        try simp only [Act.put, List.getElem_toArray, List.getElem_cons_zero, List.getElem_cons_succ, List.setIfInBounds_toArray, List.set_cons_zero, List.set_cons_succ]
        refine wpAnyH_ready (rs := [9]) (by kernel_rfl) (by simp) ?_
        refine (AllReadyH.cons rfl (fun K hK => ?_) AllReadyH.nil)
        have nb0 := nb.at 0 _ rfl
        have nb1 := nb.at 1 _ rfl
        go_simp
        clear nb0 nb1 nb
        refine hK.out _ _ (hS) (fun hS2 => ?_)
        clear hS hK
        have hS := hS2
        clear hS2
        try simp only [Act.put, List.getElem_toArray, List.getElem_cons_zero, List.getElem_cons_succ, List.setIfInBounds_toArray, List.set_cons_zero, List.set_cons_succ]
        refine wpAnyH_ready (rs := [10]) (by kernel_rfl) (by simp) ?_
        refine (AllReadyH.cons rfl (fun K hK => ?_) AllReadyH.nil)
        go_simp
        refine (eqBlock_any newS (4194304 + (1 + d)) _).mono ?_
        rintro e w3 ⟨rfl, hn⟩
        replace sp := sp.kept hn
        refine hK.out _ _ (⟨hS.1.trans hn, hS.2.kept hn⟩) (fun hS2 => ?_)
        clear hS hK
        have hS := hS2
        clear hS2
        try simp only [Act.put, List.getElem_toArray, List.getElem_cons_zero, List.getElem_cons_succ, List.setIfInBounds_toArray, List.set_cons_zero, List.set_cons_succ]
        refine wpAnyH_take (i := 11) (v := ?_) rfl (by kernel_rfl) (by kernel_rfl) (by kernel_rfl) (fun _ _ _ h => h) (Or.inl ⟨by rfl, ?_⟩) (by assumption) ?_
        rotate_left
        · intro W hSW; (try dsimp only at hSW); go_simp; (first | done | with_reducible rfl)
        simp only [Act.put, List.getElem_toArray, List.getElem_cons_zero, List.getElem_cons_succ, List.setIfInBounds_toArray, List.set_cons_zero, List.set_cons_succ]
        refine wpAnyH_take (i := 12) (v := ?_) rfl (by kernel_rfl) (by kernel_rfl) (by kernel_rfl) (fun _ _ _ h => h) (Or.inl ⟨by rfl, ?_⟩) (by assumption) ?_
        rotate_left
        · intro W hSW; (try dsimp only at hSW); go_simp; (first | done | with_reducible rfl)
        simp only [Act.put, List.getElem_toArray, List.getElem_cons_zero, List.getElem_cons_succ, List.setIfInBounds_toArray, List.set_cons_zero, List.set_cons_succ]
        refine wpAnyH_take (i := 13) (v := ?_) rfl (by kernel_rfl) (by kernel_rfl) (by kernel_rfl) (fun _ _ _ h => h) (Or.inl ⟨by rfl, ?_⟩) (by assumption) ?_
        rotate_left
        · intro W hSW; (try dsimp only at hSW); go_simp; (first | done | with_reducible rfl)
        simp only [Act.put, List.getElem_toArray, List.getElem_cons_zero, List.getElem_cons_succ, List.setIfInBounds_toArray, List.set_cons_zero, List.set_cons_succ]
        refine wpAnyH_ready (rs := [15]) (by kernel_rfl) (by simp) ?_
        refine (AllReadyH.cons rfl (fun K hK => ?_) AllReadyH.nil)
        have s0 := sp.at 0 _ rfl
        have q0 := sp.free 0
        have s1 := sp.at 1 _ rfl
        have q1 := sp.free 1
        have s2 := sp.at 2 _ rfl
        have q2 := sp.free 2
        go_simp
        refine held_put3 hK.out hS sp ?_ ?_ ?_
        · omega
        · omega
        clear hS hK sp s0 s1 s2 q0 q1 q2
        intro X hS sp
        replace sp := sp.is (ds := #[.int .i64 0, .int .i64 0, .int .i64 0]) rfl
        try simp only [Act.put, List.getElem_toArray, List.getElem_cons_zero, List.getElem_cons_succ, List.setIfInBounds_toArray, List.set_cons_zero, List.set_cons_succ]
        refine wpAnyH_take (i := 16) (v := ?_) rfl (by kernel_rfl) (by kernel_rfl) (by kernel_rfl) (fun _ _ _ h => h) (Or.inl ⟨by rfl, ?_⟩) (by assumption) ?_
        rotate_left
        · intro W hSW; (try dsimp only at hSW); go_simp; (first | done | with_reducible rfl)
        simp only [Act.put, List.getElem_toArray, List.getElem_cons_zero, List.getElem_cons_succ, List.setIfInBounds_toArray, List.set_cons_zero, List.set_cons_succ]
        refine wpAnyH_done (by kernel_rfl) ?_ _
        obtain ⟨hk, a⟩ := hS
        have a0' := a.at 0 _ rfl
        have a1' := a.at 1 _ rfl
        have a2' := a.at 2 _ rfl
        have s0' := sp.at 0 _ rfl
        have s1' := sp.at 1 _ rfl
        have s2' := sp.at 2 _ rfl
        go_wp2_with (first | (go_at_call 17; refine (num_any _ _).mono ?_; rintro e w4 ⟨rfl, rfl⟩) | fail)
        go_ret
        exact ⟨rfl, hk⟩
    · skip
      have al := hS.2.lt
      have al2 := hS.1.size
      try dsimp only [World.drew] at al al2
      go_simp
      refine held_new hK.out ⟨hS.1.alloc _, hS.2.alloc _⟩ ?_
      intro X eX hS2 sp
      clear hS hK
      have hS := hS2
      clear hS2
      try dsimp only [World.drew] at sp
      clear eX
      try simp only [Act.put, List.getElem_toArray, List.getElem_cons_zero, List.getElem_cons_succ, List.setIfInBounds_toArray, List.set_cons_zero, List.set_cons_succ]
      refine wpAnyH_ready (rs := [5]) (by kernel_rfl) (by simp) ?_
      refine (AllReadyH.cons rfl (fun K hK => ?_) AllReadyH.nil)
      go_simp
      refine held_new hK.out ⟨hS.1.alloc _, hS.2.alloc _⟩ ?_
      intro X eX hS2 nb
      clear hS hK
      have hS := hS2
      clear hS2
      try dsimp only [World.drew] at nb
      replace sp := (eX ▸ sp.alloc _ : Own X _ _ _)
      clear eX
      try simp only [Act.put, List.getElem_toArray, List.getElem_cons_zero, List.getElem_cons_succ, List.setIfInBounds_toArray, List.set_cons_zero, List.set_cons_succ]
      refine wpAnyH_take (i := 8) (v := ?_) rfl (by kernel_rfl) (by kernel_rfl) (by kernel_rfl) (fun _ _ _ h => h) (Or.inl ⟨by rfl, ?_⟩) (by assumption) ?_
      rotate_left
      · intro W hSW; (try dsimp only at hSW); go_simp; (first | done | with_reducible rfl)
      simp only [Act.put, List.getElem_toArray, List.getElem_cons_zero, List.getElem_cons_succ, List.setIfInBounds_toArray, List.set_cons_zero, List.set_cons_succ]
      refine wpAnyH_ready (rs := [9]) (by kernel_rfl) (by simp) ?_
      refine (AllReadyH.cons rfl (fun K hK => ?_) AllReadyH.nil)
      have nb0 := nb.at 0 _ rfl
      have nb1 := nb.at 1 _ rfl
      go_simp
      clear nb0 nb1 nb
      refine hK.out _ _ (hS) (fun hS2 => ?_)
      clear hS hK
      have hS := hS2
      clear hS2
      try simp only [Act.put, List.getElem_toArray, List.getElem_cons_zero, List.getElem_cons_succ, List.setIfInBounds_toArray, List.set_cons_zero, List.set_cons_succ]
      refine wpAnyH_ready (rs := [10]) (by kernel_rfl) (by simp) ?_
      refine (AllReadyH.cons rfl (fun K hK => ?_) AllReadyH.nil)
      go_simp
      refine (eqBlock_any newS (4194304 + (1 + d)) _).mono ?_
      rintro e w3 ⟨rfl, hn⟩
      replace sp := sp.kept hn
      refine hK.out _ _ (⟨hS.1.trans hn, hS.2.kept hn⟩) (fun hS2 => ?_)
      clear hS hK
      have hS := hS2
      clear hS2
      try simp only [Act.put, List.getElem_toArray, List.getElem_cons_zero, List.getElem_cons_succ, List.setIfInBounds_toArray, List.set_cons_zero, List.set_cons_succ]
      refine wpAnyH_take (i := 11) (v := ?_) rfl (by kernel_rfl) (by kernel_rfl) (by kernel_rfl) (fun _ _ _ h => h) (Or.inl ⟨by rfl, ?_⟩) (by assumption) ?_
      rotate_left
      · intro W hSW; (try dsimp only at hSW); go_simp; (first | done | with_reducible rfl)
      simp only [Act.put, List.getElem_toArray, List.getElem_cons_zero, List.getElem_cons_succ, List.setIfInBounds_toArray, List.set_cons_zero, List.set_cons_succ]
      refine wpAnyH_take (i := 12) (v := ?_) rfl (by kernel_rfl) (by kernel_rfl) (by kernel_rfl) (fun _ _ _ h => h) (Or.inl ⟨by rfl, ?_⟩) (by assumption) ?_
      rotate_left
      · intro W hSW; (try dsimp only at hSW); go_simp; (first | done | with_reducible rfl)
      simp only [Act.put, List.getElem_toArray, List.getElem_cons_zero, List.getElem_cons_succ, List.setIfInBounds_toArray, List.set_cons_zero, List.set_cons_succ]
      refine wpAnyH_take (i := 13) (v := ?_) rfl (by kernel_rfl) (by kernel_rfl) (by kernel_rfl) (fun _ _ _ h => h) (Or.inl ⟨by rfl, ?_⟩) (by assumption) ?_
      rotate_left
      · intro W hSW; (try dsimp only at hSW); go_simp; (first | done | with_reducible rfl)
      simp only [Act.put, List.getElem_toArray, List.getElem_cons_zero, List.getElem_cons_succ, List.setIfInBounds_toArray, List.set_cons_zero, List.set_cons_succ]
      refine wpAnyH_ready (rs := [15]) (by kernel_rfl) (by simp) ?_
      refine (AllReadyH.cons rfl (fun K hK => ?_) AllReadyH.nil)
      have s0 := sp.at 0 _ rfl
      have q0 := sp.free 0
      have s1 := sp.at 1 _ rfl
      have q1 := sp.free 1
      have s2 := sp.at 2 _ rfl
      have q2 := sp.free 2
      go_simp
      refine held_put3 hK.out hS sp ?_ ?_ ?_
      · omega
      · omega
      clear hS hK sp s0 s1 s2 q0 q1 q2
      intro X hS sp
      replace sp := sp.is (ds := #[.int .i64 0, .int .i64 0, .int .i64 0]) rfl
      try simp only [Act.put, List.getElem_toArray, List.getElem_cons_zero, List.getElem_cons_succ, List.setIfInBounds_toArray, List.set_cons_zero, List.set_cons_succ]
      refine wpAnyH_take (i := 16) (v := ?_) rfl (by kernel_rfl) (by kernel_rfl) (by kernel_rfl) (fun _ _ _ h => h) (Or.inl ⟨by rfl, ?_⟩) (by assumption) ?_
      rotate_left
      · intro W hSW; (try dsimp only at hSW); go_simp; (first | done | with_reducible rfl)
      simp only [Act.put, List.getElem_toArray, List.getElem_cons_zero, List.getElem_cons_succ, List.setIfInBounds_toArray, List.set_cons_zero, List.set_cons_succ]
      refine wpAnyH_done (by kernel_rfl) ?_ _
      obtain ⟨hk, a⟩ := hS
      have a0' := a.at 0 _ rfl
      have a1' := a.at 1 _ rfl
      have a2' := a.at 2 _ rfl
      have s0' := sp.at 0 _ rfl
      have s1' := sp.at 1 _ rfl
      have s2' := sp.at 2 _ rfl
      go_wp2_with (first | (go_at_call 17; refine (num_any _ _).mono ?_; rintro e w4 ⟨rfl, rfl⟩) | fail)
      go_ret
      exact ⟨rfl, hk⟩
  · skip
    go_simp
    refine held_new hK.out ⟨hS.1.alloc _, hS.2.alloc _⟩ ?_
    intro X eX hS2 nb
    clear hS hK
    have hS := hS2
    clear hS2
    try dsimp only [World.drew] at nb
    clear eX
    try simp only [Act.put, List.getElem_toArray, List.getElem_cons_zero, List.getElem_cons_succ, List.setIfInBounds_toArray, List.set_cons_zero, List.set_cons_succ]
    refine wpAnyH_take (i := 8) (v := ?_) rfl (by kernel_rfl) (by kernel_rfl) (by kernel_rfl) (fun _ _ _ h => h) (Or.inl ⟨by rfl, ?_⟩) (by assumption) ?_
    rotate_left
    · intro W hSW; (try dsimp only at hSW); go_simp; (first | done | with_reducible rfl)
    simp only [Act.put, List.getElem_toArray, List.getElem_cons_zero, List.getElem_cons_succ, List.setIfInBounds_toArray, List.set_cons_zero, List.set_cons_succ]
    refine wpAnyH_ready (rs := [0, 9, 14]) (by kernel_rfl) (by simp) ?_
    refine (AllReadyH.cons rfl (fun K hK => ?_) (AllReadyH.cons rfl (fun K hK => ?_) (AllReadyH.cons rfl (fun K hK => ?_) AllReadyH.nil)))
    · skip
      go_simp
      refine (newStyle_lit _).mono ?_
      rintro e w3 ⟨rfl, hn⟩
      replace nb := nb.kept hn
      refine hK.out _ _ (⟨hS.1.trans hn, hS.2.kept hn⟩) (fun hS2 => ?_)
      clear hS hK
      have hS := hS2
      clear hS2
      try simp only [Act.put, List.getElem_toArray, List.getElem_cons_zero, List.getElem_cons_succ, List.setIfInBounds_toArray, List.set_cons_zero, List.set_cons_succ]
      refine wpAnyH_ready (rs := [9, 14]) (by kernel_rfl) (by simp) ?_
      refine (AllReadyH.cons rfl (fun K hK => ?_) (AllReadyH.cons rfl (fun K hK => ?_) AllReadyH.nil))
      · skip
        have nb0 := nb.at 0 _ rfl
        have nb1 := nb.at 1 _ rfl
        go_simp
        clear nb0 nb1 nb
        refine hK.out _ _ (hS) (fun hS2 => ?_)
        clear hS hK
        have hS := hS2
        clear hS2
        try simp only [Act.put, List.getElem_toArray, List.getElem_cons_zero, List.getElem_cons_succ, List.setIfInBounds_toArray, List.set_cons_zero, List.set_cons_succ]
        refine wpAnyH_ready (rs := [10, 14]) (by kernel_rfl) (by simp) ?_
        refine (AllReadyH.cons rfl (fun K hK => ?_) (AllReadyH.cons rfl (fun K hK => ?_) AllReadyH.nil))
        · skip
          go_simp
          refine (eqBlock_any newS (4194304 + (1 + d)) _).mono ?_
          rintro e w3 ⟨rfl, hn⟩
          refine hK.out _ _ (⟨hS.1.trans hn, hS.2.kept hn⟩) (fun hS2 => ?_)
          clear hS hK
          have hS := hS2
          clear hS2
          try simp only [Act.put, List.getElem_toArray, List.getElem_cons_zero, List.getElem_cons_succ, List.setIfInBounds_toArray, List.set_cons_zero, List.set_cons_succ]
          refine wpAnyH_take (i := 11) (v := ?_) rfl (by kernel_rfl) (by kernel_rfl) (by kernel_rfl) (fun _ _ _ h => h) (Or.inl ⟨by rfl, ?_⟩) (by assumption) ?_
          rotate_left
          · intro W hSW; (try dsimp only at hSW); go_simp; (first | done | with_reducible rfl)
          simp only [Act.put, List.getElem_toArray, List.getElem_cons_zero, List.getElem_cons_succ, List.setIfInBounds_toArray, List.set_cons_zero, List.set_cons_succ]
          refine wpAnyH_take (i := 12) (v := ?_) rfl (by kernel_rfl) (by kernel_rfl) (by kernel_rfl) (fun _ _ _ h => h) (Or.inl ⟨by rfl, ?_⟩) (by assumption) ?_
          rotate_left
          · intro W hSW; (try dsimp only at hSW); go_simp; (first | done | with_reducible rfl)
          simp only [Act.put, List.getElem_toArray, List.getElem_cons_zero, List.getElem_cons_succ, List.setIfInBounds_toArray, List.set_cons_zero, List.set_cons_succ]
          refine wpAnyH_take (i := 13) (v := ?_) rfl (by kernel_rfl) (by kernel_rfl) (by kernel_rfl) (fun _ _ _ h => h) (Or.inl ⟨by rfl, ?_⟩) (by assumption) ?_
          rotate_left
          · intro W hSW; (try dsimp only at hSW); go_simp; (first | done | with_reducible rfl)
          simp only [Act.put, List.getElem_toArray, List.getElem_cons_zero, List.getElem_cons_succ, List.setIfInBounds_toArray, List.set_cons_zero, List.set_cons_succ]
          refine wpAnyH_ready (rs := [14]) (by kernel_rfl) (by simp) ?_
          refine (AllReadyH.cons rfl (fun K hK => ?_) AllReadyH.nil)
          have al := hS.2.lt
          have al2 := hS.1.size
          try dsimp only [World.drew] at al al2
          go_simp
          refine held_new hK.out ⟨hS.1.alloc _, hS.2.alloc _⟩ ?_
          intro X eX hS2 sp
          clear hS hK
          have hS := hS2
          clear hS2
          try dsimp only [World.drew] at sp
          clear eX
          try simp only [Act.put, List.getElem_toArray, List.getElem_cons_zero, List.getElem_cons_succ, List.setIfInBounds_toArray, List.set_cons_zero, List.set_cons_succ]
          refine wpAnyH_ready (rs := [15]) (by kernel_rfl) (by simp) ?_
          refine (AllReadyH.cons rfl (fun K hK => ?_) AllReadyH.nil)
          have s0 := sp.at 0 _ rfl
          have q0 := sp.free 0
          have s1 := sp.at 1 _ rfl
          have q1 := sp.free 1
          have s2 := sp.at 2 _ rfl
          have q2 := sp.free 2
          go_simp
          refine held_put3 hK.out hS sp ?_ ?_ ?_
          · omega
          · omega
          clear hS hK sp s0 s1 s2 q0 q1 q2
          intro X hS sp
          replace sp := sp.is (ds := #[.int .i64 0, .int .i64 0, .int .i64 0]) rfl
          try simp only [Act.put, List.getElem_toArray, List.getElem_cons_zero, List.getElem_cons_succ, List.setIfInBounds_toArray, List.set_cons_zero, List.set_cons_succ]
          refine wpAnyH_take (i := 16) (v := ?_) rfl (by kernel_rfl) (by kernel_rfl) (by kernel_rfl) (fun _ _ _ h => h) (Or.inl ⟨by rfl, ?_⟩) (by assumption) ?_
          rotate_left
          · intro W hSW; (try dsimp only at hSW); go_simp; (first | done | with_reducible rfl)
          simp only [Act.put, List.getElem_toArray, List.getElem_cons_zero, List.getElem_cons_succ, List.setIfInBounds_toArray, List.set_cons_zero, List.set_cons_succ]
          refine wpAnyH_done (by kernel_rfl) ?_ _
          obtain ⟨hk, a⟩ := hS
          have a0' := a.at 0 _ rfl
          have a1' := a.at 1 _ rfl
          have a2' := a.at 2 _ rfl
          have s0' := sp.at 0 _ rfl
          have s1' := sp.at 1 _ rfl
          have s2' := sp.at 2 _ rfl
          go_wp2_with (first | (go_at_call 17; refine (num_any _ _).mono ?_; rintro e w4 ⟨rfl, rfl⟩) | fail)
          go_ret
          exact ⟨rfl, hk⟩
        · skip
          have al := hS.2.lt
          have al2 := hS.1.size
          try dsimp only [World.drew] at al al2
          go_simp
          refine held_new hK.out ⟨hS.1.alloc _, hS.2.alloc _⟩ ?_
          intro X eX hS2 sp
          clear hS hK
          have hS := hS2
          clear hS2
          try dsimp only [World.drew] at sp
          clear eX
          try simp only [Act.put, List.getElem_toArray, List.getElem_cons_zero, List.getElem_cons_succ, List.setIfInBounds_toArray, List.set_cons_zero, List.set_cons_succ]
          refine wpAnyH_ready (rs := [10]) (by kernel_rfl) (by simp) ?_
          refine (AllReadyH.cons rfl (fun K hK => ?_) AllReadyH.nil)
          go_simp
          refine (eqBlock_any newS (4194304 + (1 + d)) _).mono ?_
          rintro e w3 ⟨rfl, hn⟩
          replace sp := sp.kept hn
          refine hK.out _ _ (⟨hS.1.trans hn, hS.2.kept hn⟩) (fun hS2 => ?_)
          clear hS hK
          have hS := hS2
          clear hS2
          try simp only [Act.put, List.getElem_toArray, List.getElem_cons_zero, List.getElem_cons_succ, List.setIfInBounds_toArray, List.set_cons_zero, List.set_cons_succ]
          refine wpAnyH_take (i := 11) (v := ?_) rfl (by kernel_rfl) (by kernel_rfl) (by kernel_rfl) (fun _ _ _ h => h) (Or.inl ⟨by rfl, ?_⟩) (by assumption) ?_
          rotate_left
          · intro W hSW; (try dsimp only at hSW); go_simp; (first | done | with_reducible rfl)
          simp only [Act.put, List.getElem_toArray, List.getElem_cons_zero, List.getElem_cons_succ, List.setIfInBounds_toArray, List.set_cons_zero, List.set_cons_succ]
          refine wpAnyH_take (i := 12) (v := ?_) rfl (by kernel_rfl) (by kernel_rfl) (by kernel_rfl) (fun _ _ _ h => h) (Or.inl ⟨by rfl, ?_⟩) (by assumption) ?_
          rotate_left
          · intro W hSW; (try dsimp only at hSW); go_simp; (first | done | with_reducible rfl)
          simp only [Act.put, List.getElem_toArray, List.getElem_cons_zero, List.getElem_cons_succ, List.setIfInBounds_toArray, List.set_cons_zero, List.set_cons_succ]
          refine wpAnyH_take (i := 13) (v := ?_) rfl (by kernel_rfl) (by kernel_rfl) (by kernel_rfl) (fun _ _ _ h => h) (Or.inl ⟨by rfl, ?_⟩) (by assumption) ?_
          rotate_left
          · intro W hSW; (try dsimp only at hSW); go_simp; (first | done | with_reducible rfl)
          simp only [Act.put, List.getElem_toArray, List.getElem_cons_zero, List.getElem_cons_succ, List.setIfInBounds_toArray, List.set_cons_zero, List.set_cons_succ]
          refine wpAnyH_ready (rs := [15]) (by kernel_rfl) (by simp) ?_
          refine (AllReadyH.cons rfl (fun K hK => ?_) AllReadyH.nil)
          have s0 := sp.at 0 _ rfl
          have q0 := sp.free 0
          have s1 := sp.at 1 _ rfl
          have q1 := sp.free 1
          have s2 := sp.at 2 _ rfl
          have q2 := sp.free 2
          go_simp
          refine held_put3 hK.out hS sp ?_ ?_ ?_
          · omega
          · omega
          clear hS hK sp s0 s1 s2 q0 q1 q2
          intro X hS sp
          replace sp := sp.is (ds := #[.int .i64 0, .int .i64 0, .int .i64 0]) rfl
          try simp only [Act.put, List.getElem_toArray, List.getElem_cons_zero, List.getElem_cons_succ, List.setIfInBounds_toArray, List.set_cons_zero, List.set_cons_succ]
          refine wpAnyH_take (i := 16) (v := ?_) rfl (by kernel_rfl) (by kernel_rfl) (by kernel_rfl) (fun _ _ _ h => h) (Or.inl ⟨by rfl, ?_⟩) (by assumption) ?_
          rotate_left
          · intro W hSW; (try dsimp only at hSW); go_simp; (first | done | with_reducible rfl)
          simp only [Act.put, List.getElem_toArray, List.getElem_cons_zero, List.getElem_cons_succ, List.setIfInBounds_toArray, List.set_cons_zero, List.set_cons_succ]
          refine wpAnyH_done (by kernel_rfl) ?_ _
          obtain ⟨hk, a⟩ := hS
          have a0' := a.at 0 _ rfl
          have a1' := a.at 1 _ rfl
          have a2' := a.at 2 _ rfl
          have s0' := sp.at 0 _ rfl
          have s1' := sp.at 1 _ rfl
          have s2' := sp.at 2 _ rfl
          go_wp2_with (first | (go_at_call 17; refine (num_any _ _).mono ?_; rintro e w4 ⟨rfl, rfl⟩) | fail)
          go_ret
          exact ⟨rfl, hk⟩
      · skip
        have al := hS.2.lt
        have al2 := hS.1.size
        try dsimp only [World.drew] at al al2
        go_simp
        refine held_new hK.out ⟨hS.1.alloc _, hS.2.alloc _⟩ ?_
        intro X eX hS2 sp
        clear hS hK
        have hS := hS2
        clear hS2
        try dsimp only [World.drew] at sp
        replace nb := (eX ▸ nb.alloc _ : Own X _ _ _)
        clear eX
        try simp only [Act.put, List.getElem_toArray, List.getElem_cons_zero, List.getElem_cons_succ, List.setIfInBounds_toArray, List.set_cons_zero, List.set_cons_succ]
        refine wpAnyH_ready (rs := [9]) (by kernel_rfl) (by simp) ?_
        refine (AllReadyH.cons rfl (fun K hK => ?_) AllReadyH.nil)
        have nb0 := nb.at 0 _ rfl
        have nb1 := nb.at 1 _ rfl
        go_simp
        clear nb0 nb1 nb
        refine hK.out _ _ (hS) (fun hS2 => ?_)
        clear hS hK
        have hS := hS2
        clear hS2
        try simp only [Act.put, List.getElem_toArray, List.getElem_cons_zero, List.getElem_cons_succ, List.setIfInBounds_toArray, List.set_cons_zero, List.set_cons_succ]
        refine wpAnyH_ready (rs := [10]) (by kernel_rfl) (by simp) ?_
        refine (AllReadyH.cons rfl (fun K hK => ?_) AllReadyH.nil)
        go_simp
        refine (eqBlock_any newS (4194304 + (1 + d)) _).mono ?_
        rintro e w3 ⟨rfl, hn⟩
        replace sp := sp.kept hn
        refine hK.out _ _ (⟨hS.1.trans hn, hS.2.kept hn⟩) (fun hS2 => ?_)
        clear hS hK
        have hS := hS2
        clear hS2
        try simp only [Act.put, List.getElem_toArray, List.getElem_cons_zero, List.getElem_cons_succ, List.setIfInBounds_toArray, List.set_cons_zero, List.set_cons_succ]
        refine wpAnyH_take (i := 11) (v := ?_) rfl (by kernel_rfl) (by kernel_rfl) (by kernel_rfl) (fun _ _ _ h => h) (Or.inl ⟨by rfl, ?_⟩) (by assumption) ?_
        rotate_left
        · intro W hSW; (try dsimp only at hSW); go_simp; (first | done | with_reducible rfl)
        simp only [Act.put, List.getElem_toArray, List.getElem_cons_zero, List.getElem_cons_succ, List.setIfInBounds_toArray, List.set_cons_zero, List.set_cons_succ]
        refine wpAnyH_take (i := 12) (v := ?_) rfl (by kernel_rfl) (by kernel_rfl) (by kernel_rfl) (fun _ _ _ h => h) (Or.inl ⟨by rfl, ?_⟩) (by assumption) ?_
        rotate_left
        · intro W hSW; (try dsimp only at hSW); go_simp; (first | done | with_reducible rfl)
        simp only [Act.put, List.getElem_toArray, List.getElem_cons_zero, List.getElem_cons_succ, List.setIfInBounds_toArray, List.set_cons_zero, List.set_cons_succ]
        refine wpAnyH_take (i := 13) (v := ?_) rfl (by kernel_rfl) (by kernel_rfl) (by kernel_rfl) (fun _ _ _ h => h) (Or.inl ⟨by rfl, ?_⟩) (by assumption) ?_
        rotate_left
        · intro W hSW; (try dsimp only at hSW); go_simp; (first | done | with_reducible rfl)
        simp only [Act.put, List.getElem_toArray, List.getElem_cons_zero, List.getElem_cons_succ, List.setIfInBounds_toArray, List.set_cons_zero, List.set_cons_succ]
        refine wpAnyH_ready (rs := [15]) (by kernel_rfl) (by simp) ?_
        refine (AllReadyH.cons rfl (fun K hK => ?_) AllReadyH.nil)
        have s0 := sp.at 0 _ rfl
        have q0 := sp.free 0
        have s1 := sp.at 1 _ rfl
        have q1 := sp.free 1
        have s2 := sp.at 2 _ rfl
        have q2 := sp.free 2
        go_simp
        refine held_put3 hK.out hS sp ?_ ?_ ?_
        · omega
        · omega
        clear hS hK sp s0 s1 s2 q0 q1 q2
        intro X hS sp
        replace sp := sp.is (ds := #[.int .i64 0, .int .i64 0, .int .i64 0]) rfl
        try simp only [Act.put, List.getElem_toArray, List.getElem_cons_zero, List.getElem_cons_succ, List.setIfInBounds_toArray, List.set_cons_zero, List.set_cons_succ]
        refine wpAnyH_take (i := 16) (v := ?_) rfl (by kernel_rfl) (by kernel_rfl) (by kernel_rfl) (fun _ _ _ h => h) (Or.inl ⟨by rfl, ?_⟩) (by assumption) ?_
        rotate_left
        · intro W hSW; (try dsimp only at hSW); go_simp; (first | done | with_reducible rfl)
        simp only [Act.put, List.getElem_toArray, List.getElem_cons_zero, List.getElem_cons_succ, List.setIfInBounds_toArray, List.set_cons_zero, List.set_cons_succ]
        refine wpAnyH_done (by kernel_rfl) ?_ _
        obtain ⟨hk, a⟩ := hS
        have a0' := a.at 0 _ rfl
        have a1' := a.at 1 _ rfl
        have a2' := a.at 2 _ rfl
        have s0' := sp.at 0 _ rfl
        have s1' := sp.at 1 _ rfl
        have s2' := sp.at 2 _ rfl
        go_wp2_with (first | (go_at_call 17; refine (num_any _ _).mono ?_; rintro e w4 ⟨rfl, rfl⟩) | fail)
        go_ret
        exact ⟨rfl, hk⟩
    · skip
      have nb0 := nb.at 0 _ rfl
      have nb1 := nb.at 1 _ rfl
      go_simp
      clear nb0 nb1 nb
      refine hK.out _ _ (hS) (fun hS2 => ?_)
      clear hS hK
      have hS := hS2
      clear hS2
      try simp only [Act.put, List.getElem_toArray, List.getElem_cons_zero, List.getElem_cons_succ, List.setIfInBounds_toArray, List.set_cons_zero, List.set_cons_succ]
      refine wpAnyH_ready (rs := [0, 14]) (by kernel_rfl) (by simp) ?_
      refine (AllReadyH.cons rfl (fun K hK => ?_) (AllReadyH.cons rfl (fun K hK => ?_) AllReadyH.nil))
      · skip
        go_simp
        refine (newStyle_lit _).mono ?_
        rintro e w3 ⟨rfl, hn⟩
        refine hK.out _ _ (⟨hS.1.trans hn, hS.2.kept hn⟩) (fun hS2 => ?_)
        clear hS hK
        have hS := hS2
        clear hS2
        try simp only [Act.put, List.getElem_toArray, List.getElem_cons_zero, List.getElem_cons_succ, List.setIfInBounds_toArray, List.set_cons_zero, List.set_cons_succ]
        refine wpAnyH_ready (rs := [10, 14]) (by kernel_rfl) (by simp) ?_
        refine (AllReadyH.cons rfl (fun K hK => ?_) (AllReadyH.cons rfl (fun K hK => ?_) AllReadyH.nil))
        · skip
          go_simp
          refine (eqBlock_any newS (4194304 + (1 + d)) _).mono ?_
          rintro e w3 ⟨rfl, hn⟩
          refine hK.out _ _ (⟨hS.1.trans hn, hS.2.kept hn⟩) (fun hS2 => ?_)
          clear hS hK
          have hS := hS2
          clear hS2
          try simp only [Act.put, List.getElem_toArray, List.getElem_cons_zero, List.getElem_cons_succ, List.setIfInBounds_toArray, List.set_cons_zero, List.set_cons_succ]
          refine wpAnyH_take (i := 11) (v := ?_) rfl (by kernel_rfl) (by kernel_rfl) (by kernel_rfl) (fun _ _ _ h => h) (Or.inl ⟨by rfl, ?_⟩) (by assumption) ?_
          rotate_left
          · intro W hSW; (try dsimp only at hSW); go_simp; (first | done | with_reducible rfl)
          simp only [Act.put, List.getElem_toArray, List.getElem_cons_zero, List.getElem_cons_succ, List.setIfInBounds_toArray, List.set_cons_zero, List.set_cons_succ]
          refine wpAnyH_take (i := 12) (v := ?_) rfl (by kernel_rfl) (by kernel_rfl) (by kernel_rfl) (fun _ _ _ h => h) (Or.inl ⟨by rfl, ?_⟩) (by assumption) ?_
          rotate_left
          · intro W hSW; (try dsimp only at hSW); go_simp; (first | done | with_reducible rfl)
          simp only [Act.put, List.getElem_toArray, List.getElem_cons_zero, List.getElem_cons_succ, List.setIfInBounds_toArray, List.set_cons_zero, List.set_cons_succ]
          refine wpAnyH_take (i := 13) (v := ?_) rfl (by kernel_rfl) (by kernel_rfl) (by kernel_rfl) (fun _ _ _ h => h) (Or.inl ⟨by rfl, ?_⟩) (by assumption) ?_
          rotate_left
          · intro W hSW; (try dsimp only at hSW); go_simp; (first | done | with_reducible rfl)
          simp only [Act.put, List.getElem_toArray, List.getElem_cons_zero, List.getElem_cons_succ, List.setIfInBounds_toArray, List.set_cons_zero, List.set_cons_succ]
          refine wpAnyH_ready (rs := [14]) (by kernel_rfl) (by simp) ?_
          refine (AllReadyH.cons rfl (fun K hK => ?_) AllReadyH.nil)
          have al := hS.2.lt
          have al2 := hS.1.size
          try dsimp only [World.drew] at al al2
          go_simp
          refine held_new hK.out ⟨hS.1.alloc _, hS.2.alloc _⟩ ?_
          intro X eX hS2 sp
          clear hS hK
          have hS := hS2
          clear hS2
          try dsimp only [World.drew] at sp
          clear eX
          try simp only [Act.put, List.getElem_toArray, List.getElem_cons_zero, List.getElem_cons_succ, List.setIfInBounds_toArray, List.set_cons_zero, List.set_cons_succ]
          refine wpAnyH_ready (rs := [15]) (by kernel_rfl) (by simp) ?_
          refine (AllReadyH.cons rfl (fun K hK => ?_) AllReadyH.nil)
          have s0 := sp.at 0 _ rfl
          have q0 := sp.free 0
          have s1 := sp.at 1 _ rfl
          have q1 := sp.free 1
          have s2 := sp.at 2 _ rfl
          have q2 := sp.free 2
          go_simp
          refine held_put3 hK.out hS sp ?_ ?_ ?_
          · omega
          · omega
          clear hS hK sp s0 s1 s2 q0 q1 q2
          intro X hS sp
          replace sp := sp.is (ds := #[.int .i64 0, .int .i64 0, .int .i64 0]) rfl
          try simp only [Act.put, List.getElem_toArray, List.getElem_cons_zero, List.getElem_cons_succ, List.setIfInBounds_toArray, List.set_cons_zero, List.set_cons_succ]
          refine wpAnyH_take (i := 16) (v := ?_) rfl (by kernel_rfl) (by kernel_rfl) (by kernel_rfl) (fun _ _ _ h => h) (Or.inl ⟨by rfl, ?_⟩) (by assumption) ?_
          rotate_left
          · intro W hSW; (try dsimp only at hSW); go_simp; (first | done | with_reducible rfl)
          simp only [Act.put, List.getElem_toArray, List.getElem_cons_zero, List.getElem_cons_succ, List.setIfInBounds_toArray, List.set_cons_zero, List.set_cons_succ]
          refine wpAnyH_done (by kernel_rfl) ?_ _
          obtain ⟨hk, a⟩ := hS
          have a0' := a.at 0 _ rfl
          have a1' := a.at 1 _ rfl
          have a2' := a.at 2 _ rfl
          have s0' := sp.at 0 _ rfl
          have s1' := sp.at 1 _ rfl
          have s2' := sp.at 2 _ rfl
          go_wp2_with (first | (go_at_call 17; refine (num_any _ _).mono ?_; rintro e w4 ⟨rfl, rfl⟩) | fail)
          go_ret
          exact ⟨rfl, hk⟩
        · skip
          have al := hS.2.lt
          have al2 := hS.1.size
          try dsimp only [World.drew] at al al2
          go_simp
          refine held_new hK.out ⟨hS.1.alloc _, hS.2.alloc _⟩ ?_
          intro X eX hS2 sp
          clear hS hK
          have hS := hS2
          clear hS2
          try dsimp only [World.drew] at sp
          clear eX
          try simp only [Act.put, List.getElem_toArray, List.getElem_cons_zero, List.getElem_cons_succ, List.setIfInBounds_toArray, List.set_cons_zero, List.set_cons_succ]
          refine wpAnyH_ready (rs := [10]) (by kernel_rfl) (by simp) ?_
          refine (AllReadyH.cons rfl (fun K hK => ?_) AllReadyH.nil)
          go_simp
          refine (eqBlock_any newS (4194304 + (1 + d)) _).mono ?_
          rintro e w3 ⟨rfl, hn⟩
          replace sp := sp.kept hn
          refine hK.out _ _ (⟨hS.1.trans hn, hS.2.kept hn⟩) (fun hS2 => ?_)
          clear hS hK
          have hS := hS2
          clear hS2
          try simp only [Act.put, List.getElem_toArray, List.getElem_cons_zero, List.getElem_cons_succ, List.setIfInBounds_toArray, List.set_cons_zero, List.set_cons_succ]
          refine wpAnyH_take (i := 11) (v := ?_) rfl (by kernel_rfl) (by kernel_rfl) (by kernel_rfl) (fun _ _ _ h => h) (Or.inl ⟨by rfl, ?_⟩) (by assumption) ?_
          rotate_left
          · intro W hSW; (try dsimp only at hSW); go_simp; (first | done | with_reducible rfl)
          simp only [Act.put, List.getElem_toArray, List.getElem_cons_zero, List.getElem_cons_succ, List.setIfInBounds_toArray, List.set_cons_zero, List.set_cons_succ]
          refine wpAnyH_take (i := 12) (v := ?_) rfl (by kernel_rfl) (by kernel_rfl) (by kernel_rfl) (fun _ _ _ h => h) (Or.inl ⟨by rfl, ?_⟩) (by assumption) ?_
          rotate_left
          · intro W hSW; (try dsimp only at hSW); go_simp; (first | done | with_reducible rfl)
          simp only [Act.put, List.getElem_toArray, List.getElem_cons_zero, List.getElem_cons_succ, List.setIfInBounds_toArray, List.set_cons_zero, List.set_cons_succ]
          refine wpAnyH_take (i := 13) (v := ?_) rfl (by kernel_rfl) (by kernel_rfl) (by kernel_rfl) (fun _ _ _ h => h) (Or.inl ⟨by rfl, ?_⟩) (by assumption) ?_
          rotate_left
          · intro W hSW; (try dsimp only at hSW); go_simp; (first | done | with_reducible rfl)
          simp only [Act.put, List.getElem_toArray, List.getElem_cons_zero, List.getElem_cons_succ, List.setIfInBounds_toArray, List.set_cons_zero, List.set_cons_succ]
          refine wpAnyH_ready (rs := [15]) (by kernel_rfl) (by simp) ?_
          refine (AllReadyH.cons rfl (fun K hK => ?_) AllReadyH.nil)
          have s0 := sp.at 0 _ rfl
          have q0 := sp.free 0
          have s1 := sp.at 1 _ rfl
          have q1 := sp.free 1
          have s2 := sp.at 2 _ rfl
          have q2 := sp.free 2
          go_simp
          refine held_put3 hK.out hS sp ?_ ?_ ?_
          · omega
          · omega
          clear hS hK sp s0 s1 s2 q0 q1 q2
          intro X hS sp
          replace sp := sp.is (ds := #[.int .i64 0, .int .i64 0, .int .i64 0]) rfl
          try simp only [Act.put, List.getElem_toArray, List.getElem_cons_zero, List.getElem_cons_succ, List.setIfInBounds_toArray, List.set_cons_zero, List.set_cons_succ]
          refine wpAnyH_take (i := 16) (v := ?_) rfl (by kernel_rfl) (by kernel_rfl) (by kernel_rfl) (fun _ _ _ h => h) (Or.inl ⟨by rfl, ?_⟩) (by assumption) ?_
          rotate_left
          · intro W hSW; (try dsimp only at hSW); go_simp; (first | done | with_reducible rfl)
          simp only [Act.put, List.getElem_toArray, List.getElem_cons_zero, List.getElem_cons_succ, List.setIfInBounds_toArray, List.set_cons_zero, List.set_cons_succ]
          refine wpAnyH_done (by kernel_rfl) ?_ _
          obtain ⟨hk, a⟩ := hS
          have a0' := a.at 0 _ rfl
          have a1' := a.at 1 _ rfl
          have a2' := a.at 2 _ rfl
          have s0' := sp.at 0 _ rfl
          have s1' := sp.at 1 _ rfl
          have s2' := sp.at 2 _ rfl
          go_wp2_with (first | (go_at_call 17; refine (num_any _ _).mono ?_; rintro e w4 ⟨rfl, rfl⟩) | fail)
          go_ret
          exact ⟨rfl, hk⟩
      · skip
        have al := hS.2.lt
        have al2 := hS.1.size
        try dsimp only [World.drew] at al al2
        go_simp
        refine held_new hK.out ⟨hS.1.alloc _, hS.2.alloc _⟩ ?_
        intro X eX hS2 sp
        clear hS hK
        have hS := hS2
        clear hS2
        try dsimp only [World.drew] at sp
        clear eX
        try simp only [Act.put, List.getElem_toArray, List.getElem_cons_zero, List.getElem_cons_succ, List.setIfInBounds_toArray, List.set_cons_zero, List.set_cons_succ]
        refine wpAnyH_ready (rs := [0]) (by kernel_rfl) (by simp) ?_
        refine (AllReadyH.cons rfl (fun K hK => ?_) AllReadyH.nil)
        go_simp
        refine (newStyle_lit _).mono ?_
        rintro e w3 ⟨rfl, hn⟩
        replace sp := sp.kept hn
        refine hK.out _ _ (⟨hS.1.trans hn, hS.2.kept hn⟩) (fun hS2 => ?_)
        clear hS hK
        have hS := hS2
        clear hS2
        try simp only [Act.put, List.getElem_toArray, List.getElem_cons_zero, List.getElem_cons_succ, List.setIfInBounds_toArray, List.set_cons_zero, List.set_cons_succ]
        refine wpAnyH_ready (rs := [10]) (by kernel_rfl) (by simp) ?_
        refine (AllReadyH.cons rfl (fun K hK => ?_) AllReadyH.nil)
        go_simp
        refine (eqBlock_any newS (4194304 + (1 + d)) _).mono ?_
        rintro e w3 ⟨rfl, hn⟩
        replace sp := sp.kept hn
        refine hK.out _ _ (⟨hS.1.trans hn, hS.2.kept hn⟩) (fun hS2 => ?_)
        clear hS hK
        have hS := hS2
        clear hS2
        try simp only [Act.put, List.getElem_toArray, List.getElem_cons_zero, List.getElem_cons_succ, List.setIfInBounds_toArray, List.set_cons_zero, List.set_cons_succ]
        refine wpAnyH_take (i := 11) (v := ?_) rfl (by kernel_rfl) (by kernel_rfl) (by kernel_rfl) (fun _ _ _ h => h) (Or.inl ⟨by rfl, ?_⟩) (by assumption) ?_
        rotate_left
        · intro W hSW; (try dsimp only at hSW); go_simp; (first | done | with_reducible rfl)
        simp only [Act.put, List.getElem_toArray, List.getElem_cons_zero, List.getElem_cons_succ, List.setIfInBounds_toArray, List.set_cons_zero, List.set_cons_succ]
        refine wpAnyH_take (i := 12) (v := ?_) rfl (by kernel_rfl) (by kernel_rfl) (by kernel_rfl) (fun _ _ _ h => h) (Or.inl ⟨by rfl, ?_⟩) (by assumption) ?_
        rotate_left
        · intro W hSW; (try dsimp only at hSW); go_simp; (first | done | with_reducible rfl)
        simp only [Act.put, List.getElem_toArray, List.getElem_cons_zero, List.getElem_cons_succ, List.setIfInBounds_toArray, List.set_cons_zero, List.set_cons_succ]
        refine wpAnyH_take (i := 13) (v := ?_) rfl (by kernel_rfl) (by kernel_rfl) (by kernel_rfl) (fun _ _ _ h => h) (Or.inl ⟨by rfl, ?_⟩) (by assumption) ?_
        rotate_left
        · intro W hSW; (try dsimp only at hSW); go_simp; (first | done | with_reducible rfl)
        simp only [Act.put, List.getElem_toArray, List.getElem_cons_zero, List.getElem_cons_succ, List.setIfInBounds_toArray, List.set_cons_zero, List.set_cons_succ]
        refine wpAnyH_ready (rs := [15]) (by kernel_rfl) (by simp) ?_
        refine (AllReadyH.cons rfl (fun K hK => ?_) AllReadyH.nil)
        have s0 := sp.at 0 _ rfl
        have q0 := sp.free 0
        have s1 := sp.at 1 _ rfl
        have q1 := sp.free 1
        have s2 := sp.at 2 _ rfl
        have q2 := sp.free 2
        go_simp
        refine held_put3 hK.out hS sp ?_ ?_ ?_
        · omega
        · omega
        clear hS hK sp s0 s1 s2 q0 q1 q2
        intro X hS sp
        replace sp := sp.is (ds := #[.int .i64 0, .int .i64 0, .int .i64 0]) rfl
        try simp only [Act.put, List.getElem_toArray, List.getElem_cons_zero, List.getElem_cons_succ, List.setIfInBounds_toArray, List.set_cons_zero, List.set_cons_succ]
        refine wpAnyH_take (i := 16) (v := ?_) rfl (by kernel_rfl) (by kernel_rfl) (by kernel_rfl) (fun _ _ _ h => h) (Or.inl ⟨by rfl, ?_⟩) (by assumption) ?_
        rotate_left
        · intro W hSW; (try dsimp only at hSW); go_simp; (first | done | with_reducible rfl)
        simp only [Act.put, List.getElem_toArray, List.getElem_cons_zero, List.getElem_cons_succ, List.setIfInBounds_toArray, List.set_cons_zero, List.set_cons_succ]
        refine wpAnyH_done (by kernel_rfl) ?_ _
        obtain ⟨hk, a⟩ := hS
        have a0' := a.at 0 _ rfl
        have a1' := a.at 1 _ rfl
        have a2' := a.at 2 _ rfl
        have s0' := sp.at 0 _ rfl
        have s1' := sp.at 1 _ rfl
        have s2' := sp.at 2 _ rfl
        go_wp2_with (first | (go_at_call 17; refine (num_any _ _).mono ?_; rintro e w4 ⟨rfl, rfl⟩) | fail)
        go_ret
        exact ⟨rfl, hk⟩
    · skip
      have al := hS.2.lt
      have al2 := hS.1.size
      try dsimp only [World.drew] at al al2
      go_simp
      refine held_new hK.out ⟨hS.1.alloc _, hS.2.alloc _⟩ ?_
      intro X eX hS2 sp
      clear hS hK
      have hS := hS2
      clear hS2
      try dsimp only [World.drew] at sp
      replace nb := (eX ▸ nb.alloc _ : Own X _ _ _)
      clear eX
      try simp only [Act.put, List.getElem_toArray, List.getElem_cons_zero, List.getElem_cons_succ, List.setIfInBounds_toArray, List.set_cons_zero, List.set_cons_succ]
      refine wpAnyH_ready (rs := [0, 9]) (by kernel_rfl) (by simp) ?_
      refine (AllReadyH.cons rfl (fun K hK => ?_) (AllReadyH.cons rfl (fun K hK => ?_) AllReadyH.nil))
      · skip
        go_simp
        refine (newStyle_lit _).mono ?_
        rintro e w3 ⟨rfl, hn⟩
        replace nb := nb.kept hn
        replace sp := sp.kept hn
        refine hK.out _ _ (⟨hS.1.trans hn, hS.2.kept hn⟩) (fun hS2 => ?_)
        clear hS hK
        have hS := hS2
        clear hS2
        try simp only [Act.put, List.getElem_toArray, List.getElem_cons_zero, List.getElem_cons_succ, List.setIfInBounds_toArray, List.set_cons_zero, List.set_cons_succ]
        refine wpAnyH_ready (rs := [9]) (by kernel_rfl) (by simp) ?_
        refine (AllReadyH.cons rfl (fun K hK => ?_) AllReadyH.nil)
        have nb0 := nb.at 0 _ rfl
        have nb1 := nb.at 1 _ rfl
        go_simp
        clear nb0 nb1 nb
        refine hK.out _ _ (hS) (fun hS2 => ?_)
        clear hS hK
        have hS := hS2
        clear hS2
        try simp only [Act.put, List.getElem_toArray, List.getElem_cons_zero, List.getElem_cons_succ, List.setIfInBounds_toArray, List.set_cons_zero, List.set_cons_succ]
        refine wpAnyH_ready (rs := [10]) (by kernel_rfl) (by simp) ?_
        refine (AllReadyH.cons rfl (fun K hK => ?_) AllReadyH.nil)
        go_simp
        refine (eqBlock_any newS (4194304 + (1 + d)) _).mono ?_
        rintro e w3 ⟨rfl, hn⟩
        replace sp := sp.kept hn
        refine hK.out _ _ (⟨hS.1.trans hn, hS.2.kept hn⟩) (fun hS2 => ?_)
        clear hS hK
        have hS := hS2
        clear hS2
        try simp only [Act.put, List.getElem_toArray, List.getElem_cons_zero, List.getElem_cons_succ, List.setIfInBounds_toArray, List.set_cons_zero, List.set_cons_succ]
        refine wpAnyH_take (i := 11) (v := ?_) rfl (by kernel_rfl) (by kernel_rfl) (by kernel_rfl) (fun _ _ _ h => h) (Or.inl ⟨by rfl, ?_⟩) (by assumption) ?_
        rotate_left
        · intro W hSW; (try dsimp only at hSW); go_simp; (first | done | with_reducible rfl)
        simp only [Act.put, List.getElem_toArray, List.getElem_cons_zero, List.getElem_cons_succ, List.setIfInBounds_toArray, List.set_cons_zero, List.set_cons_succ]
        refine wpAnyH_take (i := 12) (v := ?_) rfl (by kernel_rfl) (by kernel_rfl) (by kernel_rfl) (fun _ _ _ h => h) (Or.inl ⟨by rfl, ?_⟩) (by assumption) ?_
        rotate_left
        · intro W hSW; (try dsimp only at hSW); go_simp; (first | done | with_reducible rfl)
        simp only [Act.put, List.getElem_toArray, List.getElem_cons_zero, List.getElem_cons_succ, List.setIfInBounds_toArray, List.set_cons_zero, List.set_cons_succ]
        refine wpAnyH_take (i := 13) (v := ?_) rfl (by kernel_rfl) (by kernel_rfl) (by kernel_rfl) (fun _ _ _ h => h) (Or.inl ⟨by rfl, ?_⟩) (by assumption) ?_
        rotate_left
        · intro W hSW; (try dsimp only at hSW); go_simp; (first | done | with_reducible rfl)
        simp only [Act.put, List.getElem_toArray, List.getElem_cons_zero, List.getElem_cons_succ, List.setIfInBounds_toArray, List.set_cons_zero, List.set_cons_succ]
        refine wpAnyH_ready (rs := [15]) (by kernel_rfl) (by simp) ?_
        refine (AllReadyH.cons rfl (fun K hK => ?_) AllReadyH.nil)
        have s0 := sp.at 0 _ rfl
        have q0 := sp.free 0
        have s1 := sp.at 1 _ rfl
        have q1 := sp.free 1
        have s2 := sp.at 2 _ rfl
        have q2 := sp.free 2
        go_simp
        refine held_put3 hK.out hS sp ?_ ?_ ?_
        · omega
        · omega
        clear hS hK sp s0 s1 s2 q0 q1 q2
        intro X hS sp
        replace sp := sp.is (ds := #[.int .i64 0, .int .i64 0, .int .i64 0]) rfl
        try simp only [Act.put, List.getElem_toArray, List.getElem_cons_zero, List.getElem_cons_succ, List.setIfInBounds_toArray, List.set_cons_zero, List.set_cons_succ]
        refine wpAnyH_take (i := 16) (v := ?_) rfl (by kernel_rfl) (by kernel_rfl) (by kernel_rfl) (fun _ _ _ h => h) (Or.inl ⟨by rfl, ?_⟩) (by assumption) ?_
        rotate_left
        · intro W hSW; (try dsimp only at hSW); go_simp; (first | done | with_reducible rfl)
        simp only [Act.put, List.getElem_toArray, List.getElem_cons_zero, List.getElem_cons_succ, List.setIfInBounds_toArray, List.set_cons_zero, List.set_cons_succ]
        refine wpAnyH_done (by kernel_rfl) ?_ _
        obtain ⟨hk, a⟩ := hS
        have a0' := a.at 0 _ rfl
        have a1' := a.at 1 _ rfl
        have a2' := a.at 2 _ rfl
        have s0' := sp.at 0 _ rfl
        have s1' := sp.at 1 _ rfl
        have s2' := sp.at 2 _ rfl
        go_wp2_with (first | (go_at_call 17; refine (num_any _ _).mono ?_; rintro e w4 ⟨rfl, rfl⟩) | fail)
        go_ret
        exact ⟨rfl, hk⟩
      · skip
        have nb0 := nb.at 0 _ rfl
        have nb1 := nb.at 1 _ rfl
        go_simp
        clear nb0 nb1 nb
        refine hK.out _ _ (hS) (fun hS2 => ?_)
        clear hS hK
        have hS := hS2
        clear hS2
        try simp only [Act.put, List.getElem_toArray, List.getElem_cons_zero, List.getElem_cons_succ, List.setIfInBounds_toArray, List.set_cons_zero, List.set_cons_succ]
        refine wpAnyH_ready (rs := [0]) (by kernel_rfl) (by simp) ?_
        refine (AllReadyH.cons rfl (fun K hK => ?_) AllReadyH.nil)
        go_simp
        refine (newStyle_lit _).mono ?_
        rintro e w3 ⟨rfl, hn⟩
        replace sp := sp.kept hn
        refine hK.out _ _ (⟨hS.1.trans hn, hS.2.kept hn⟩) (fun hS2 => ?_)
        clear hS hK
        have hS := hS2
        clear hS2
        try simp only [Act.put, List.getElem_toArray, List.getElem_cons_zero, List.getElem_cons_succ, List.setIfInBounds_toArray, List.set_cons_zero, List.set_cons_succ]
        refine wpAnyH_ready (rs := [10]) (by kernel_rfl) (by simp) ?_
        refine (AllReadyH.cons rfl (fun K hK => ?_) AllReadyH.nil)
        go_simp
        refine (eqBlock_any newS (4194304 + (1 + d)) _).mono ?_
        rintro e w3 ⟨rfl, hn⟩
        replace sp := sp.kept hn
        refine hK.out _ _ (⟨hS.1.trans hn, hS.2.kept hn⟩) (fun hS2 => ?_)
        clear hS hK
        have hS := hS2
        clear hS2
        try simp only [Act.put, List.getElem_toArray, List.getElem_cons_zero, List.getElem_cons_succ, List.setIfInBounds_toArray, List.set_cons_zero, List.set_cons_succ]
        refine wpAnyH_take (i := 11) (v := ?_) rfl (by kernel_rfl) (by kernel_rfl) (by kernel_rfl) (fun _ _ _ h => h) (Or.inl ⟨by rfl, ?_⟩) (by assumption) ?_
        rotate_left
        · intro W hSW; (try dsimp only at hSW); go_simp; (first | done | with_reducible rfl)
        simp only [Act.put, List.getElem_toArray, List.getElem_cons_zero, List.getElem_cons_succ, List.setIfInBounds_toArray, List.set_cons_zero, List.set_cons_succ]
        refine wpAnyH_take (i := 12) (v := ?_) rfl (by kernel_rfl) (by kernel_rfl) (by kernel_rfl) (fun _ _ _ h => h) (Or.inl ⟨by rfl, ?_⟩) (by assumption) ?_
        rotate_left
        · intro W hSW; (try dsimp only at hSW); go_simp; (first | done | with_reducible rfl)
        simp only [Act.put, List.getElem_toArray, List.getElem_cons_zero, List.getElem_cons_succ, List.setIfInBounds_toArray, List.set_cons_zero, List.set_cons_succ]
        refine wpAnyH_take (i := 13) (v := ?_) rfl (by kernel_rfl) (by kernel_rfl) (by kernel_rfl) (fun _ _ _ h => h) (Or.inl ⟨by rfl, ?_⟩) (by assumption) ?_
        rotate_left
        · intro W hSW; (try dsimp only at hSW); go_simp; (first | done | with_reducible rfl)
        simp only [Act.put, List.getElem_toArray, List.getElem_cons_zero, List.getElem_cons_succ, List.setIfInBounds_toArray, List.set_cons_zero, List.set_cons_succ]
        refine wpAnyH_ready (rs := [15]) (by kernel_rfl) (by simp) ?_
        refine (AllReadyH.cons rfl (fun K hK => ?_) AllReadyH.nil)
        have s0 := sp.at 0 _ rfl
        have q0 := sp.free 0
        have s1 := sp.at 1 _ rfl
        have q1 := sp.free 1
        have s2 := sp.at 2 _ rfl
        have q2 := sp.free 2
        go_simp
        refine held_put3 hK.out hS sp ?_ ?_ ?_
        · omega
        · omega
        clear hS hK sp s0 s1 s2 q0 q1 q2
        intro X hS sp
        replace sp := sp.is (ds := #[.int .i64 0, .int .i64 0, .int .i64 0]) rfl
        try simp only [Act.put, List.getElem_toArray, List.getElem_cons_zero, List.getElem_cons_succ, List.setIfInBounds_toArray, List.set_cons_zero, List.set_cons_succ]
        refine wpAnyH_take (i := 16) (v := ?_) rfl (by kernel_rfl) (by kernel_rfl) (by kernel_rfl) (fun _ _ _ h => h) (Or.inl ⟨by rfl, ?_⟩) (by assumption) ?_
        rotate_left
        · intro W hSW; (try dsimp only at hSW); go_simp; (first | done | with_reducible rfl)
        simp only [Act.put, List.getElem_toArray, List.getElem_cons_zero, List.getElem_cons_succ, List.setIfInBounds_toArray, List.set_cons_zero, List.set_cons_succ]
        refine wpAnyH_done (by kernel_rfl) ?_ _
        obtain ⟨hk, a⟩ := hS
        have a0' := a.at 0 _ rfl
        have a1' := a.at 1 _ rfl
        have a2' := a.at 2 _ rfl
        have s0' := sp.at 0 _ rfl
        have s1' := sp.at 1 _ rfl
        have s2' := sp.at 2 _ rfl
        go_wp2_with (first | (go_at_call 17; refine (num_any _ _).mono ?_; rintro e w4 ⟨rfl, rfl⟩) | fail)
        go_ret
        exact ⟨rfl, hk⟩
  · skip
    have al := hS.2.lt
    have al2 := hS.1.size
    try dsimp only [World.drew] at al al2
    go_simp
    refine held_new hK.out ⟨hS.1.alloc _, hS.2.alloc _⟩ ?_
    intro X eX hS2 sp
    clear hS hK
    have hS := hS2
    clear hS2
    try dsimp only [World.drew] at sp
    clear eX
    try simp only [Act.put, List.getElem_toArray, List.getElem_cons_zero, List.getElem_cons_succ, List.setIfInBounds_toArray, List.set_cons_zero, List.set_cons_succ]
    refine wpAnyH_ready (rs := [0, 5]) (by kernel_rfl) (by simp) ?_
    refine (AllReadyH.cons rfl (fun K hK => ?_) (AllReadyH.cons rfl (fun K hK => ?_) AllReadyH.nil))
    · skip
      go_simp
      refine (newStyle_lit _).mono ?_
      rintro e w3 ⟨rfl, hn⟩
      replace sp := sp.kept hn
      refine hK.out _ _ (⟨hS.1.trans hn, hS.2.kept hn⟩) (fun hS2 => ?_)
      clear hS hK
      have hS := hS2
      clear hS2
      try simp only [Act.put, List.getElem_toArray, List.getElem_cons_zero, List.getElem_cons_succ, List.setIfInBounds_toArray, List.set_cons_zero, List.set_cons_succ]
      refine wpAnyH_ready (rs := [5]) (by kernel_rfl) (by simp) ?_
      refine (AllReadyH.cons rfl (fun K hK => ?_) AllReadyH.nil)
      go_simp
      refine held_new hK.out ⟨hS.1.alloc _, hS.2.alloc _⟩ ?_
      intro X eX hS2 nb
      clear hS hK
      have hS := hS2
      clear hS2
      try dsimp only [World.drew] at nb
      replace sp := (eX ▸ sp.alloc _ : Own X _ _ _)
      clear eX
      try simp only [Act.put, List.getElem_toArray, List.getElem_cons_zero, List.getElem_cons_succ, List.setIfInBounds_toArray, List.set_cons_zero, List.set_cons_succ]
      refine wpAnyH_take (i := 8) (v := ?_) rfl (by kernel_rfl) (by kernel_rfl) (by kernel_rfl) (fun _ _ _ h => h) (Or.inl ⟨by rfl, ?_⟩) (by assumption) ?_
      rotate_left
      · intro W hSW; (try dsimp only at hSW); go_simp; (first | done | with_reducible rfl)
      simp only [Act.put, List.getElem_toArray, List.getElem_cons_zero, List.getElem_cons_succ, List.setIfInBounds_toArray, List.set_cons_zero, List.set_cons_succ]
      refine wpAnyH_ready (rs := [9]) (by kernel_rfl) (by simp) ?_
      refine (AllReadyH.cons rfl (fun K hK => ?_) AllReadyH.nil)
      have nb0 := nb.at 0 _ rfl
      have nb1 := nb.at 1 _ rfl
      go_simp
      clear nb0 nb1 nb
      refine hK.out _ _ (hS) (fun hS2 => ?_)
      clear hS hK
      have hS := hS2
      clear hS2
      try simp only [Act.put, List.getElem_toArray, List.getElem_cons_zero, List.getElem_cons_succ, List.setIfInBounds_toArray, List.set_cons_zero, List.set_cons_succ]
      refine wpAnyH_ready (rs := [10]) (by kernel_rfl) (by simp) ?_
      refine (AllReadyH.cons rfl (fun K hK => ?_) AllReadyH.nil)
      go_simp
      refine (eqBlock_any newS (4194304 + (1 + d)) _).mono ?_
      rintro e w3 ⟨rfl, hn⟩
      replace sp := sp.kept hn
      refine hK.out _ _ (⟨hS.1.trans hn, hS.2.kept hn⟩) (fun hS2 => ?_)
      clear hS hK
      have hS := hS2
      clear hS2
      try simp only [Act.put, List.getElem_toArray, List.getElem_cons_zero, List.getElem_cons_succ, List.setIfInBounds_toArray, List.set_cons_zero, List.set_cons_succ]
      refine wpAnyH_take (i := 11) (v := ?_) rfl (by kernel_rfl) (by kernel_rfl) (by kernel_rfl) (fun _ _ _ h => h) (Or.inl ⟨by rfl, ?_⟩) (by assumption) ?_
      rotate_left
      · intro W hSW; (try dsimp only at hSW); go_simp; (first | done | with_reducible rfl)
      simp only [Act.put, List.getElem_toArray, List.getElem_cons_zero, List.getElem_cons_succ, List.setIfInBounds_toArray, List.set_cons_zero, List.set_cons_succ]
      refine wpAnyH_take (i := 12) (v := ?_) rfl (by kernel_rfl) (by kernel_rfl) (by kernel_rfl) (fun _ _ _ h => h) (Or.inl ⟨by rfl, ?_⟩) (by assumption) ?_
      rotate_left
      · intro W hSW; (try dsimp only at hSW); go_simp; (first | done | with_reducible rfl)
      simp only [Act.put, List.getElem_toArray, List.getElem_cons_zero, List.getElem_cons_succ, List.setIfInBounds_toArray, List.set_cons_zero, List.set_cons_succ]
      refine wpAnyH_take (i := 13) (v := ?_) rfl (by kernel_rfl) (by kernel_rfl) (by kernel_rfl) (fun _ _ _ h => h) (Or.inl ⟨by rfl, ?_⟩) (by assumption) ?_
      rotate_left
      · intro W hSW; (try dsimp only at hSW); go_simp; (first | done | with_reducible rfl)
      simp only [Act.put, List.getElem_toArray, List.getElem_cons_zero, List.getElem_cons_succ, List.setIfInBounds_toArray, List.set_cons_zero, List.set_cons_succ]
      refine wpAnyH_ready (rs := [15]) (by kernel_rfl) (by simp) ?_
      refine (AllReadyH.cons rfl (fun K hK => ?_) AllReadyH.nil)
      have s0 := sp.at 0 _ rfl
      have q0 := sp.free 0
      have s1 := sp.at 1 _ rfl
      have q1 := sp.free 1
      have s2 := sp.at 2 _ rfl
      have q2 := sp.free 2
      go_simp
      refine held_put3 hK.out hS sp ?_ ?_ ?_
      · omega
      · omega
      clear hS hK sp s0 s1 s2 q0 q1 q2
      intro X hS sp
      replace sp := sp.is (ds := #[.int .i64 0, .int .i64 0, .int .i64 0]) rfl
      try simp only [Act.put, List.getElem_toArray, List.getElem_cons_zero, List.getElem_cons_succ, List.setIfInBounds_toArray, List.set_cons_zero, List.set_cons_succ]
      refine wpAnyH_take (i := 16) (v := ?_) rfl (by kernel_rfl) (by kernel_rfl) (by kernel_rfl) (fun _ _ _ h => h) (Or.inl ⟨by rfl, ?_⟩) (by assumption) ?_
      rotate_left
      · intro W hSW; (try dsimp only at hSW); go_simp; (first | done | with_reducible rfl)
      simp only [Act.put, List.getElem_toArray, List.getElem_cons_zero, List.getElem_cons_succ, List.setIfInBounds_toArray, List.set_cons_zero, List.set_cons_succ]
      refine wpAnyH_done (by kernel_rfl) ?_ _
      obtain ⟨hk, a⟩ := hS
      have a0' := a.at 0 _ rfl
      have a1' := a.at 1 _ rfl
      have a2' := a.at 2 _ rfl
      have s0' := sp.at 0 _ rfl
      have s1' := sp.at 1 _ rfl
      have s2' := sp.at 2 _ rfl
      go_wp2_with (first | (go_at_call 17; refine (num_any _ _).mono ?_; rintro e w4 ⟨rfl, rfl⟩) | fail)
      go_ret
      exact ⟨rfl, hk⟩
    · skip
      go_simp
      refine held_new hK.out ⟨hS.1.alloc _, hS.2.alloc _⟩ ?_
      intro X eX hS2 nb
      clear hS hK
      have hS := hS2
      clear hS2
      try dsimp only [World.drew] at nb
      replace sp := (eX ▸ sp.alloc _ : Own X _ _ _)
      clear eX
      try simp only [Act.put, List.getElem_toArray, List.getElem_cons_zero, List.getElem_cons_succ, List.setIfInBounds_toArray, List.set_cons_zero, List.set_cons_succ]
      refine wpAnyH_take (i := 8) (v := ?_) rfl (by kernel_rfl) (by kernel_rfl) (by kernel_rfl) (fun _ _ _ h => h) (Or.inl ⟨by rfl, ?_⟩) (by assumption) ?_
      rotate_left
      · intro W hSW; (try dsimp only at hSW); go_simp; (first | done | with_reducible rfl)
      simp only [Act.put, List.getElem_toArray, List.getElem_cons_zero, List.getElem_cons_succ, List.setIfInBounds_toArray, List.set_cons_zero, List.set_cons_succ]
      refine wpAnyH_ready (rs := [0, 9]) (by kernel_rfl) (by simp) ?_
      refine (AllReadyH.cons rfl (fun K hK => ?_) (AllReadyH.cons rfl (fun K hK => ?_) AllReadyH.nil))
      · skip
        go_simp
        refine (newStyle_lit _).mono ?_
        rintro e w3 ⟨rfl, hn⟩
        replace nb := nb.kept hn
        replace sp := sp.kept hn
        refine hK.out _ _ (⟨hS.1.trans hn, hS.2.kept hn⟩) (fun hS2 => ?_)
        clear hS hK
        have hS := hS2
        clear hS2
        try simp only [Act.put, List.getElem_toArray, List.getElem_cons_zero, List.getElem_cons_succ, List.setIfInBounds_toArray, List.set_cons_zero, List.set_cons_succ]
        refine wpAnyH_ready (rs := [9]) (by kernel_rfl) (by simp) ?_
        refine (AllReadyH.cons rfl (fun K hK => ?_) AllReadyH.nil)
        have nb0 := nb.at 0 _ rfl
        have nb1 := nb.at 1 _ rfl
        go_simp
        clear nb0 nb1 nb
        refine hK.out _ _ (hS) (fun hS2 => ?_)
        clear hS hK
        have hS := hS2
        clear hS2
        try simp only [Act.put, List.getElem_toArray, List.getElem_cons_zero, List.getElem_cons_succ, List.setIfInBounds_toArray, List.set_cons_zero, List.set_cons_succ]
        refine wpAnyH_ready (rs := [10]) (by kernel_rfl) (by simp) ?_
        refine (AllReadyH.cons rfl (fun K hK => ?_) AllReadyH.nil)
        go_simp
        refine (eqBlock_any newS (4194304 + (1 + d)) _).mono ?_
        rintro e w3 ⟨rfl, hn⟩
        replace sp := sp.kept hn
        refine hK.out _ _ (⟨hS.1.trans hn, hS.2.kept hn⟩) (fun hS2 => ?_)
        clear hS hK
        have hS := hS2
        clear hS2
        try simp only [Act.put, List.getElem_toArray, List.getElem_cons_zero, List.getElem_cons_succ, List.setIfInBounds_toArray, List.set_cons_zero, List.set_cons_succ]
        refine wpAnyH_take (i := 11) (v := ?_) rfl (by kernel_rfl) (by kernel_rfl) (by kernel_rfl) (fun _ _ _ h => h) (Or.inl ⟨by rfl, ?_⟩) (by assumption) ?_
        rotate_left
        · intro W hSW; (try dsimp only at hSW); go_simp; (first | done | with_reducible rfl)
        simp only [Act.put, List.getElem_toArray, List.getElem_cons_zero, List.getElem_cons_succ, List.setIfInBounds_toArray, List.set_cons_zero, List.set_cons_succ]
        refine wpAnyH_take (i := 12) (v := ?_) rfl (by kernel_rfl) (by kernel_rfl) (by kernel_rfl) (fun _ _ _ h => h) (Or.inl ⟨by rfl, ?_⟩) (by assumption) ?_
        rotate_left
        · intro W hSW; (try dsimp only at hSW); go_simp; (first | done | with_reducible rfl)
        simp only [Act.put, List.getElem_toArray, List.getElem_cons_zero, List.getElem_cons_succ, List.setIfInBounds_toArray, List.set_cons_zero, List.set_cons_succ]
        refine wpAnyH_take (i := 13) (v := ?_) rfl (by kernel_rfl) (by kernel_rfl) (by kernel_rfl) (fun _ _ _ h => h) (Or.inl ⟨by rfl, ?_⟩) (by assumption) ?_
        rotate_left
        · intro W hSW; (try dsimp only at hSW); go_simp; (first | done | with_reducible rfl)
        simp only [Act.put, List.getElem_toArray, List.getElem_cons_zero, List.getElem_cons_succ, List.setIfInBounds_toArray, List.set_cons_zero, List.set_cons_succ]
        refine wpAnyH_ready (rs := [15]) (by kernel_rfl) (by simp) ?_
        refine (AllReadyH.cons rfl (fun K hK => ?_) AllReadyH.nil)
        have s0 := sp.at 0 _ rfl
        have q0 := sp.free 0
        have s1 := sp.at 1 _ rfl
        have q1 := sp.free 1
        have s2 := sp.at 2 _ rfl
        have q2 := sp.free 2
        go_simp
        refine held_put3 hK.out hS sp ?_ ?_ ?_
        · omega
        · omega
        clear hS hK sp s0 s1 s2 q0 q1 q2
        intro X hS sp
        replace sp := sp.is (ds := #[.int .i64 0, .int .i64 0, .int .i64 0]) rfl
        try simp only [Act.put, List.getElem_toArray, List.getElem_cons_zero, List.getElem_cons_succ, List.setIfInBounds_toArray, List.set_cons_zero, List.set_cons_succ]
        refine wpAnyH_take (i := 16) (v := ?_) rfl (by kernel_rfl) (by kernel_rfl) (by kernel_rfl) (fun _ _ _ h => h) (Or.inl ⟨by rfl, ?_⟩) (by assumption) ?_
        rotate_left
        · intro W hSW; (try dsimp only at hSW); go_simp; (first | done | with_reducible rfl)
        simp only [Act.put, List.getElem_toArray, List.getElem_cons_zero, List.getElem_cons_succ, List.setIfInBounds_toArray, List.set_cons_zero, List.set_cons_succ]
        refine wpAnyH_done (by kernel_rfl) ?_ _
        obtain ⟨hk, a⟩ := hS
        have a0' := a.at 0 _ rfl
        have a1' := a.at 1 _ rfl
        have a2' := a.at 2 _ rfl
        have s0' := sp.at 0 _ rfl
        have s1' := sp.at 1 _ rfl
        have s2' := sp.at 2 _ rfl
        go_wp2_with (first | (go_at_call 17; refine (num_any _ _).mono ?_; rintro e w4 ⟨rfl, rfl⟩) | fail)
        go_ret
        exact ⟨rfl, hk⟩
      · skip
        have nb0 := nb.at 0 _ rfl
        have nb1 := nb.at 1 _ rfl
        go_simp
        clear nb0 nb1 nb
        refine hK.out _ _ (hS) (fun hS2 => ?_)
        clear hS hK
        have hS := hS2
        clear hS2
        try simp only [Act.put, List.getElem_toArray, List.getElem_cons_zero, List.getElem_cons_succ, List.setIfInBounds_toArray, List.set_cons_zero, List.set_cons_succ]
        refine wpAnyH_ready (rs := [0]) (by kernel_rfl) (by simp) ?_
        refine (AllReadyH.cons rfl (fun K hK => ?_) AllReadyH.nil)
        go_simp
        refine (newStyle_lit _).mono ?_
        rintro e w3 ⟨rfl, hn⟩
        replace sp := sp.kept hn
        refine hK.out _ _ (⟨hS.1.trans hn, hS.2.kept hn⟩) (fun hS2 => ?_)
        clear hS hK
        have hS := hS2
        clear hS2
        try simp only [Act.put, List.getElem_toArray, List.getElem_cons_zero, List.getElem_cons_succ, List.setIfInBounds_toArray, List.set_cons_zero, List.set_cons_succ]
        refine wpAnyH_ready (rs := [10]) (by kernel_rfl) (by simp) ?_
        refine (AllReadyH.cons rfl (fun K hK => ?_) AllReadyH.nil)
        go_simp
        refine (eqBlock_any newS (4194304 + (1 + d)) _).mono ?_
        rintro e w3 ⟨rfl, hn⟩
        replace sp := sp.kept hn
        refine hK.out _ _ (⟨hS.1.trans hn, hS.2.kept hn⟩) (fun hS2 => ?_)
        clear hS hK
        have hS := hS2
        clear hS2
        try simp only [Act.put, List.getElem_toArray, List.getElem_cons_zero, List.getElem_cons_succ, List.setIfInBounds_toArray, List.set_cons_zero, List.set_cons_succ]
        refine wpAnyH_take (i := 11) (v := ?_) rfl (by kernel_rfl) (by kernel_rfl) (by kernel_rfl) (fun _ _ _ h => h) (Or.inl ⟨by rfl, ?_⟩) (by assumption) ?_
        rotate_left
        · intro W hSW; (try dsimp only at hSW); go_simp; (first | done | with_reducible rfl)
        simp only [Act.put, List.getElem_toArray, List.getElem_cons_zero, List.getElem_cons_succ, List.setIfInBounds_toArray, List.set_cons_zero, List.set_cons_succ]
        refine wpAnyH_take (i := 12) (v := ?_) rfl (by kernel_rfl) (by kernel_rfl) (by kernel_rfl) (fun _ _ _ h => h) (Or.inl ⟨by rfl, ?_⟩) (by assumption) ?_
        rotate_left
        · intro W hSW; (try dsimp only at hSW); go_simp; (first | done | with_reducible rfl)
        simp only [Act.put, List.getElem_toArray, List.getElem_cons_zero, List.getElem_cons_succ, List.setIfInBounds_toArray, List.set_cons_zero, List.set_cons_succ]
        refine wpAnyH_take (i := 13) (v := ?_) rfl (by kernel_rfl) (by kernel_rfl) (by kernel_rfl) (fun _ _ _ h => h) (Or.inl ⟨by rfl, ?_⟩) (by assumption) ?_
        rotate_left
        · intro W hSW; (try dsimp only at hSW); go_simp; (first | done | with_reducible rfl)
        simp only [Act.put, List.getElem_toArray, List.getElem_cons_zero, List.getElem_cons_succ, List.setIfInBounds_toArray, List.set_cons_zero, List.set_cons_succ]
        refine wpAnyH_ready (rs := [15]) (by kernel_rfl) (by simp) ?_
        refine (AllReadyH.cons rfl (fun K hK => ?_) AllReadyH.nil)
        have s0 := sp.at 0 _ rfl
        have q0 := sp.free 0
        have s1 := sp.at 1 _ rfl
        have q1 := sp.free 1
        have s2 := sp.at 2 _ rfl
        have q2 := sp.free 2
        go_simp
        refine held_put3 hK.out hS sp ?_ ?_ ?_
        · omega
        · omega
        clear hS hK sp s0 s1 s2 q0 q1 q2
        intro X hS sp
        replace sp := sp.is (ds := #[.int .i64 0, .int .i64 0, .int .i64 0]) rfl
        try simp only [Act.put, List.getElem_toArray, List.getElem_cons_zero, List.getElem_cons_succ, List.setIfInBounds_toArray, List.set_cons_zero, List.set_cons_succ]
        refine wpAnyH_take (i := 16) (v := ?_) rfl (by kernel_rfl) (by kernel_rfl) (by kernel_rfl) (fun _ _ _ h => h) (Or.inl ⟨by rfl, ?_⟩) (by assumption) ?_
        rotate_left
        · intro W hSW; (try dsimp only at hSW); go_simp; (first | done | with_reducible rfl)
        simp only [Act.put, List.getElem_toArray, List.getElem_cons_zero, List.getElem_cons_succ, List.setIfInBounds_toArray, List.set_cons_zero, List.set_cons_succ]
        refine wpAnyH_done (by kernel_rfl) ?_ _
        obtain ⟨hk, a⟩ := hS
        have a0' := a.at 0 _ rfl
        have a1' := a.at 1 _ rfl
        have a2' := a.at 2 _ rfl
        have s0' := sp.at 0 _ rfl
        have s1' := sp.at 1 _ rfl
        have s2' := sp.at 2 _ rfl
        go_wp2_with (first | (go_at_call 17; refine (num_any _ _).mono ?_; rintro e w4 ⟨rfl, rfl⟩) | fail)
        go_ret
        exact ⟨rfl, hk⟩
theorem equationForms_walk (which x : Int) (w : World) :
    Calls Try.prog 10 #[.int .i64 which, .int .i64 x] w fun e w' => e = .returned (.bool true) ∧ Kept w w' := by
  obtain ⟨q, hq, q0, q1⟩ := masked which 1 1 rfl (by decide)
  obtain ⟨d, hd, d0, d1⟩ := masked x 10 1023 rfl (by decide)
  rcases (by omega : q = 0 ∨ q = 1) with rfl | rfl
  · exact equationForms_0 which x d w hq hd d0 d1
  · exact equationForms_1 which x d w hq hd d0 d1
end Go.Proofs.Ytpkphohgnelajaa
