/- Layer 3: numbers, modes, boxes that may not be: writing 0. -/
import Derived.Test.YtbjkphelkfeliaaDoorAwake3
import Derived.Test.YtbjkphelkfeliaaDoorGeomB
import Derived.Test.YtbjkphelkfeliaaDoorGeomP
import Derived.Test.YtbjkphelkfeliaaDoorMask
import Derived.Test.YtbjkphelkfeliaaDoorOwn
import Derived.Test.YtbjkphelkfeliaaDoorHeld
import Derived.Deep.CutRange
import Derived.BigRegion
import Derived.Test.YtbjkphelkfeliaaDoorFormsBase3
namespace Go.Proofs.YtbjkphelkfeliaaDoor
open Go.RowKit
set_option linter.unusedSimpArgs false
set_option linter.unusedVariables false
set_option maxHeartbeats 16000000
set_option maxRecDepth 20000
theorem geomForms_0 (which x d : Int) (k : Nat) (hk4 : k < 4) (hq : bits .and .i64 which 3 = (k : Int)) (h16 : (bits .and .i64 which 16 == 16) = false) (hd : bits .and .i64 x 1023 = d - 1) (d1 : 1 ≤ d) (d2 : d ≤ 1024) (j : Int) (hj : (IntKind.u64.wrap which).tmod 8 = j) (j1 : 0 ≤ j) (j2 : j < 8) (w : World) (ht : Tab w) :
    Calls Tryd.prog 5 #[.int .i64 which, .int .i64 x] w fun e w' => e = .returned (.bool true) ∧ Kept w w' := by
  have HL := Lib.hid (fun wx => by have := geomLogical_any 0 0 (pick4 (-d) (1073741824 + d) 0 0 k) (pick4 0 0 (-d) (1073741824 + d) k) wx; rw [log_bad 0 d1 hk4] at this; exact this)
  have HJ := Lib.hid hj
  clear hj
  have hd2 : IntKind.i64.wrap (1 + (d - 1)) = d := by rw [IntKind.wrap_i64]; omega
  have hw1 : IntKind.i64.wrap (-d) = -d := by rw [IntKind.wrap_i64]; omega
  have hw2 : IntKind.i64.wrap (1073741824 + d) = 1073741824 + d := by rw [IntKind.wrap_i64]; omega
  have hki : (0 : Int) ≤ (k : Int) := Int.natCast_nonneg _
  have hki4 : (k : Int) < 4 := by omega
  have hk : Kept w w := Kept.refl w
  go_enter Tryd.func5, Tryd.ntmps5
  go_wp2_with fail
  refine (awake3_any _ (ht.kept hk)).mono ?_
  rintro e w1 ⟨rfl, hn⟩
  replace hk := hk.trans hn
  clear hn
  go_upto_region 8 with fail
  refine code_boxes1 ?_
  intro X hX m
  have hsz := hk.size
  replace hk := hk.trans hX
  clear hX
  obtain ⟨wq, rfl⟩ : ∃ wq : World, wq = X := ⟨_, rfl⟩
  have hms := m.lt
  go_cut [8, 9] from 30 to 49 (fun sa se wx => se = .int .i64 300 ∧ Kept w wx ∧ Own wx w1.heap.size 23 #[.int .i64 0, .int .i64 0])
  case first =>
    refine wp_region_held_drew (S := fun W => Kept w W ∧ Own W _ 23 #[.int .i64 0, .int .i64 0]) (by kernel_rfl) (⟨hk.drew, m.drew⟩) (fun hS => ?_)
    have agt := hk.size
    clear hk m
    refine' wpAnyH_take (i := 0) rfl (by kernel_rfl) (by kernel_rfl) (by kernel_rfl) (fun _ _ _ h => h) (yieldsIf_load_own (by rfl) 23 _ rfl _ rfl (fun W h => h.2) _ Tryd.underlying23 rfl (by kernel_rfl)) (by assumption) ?_
    simp only [Act.put, List.getElem_toArray, List.getElem_cons_zero, List.getElem_cons_succ, List.setIfInBounds_toArray, List.set_cons_zero, List.set_cons_succ]
    refine wpAnyH_take (i := 1) (v := ?_) rfl (by kernel_rfl) (by kernel_rfl) (by kernel_rfl) (fun _ _ _ h => h) (Or.inl ⟨by rfl, ?_⟩) (by assumption) ?_
    rotate_left
    · intro W hSW; (try dsimp only at hSW); go_simp; (first | done | with_reducible rfl)
    simp only [Act.put, List.getElem_toArray, List.getElem_cons_zero, List.getElem_cons_succ, List.setIfInBounds_toArray, List.set_cons_zero, List.set_cons_succ]
    refine wpAnyH_take (i := 2) (v := ?_) rfl (by kernel_rfl) (by kernel_rfl) (by kernel_rfl) (fun _ _ _ h => h) (Or.inl ⟨by rfl, ?_⟩) (by assumption) ?_
    rotate_left
    · intro W hSW; (try dsimp only at hSW); go_simp; (first | done | with_reducible rfl)
    simp only [Act.put, List.getElem_toArray, List.getElem_cons_zero, List.getElem_cons_succ, List.setIfInBounds_toArray, List.set_cons_zero, List.set_cons_succ]
    refine wpAnyH_take (i := 3) (v := ?_) rfl (by kernel_rfl) (by kernel_rfl) (by kernel_rfl) (fun _ _ _ h => h) (Or.inl ⟨by rfl, ?_⟩) (by assumption) ?_
    rotate_left
    · intro W hSW; (try dsimp only at hSW); go_simp; (first | done | with_reducible rfl)
    simp only [Act.put, List.getElem_toArray, List.getElem_cons_zero, List.getElem_cons_succ, List.setIfInBounds_toArray, List.set_cons_zero, List.set_cons_succ]
    refine wpAnyH_take (i := 5) (v := ?_) rfl (by kernel_rfl) (by kernel_rfl) (by kernel_rfl) (fun _ _ _ h => h) (Or.inl ⟨by rfl, ?_⟩) (by assumption) ?_
    rotate_left
    · intro W hSW; (try dsimp only at hSW); go_simp; (first | done | with_reducible rfl)
    simp only [Act.put, List.getElem_toArray, List.getElem_cons_zero, List.getElem_cons_succ, List.setIfInBounds_toArray, List.set_cons_zero, List.set_cons_succ]
    refine wpAnyH_take (i := 6) (v := ?_) rfl (by kernel_rfl) (by kernel_rfl) (by kernel_rfl) (fun _ _ _ h => h) (Or.inl ⟨by rfl, ?_⟩) (by assumption) ?_
    rotate_left
    · intro W hSW; (try dsimp only at hSW); go_simp; (first | done | with_reducible rfl)
    simp only [Act.put, List.getElem_toArray, List.getElem_cons_zero, List.getElem_cons_succ, List.setIfInBounds_toArray, List.set_cons_zero, List.set_cons_succ]
    refine wpAnyH_take (i := 9) (v := ?_) rfl (by kernel_rfl) (by kernel_rfl) (by kernel_rfl) (fun _ _ _ h => h) (Or.inl ⟨by rfl, ?_⟩) (by assumption) ?_
    rotate_left
    · intro W hSW; (try dsimp only at hSW); go_simp; (first | done | with_reducible rfl)
    simp only [Act.put, List.getElem_toArray, List.getElem_cons_zero, List.getElem_cons_succ, List.setIfInBounds_toArray, List.set_cons_zero, List.set_cons_succ]
    refine wpAnyH_take (i := 10) (v := ?_) rfl (by kernel_rfl) (by kernel_rfl) (by kernel_rfl) (fun _ _ _ h => h) (Or.inl ⟨by rfl, ?_⟩) (by assumption) ?_
    rotate_left
    · intro W hSW; (try dsimp only at hSW); go_simp; (first | done | with_reducible rfl)
    simp only [Act.put, List.getElem_toArray, List.getElem_cons_zero, List.getElem_cons_succ, List.setIfInBounds_toArray, List.set_cons_zero, List.set_cons_succ]
    refine wpAnyH_take (i := 11) (v := ?_) rfl (by kernel_rfl) (by kernel_rfl) (by kernel_rfl) (fun _ _ _ h => h) (Or.inl ⟨by rfl, ?_⟩) (by assumption) ?_
    rotate_left
    · intro W hSW; (try dsimp only at hSW); go_simp; (first | done | with_reducible rfl)
    simp only [Act.put, List.getElem_toArray, List.getElem_cons_zero, List.getElem_cons_succ, List.setIfInBounds_toArray, List.set_cons_zero, List.set_cons_succ]
    refine wpAnyH_take (i := 13) (v := ?_) rfl (by kernel_rfl) (by kernel_rfl) (by kernel_rfl) (fun _ _ _ h => h) (Or.inl ⟨by rfl, ?_⟩) (by assumption) ?_
    rotate_left
    · intro W hSW; (try dsimp only at hSW); go_simp; (first | done | with_reducible rfl)
    simp only [Act.put, List.getElem_toArray, List.getElem_cons_zero, List.getElem_cons_succ, List.setIfInBounds_toArray, List.set_cons_zero, List.set_cons_succ]
    refine wpAnyH_take (i := 14) (v := ?_) rfl (by kernel_rfl) (by kernel_rfl) (by kernel_rfl) (fun _ _ _ h => h) (Or.inl ⟨by rfl, ?_⟩) (by assumption) ?_
    rotate_left
    · intro W hSW; (try dsimp only at hSW); go_simp; (first | done | with_reducible rfl)
    simp only [Act.put, List.getElem_toArray, List.getElem_cons_zero, List.getElem_cons_succ, List.setIfInBounds_toArray, List.set_cons_zero, List.set_cons_succ]
    refine wpAnyH_ready (rs := [4, 12, 21]) (by kernel_rfl) (by simp) ?_
    refine (AllReadyH.cons rfl (fun K hK => ?_) (AllReadyH.cons rfl (fun K hK => ?_) (AllReadyH.cons rfl (fun K hK => ?_) AllReadyH.nil)))
    · skip
      have al := hS.2.lt
      have al2 := hS.1.size
      try dsimp only [World.drew] at al al2
      go_simp
      refine held_new hK.out ⟨hS.1.alloc _, hS.2.alloc _⟩ ?_
      intro X eX hS2 na
      clear hS hK
      have hS := hS2
      clear hS2
      try dsimp only [World.drew] at na
      clear eX
      try simp only [Act.put, List.getElem_toArray, List.getElem_cons_zero, List.getElem_cons_succ, List.setIfInBounds_toArray, List.set_cons_zero, List.set_cons_succ]
      refine wpAnyH_take (i := 7) (v := ?_) rfl (by kernel_rfl) (by kernel_rfl) (by kernel_rfl) (fun _ _ _ h => h) (Or.inl ⟨by rfl, ?_⟩) (by assumption) ?_
      rotate_left
      · intro W hSW; (try dsimp only at hSW); go_simp; (first | done | with_reducible rfl)
      simp only [Act.put, List.getElem_toArray, List.getElem_cons_zero, List.getElem_cons_succ, List.setIfInBounds_toArray, List.set_cons_zero, List.set_cons_succ]
      refine wpAnyH_ready (rs := [8, 12, 21]) (by kernel_rfl) (by simp) ?_
      refine (AllReadyH.cons rfl (fun K hK => ?_) (AllReadyH.cons rfl (fun K hK => ?_) (AllReadyH.cons rfl (fun K hK => ?_) AllReadyH.nil)))
      · skip
        have na0 := own_pick na hk4
        go_simp
        clear na0 na
        refine hK.out _ _ (hS) (fun hS2 => ?_)
        clear hS hK
        have hS := hS2
        clear hS2
        try simp only [Act.put, List.getElem_toArray, List.getElem_cons_zero, List.getElem_cons_succ, List.setIfInBounds_toArray, List.set_cons_zero, List.set_cons_succ]
        refine wpAnyH_ready (rs := [12, 21]) (by kernel_rfl) (by simp) ?_
        refine (AllReadyH.cons rfl (fun K hK => ?_) (AllReadyH.cons rfl (fun K hK => ?_) AllReadyH.nil))
        · skip
          have al := hS.2.lt
          have al2 := hS.1.size
          try dsimp only [World.drew] at al al2
          go_simp
          refine held_new hK.out ⟨hS.1.alloc _, hS.2.alloc _⟩ ?_
          intro X eX hS2 nb
          clear hS hK
          have hS := hS2
          clear hS2
          try dsimp only [World.drew] at nb
          clear eX
          try simp only [Act.put, List.getElem_toArray, List.getElem_cons_zero, List.getElem_cons_succ, List.setIfInBounds_toArray, List.set_cons_zero, List.set_cons_succ]
          refine wpAnyH_take (i := 15) (v := ?_) rfl (by kernel_rfl) (by kernel_rfl) (by kernel_rfl) (fun _ _ _ h => h) (Or.inl ⟨by rfl, ?_⟩) (by assumption) ?_
          rotate_left
          · intro W hSW; (try dsimp only at hSW); go_simp; (first | done | with_reducible rfl)
          simp only [Act.put, List.getElem_toArray, List.getElem_cons_zero, List.getElem_cons_succ, List.setIfInBounds_toArray, List.set_cons_zero, List.set_cons_succ]
          refine wpAnyH_ready (rs := [16, 21]) (by kernel_rfl) (by simp) ?_
          refine (AllReadyH.cons rfl (fun K hK => ?_) (AllReadyH.cons rfl (fun K hK => ?_) AllReadyH.nil))
          · skip
            have nb0 := own_pick nb hk4
            go_simp
            clear nb0 nb
            refine hK.out _ _ (hS) (fun hS2 => ?_)
            clear hS hK
            have hS := hS2
            clear hS2
            try simp only [Act.put, List.getElem_toArray, List.getElem_cons_zero, List.getElem_cons_succ, List.setIfInBounds_toArray, List.set_cons_zero, List.set_cons_succ]
            refine wpAnyH_ready (rs := [17, 21]) (by kernel_rfl) (by simp) ?_
            refine (AllReadyH.cons rfl (fun K hK => ?_) (AllReadyH.cons rfl (fun K hK => ?_) AllReadyH.nil))
            · skip
              go_simp
              refine (HL.out _).mono ?_
              rintro e w3 ⟨rfl, hn⟩
              refine hK.out _ _ (⟨hS.1.trans hn, hS.2.kept hn⟩) (fun hS2 => ?_)
              clear hS hK
              have hS := hS2
              clear hS2
              try simp only [Act.put, List.getElem_toArray, List.getElem_cons_zero, List.getElem_cons_succ, List.setIfInBounds_toArray, List.set_cons_zero, List.set_cons_succ]
              refine wpAnyH_take (i := 18) (v := ?_) rfl (by kernel_rfl) (by kernel_rfl) (by kernel_rfl) (fun _ _ _ h => h) (Or.inl ⟨by rfl, ?_⟩) (by assumption) ?_
              rotate_left
              · intro W hSW; (try dsimp only at hSW); go_simp; (first | done | with_reducible rfl)
              simp only [Act.put, List.getElem_toArray, List.getElem_cons_zero, List.getElem_cons_succ, List.setIfInBounds_toArray, List.set_cons_zero, List.set_cons_succ]
              refine wpAnyH_take (i := 19) (v := ?_) rfl (by kernel_rfl) (by kernel_rfl) (by kernel_rfl) (fun _ _ _ h => h) (Or.inl ⟨by rfl, ?_⟩) (by assumption) ?_
              rotate_left
              · intro W hSW; (try dsimp only at hSW); go_simp; (first | done | with_reducible rfl)
              simp only [Act.put, List.getElem_toArray, List.getElem_cons_zero, List.getElem_cons_succ, List.setIfInBounds_toArray, List.set_cons_zero, List.set_cons_succ]
              refine wpAnyH_take (i := 20) (v := ?_) rfl (by kernel_rfl) (by kernel_rfl) (by kernel_rfl) (fun _ _ _ h => h) (Or.inl ⟨by rfl, ?_⟩) (by assumption) ?_
              rotate_left
              · intro W hSW; (try dsimp only at hSW); go_simp; (first | done | with_reducible rfl)
              simp only [Act.put, List.getElem_toArray, List.getElem_cons_zero, List.getElem_cons_succ, List.setIfInBounds_toArray, List.set_cons_zero, List.set_cons_succ]
              refine wpAnyH_ready (rs := [21]) (by kernel_rfl) (by simp) ?_
              refine (AllReadyH.cons rfl (fun K hK => ?_) AllReadyH.nil)
              have al := hS.2.lt
              have al2 := hS.1.size
              try dsimp only [World.drew] at al al2
              go_simp
              refine held_new hK.out ⟨hS.1.alloc _, hS.2.alloc _⟩ ?_
              intro X eX hS2 sp
              clear hS hK
              have hS := hS2
              clear hS2
              try dsimp only [World.drew] at sp
              clear eX
              try simp only [Act.put, List.getElem_toArray, List.getElem_cons_zero, List.getElem_cons_succ, List.setIfInBounds_toArray, List.set_cons_zero, List.set_cons_succ]
              refine wpAnyH_ready (rs := [22]) (by kernel_rfl) (by simp) ?_
              refine (AllReadyH.cons rfl (fun K hK => ?_) AllReadyH.nil)
              have s0 := sp.at 0 _ rfl
              have q0 := sp.free 0
              have s1 := sp.at 1 _ rfl
              have q1 := sp.free 1
              go_simp
              refine held_put2 hK.out hS sp ?_ ?_ ?_
              · omega
              · omega
              clear hS hK sp s0 s1 q0 q1
              intro X hS
              try simp only [Act.put, List.getElem_toArray, List.getElem_cons_zero, List.getElem_cons_succ, List.setIfInBounds_toArray, List.set_cons_zero, List.set_cons_succ]
              refine wpAnyH_take (i := 23) (v := ?_) rfl (by kernel_rfl) (by kernel_rfl) (by kernel_rfl) (fun _ _ _ h => h) (Or.inl ⟨by rfl, ?_⟩) (by assumption) ?_
              rotate_left
              · intro W hSW; (try dsimp only at hSW); go_simp; (first | done | with_reducible rfl)
              simp only [Act.put, List.getElem_toArray, List.getElem_cons_zero, List.getElem_cons_succ, List.setIfInBounds_toArray, List.set_cons_zero, List.set_cons_succ]
              refine wpAnyH_done (by kernel_rfl) ?_ _
              go_wp2_with fail
              go_meet
              exact ⟨rfl, hS⟩
            · skip
              have al := hS.2.lt
              have al2 := hS.1.size
              try dsimp only [World.drew] at al al2
              go_simp
              refine held_new hK.out ⟨hS.1.alloc _, hS.2.alloc _⟩ ?_
              intro X eX hS2 sp
              clear hS hK
              have hS := hS2
              clear hS2
              try dsimp only [World.drew] at sp
              clear eX
              try simp only [Act.put, List.getElem_toArray, List.getElem_cons_zero, List.getElem_cons_succ, List.setIfInBounds_toArray, List.set_cons_zero, List.set_cons_succ]
              refine wpAnyH_ready (rs := [17]) (by kernel_rfl) (by simp) ?_
              refine (AllReadyH.cons rfl (fun K hK => ?_) AllReadyH.nil)
              go_simp
              refine (HL.out _).mono ?_
              rintro e w3 ⟨rfl, hn⟩
              replace sp := sp.kept hn
              refine hK.out _ _ (⟨hS.1.trans hn, hS.2.kept hn⟩) (fun hS2 => ?_)
              clear hS hK
              have hS := hS2
              clear hS2
              try simp only [Act.put, List.getElem_toArray, List.getElem_cons_zero, List.getElem_cons_succ, List.setIfInBounds_toArray, List.set_cons_zero, List.set_cons_succ]
              refine wpAnyH_take (i := 18) (v := ?_) rfl (by kernel_rfl) (by kernel_rfl) (by kernel_rfl) (fun _ _ _ h => h) (Or.inl ⟨by rfl, ?_⟩) (by assumption) ?_
              rotate_left
              · intro W hSW; (try dsimp only at hSW); go_simp; (first | done | with_reducible rfl)
              simp only [Act.put, List.getElem_toArray, List.getElem_cons_zero, List.getElem_cons_succ, List.setIfInBounds_toArray, List.set_cons_zero, List.set_cons_succ]
              refine wpAnyH_take (i := 19) (v := ?_) rfl (by kernel_rfl) (by kernel_rfl) (by kernel_rfl) (fun _ _ _ h => h) (Or.inl ⟨by rfl, ?_⟩) (by assumption) ?_
              rotate_left
              · intro W hSW; (try dsimp only at hSW); go_simp; (first | done | with_reducible rfl)
              simp only [Act.put, List.getElem_toArray, List.getElem_cons_zero, List.getElem_cons_succ, List.setIfInBounds_toArray, List.set_cons_zero, List.set_cons_succ]
              refine wpAnyH_take (i := 20) (v := ?_) rfl (by kernel_rfl) (by kernel_rfl) (by kernel_rfl) (fun _ _ _ h => h) (Or.inl ⟨by rfl, ?_⟩) (by assumption) ?_
              rotate_left
              · intro W hSW; (try dsimp only at hSW); go_simp; (first | done | with_reducible rfl)
              simp only [Act.put, List.getElem_toArray, List.getElem_cons_zero, List.getElem_cons_succ, List.setIfInBounds_toArray, List.set_cons_zero, List.set_cons_succ]
              refine wpAnyH_ready (rs := [22]) (by kernel_rfl) (by simp) ?_
              refine (AllReadyH.cons rfl (fun K hK => ?_) AllReadyH.nil)
              have s0 := sp.at 0 _ rfl
              have q0 := sp.free 0
              have s1 := sp.at 1 _ rfl
              have q1 := sp.free 1
              go_simp
              refine held_put2 hK.out hS sp ?_ ?_ ?_
              · omega
              · omega
              clear hS hK sp s0 s1 q0 q1
              intro X hS
              try simp only [Act.put, List.getElem_toArray, List.getElem_cons_zero, List.getElem_cons_succ, List.setIfInBounds_toArray, List.set_cons_zero, List.set_cons_succ]
              refine wpAnyH_take (i := 23) (v := ?_) rfl (by kernel_rfl) (by kernel_rfl) (by kernel_rfl) (fun _ _ _ h => h) (Or.inl ⟨by rfl, ?_⟩) (by assumption) ?_
              rotate_left
              · intro W hSW; (try dsimp only at hSW); go_simp; (first | done | with_reducible rfl)
              simp only [Act.put, List.getElem_toArray, List.getElem_cons_zero, List.getElem_cons_succ, List.setIfInBounds_toArray, List.set_cons_zero, List.set_cons_succ]
              refine wpAnyH_done (by kernel_rfl) ?_ _
              go_wp2_with fail
              go_meet
              exact ⟨rfl, hS⟩
          · skip
            have al := hS.2.lt
            have al2 := hS.1.size
            try dsimp only [World.drew] at al al2
            go_simp
            refine held_new hK.out ⟨hS.1.alloc _, hS.2.alloc _⟩ ?_
            intro X eX hS2 sp
            clear hS hK
            have hS := hS2
            clear hS2
            try dsimp only [World.drew] at sp
            replace nb := (eX ▸ nb.alloc _ : Own X _ _ _)
            clear eX
            try simp only [Act.put, List.getElem_toArray, List.getElem_cons_zero, List.getElem_cons_succ, List.setIfInBounds_toArray, List.set_cons_zero, List.set_cons_succ]
            refine wpAnyH_ready (rs := [16]) (by kernel_rfl) (by simp) ?_
            refine (AllReadyH.cons rfl (fun K hK => ?_) AllReadyH.nil)
            have nb0 := own_pick nb hk4
            go_simp
            clear nb0 nb
            refine hK.out _ _ (hS) (fun hS2 => ?_)
            clear hS hK
            have hS := hS2
            clear hS2
            try simp only [Act.put, List.getElem_toArray, List.getElem_cons_zero, List.getElem_cons_succ, List.setIfInBounds_toArray, List.set_cons_zero, List.set_cons_succ]
            refine wpAnyH_ready (rs := [17]) (by kernel_rfl) (by simp) ?_
            refine (AllReadyH.cons rfl (fun K hK => ?_) AllReadyH.nil)
            go_simp
            refine (HL.out _).mono ?_
            rintro e w3 ⟨rfl, hn⟩
            replace sp := sp.kept hn
            refine hK.out _ _ (⟨hS.1.trans hn, hS.2.kept hn⟩) (fun hS2 => ?_)
            clear hS hK
            have hS := hS2
            clear hS2
            try simp only [Act.put, List.getElem_toArray, List.getElem_cons_zero, List.getElem_cons_succ, List.setIfInBounds_toArray, List.set_cons_zero, List.set_cons_succ]
            refine wpAnyH_take (i := 18) (v := ?_) rfl (by kernel_rfl) (by kernel_rfl) (by kernel_rfl) (fun _ _ _ h => h) (Or.inl ⟨by rfl, ?_⟩) (by assumption) ?_
            rotate_left
            · intro W hSW; (try dsimp only at hSW); go_simp; (first | done | with_reducible rfl)
            simp only [Act.put, List.getElem_toArray, List.getElem_cons_zero, List.getElem_cons_succ, List.setIfInBounds_toArray, List.set_cons_zero, List.set_cons_succ]
            refine wpAnyH_take (i := 19) (v := ?_) rfl (by kernel_rfl) (by kernel_rfl) (by kernel_rfl) (fun _ _ _ h => h) (Or.inl ⟨by rfl, ?_⟩) (by assumption) ?_
            rotate_left
            · intro W hSW; (try dsimp only at hSW); go_simp; (first | done | with_reducible rfl)
            simp only [Act.put, List.getElem_toArray, List.getElem_cons_zero, List.getElem_cons_succ, List.setIfInBounds_toArray, List.set_cons_zero, List.set_cons_succ]
            refine wpAnyH_take (i := 20) (v := ?_) rfl (by kernel_rfl) (by kernel_rfl) (by kernel_rfl) (fun _ _ _ h => h) (Or.inl ⟨by rfl, ?_⟩) (by assumption) ?_
            rotate_left
            · intro W hSW; (try dsimp only at hSW); go_simp; (first | done | with_reducible rfl)
            simp only [Act.put, List.getElem_toArray, List.getElem_cons_zero, List.getElem_cons_succ, List.setIfInBounds_toArray, List.set_cons_zero, List.set_cons_succ]
            refine wpAnyH_ready (rs := [22]) (by kernel_rfl) (by simp) ?_
            refine (AllReadyH.cons rfl (fun K hK => ?_) AllReadyH.nil)
            have s0 := sp.at 0 _ rfl
            have q0 := sp.free 0
            have s1 := sp.at 1 _ rfl
            have q1 := sp.free 1
            go_simp
            refine held_put2 hK.out hS sp ?_ ?_ ?_
            · omega
            · omega
            clear hS hK sp s0 s1 q0 q1
            intro X hS
            try simp only [Act.put, List.getElem_toArray, List.getElem_cons_zero, List.getElem_cons_succ, List.setIfInBounds_toArray, List.set_cons_zero, List.set_cons_succ]
            refine wpAnyH_take (i := 23) (v := ?_) rfl (by kernel_rfl) (by kernel_rfl) (by kernel_rfl) (fun _ _ _ h => h) (Or.inl ⟨by rfl, ?_⟩) (by assumption) ?_
            rotate_left
            · intro W hSW; (try dsimp only at hSW); go_simp; (first | done | with_reducible rfl)
            simp only [Act.put, List.getElem_toArray, List.getElem_cons_zero, List.getElem_cons_succ, List.setIfInBounds_toArray, List.set_cons_zero, List.set_cons_succ]
            refine wpAnyH_done (by kernel_rfl) ?_ _
            go_wp2_with fail
            go_meet
            exact ⟨rfl, hS⟩
        · skip
          have al := hS.2.lt
          have al2 := hS.1.size
          try dsimp only [World.drew] at al al2
          go_simp
          refine held_new hK.out ⟨hS.1.alloc _, hS.2.alloc _⟩ ?_
          intro X eX hS2 sp
          clear hS hK
          have hS := hS2
          clear hS2
          try dsimp only [World.drew] at sp
          clear eX
          try simp only [Act.put, List.getElem_toArray, List.getElem_cons_zero, List.getElem_cons_succ, List.setIfInBounds_toArray, List.set_cons_zero, List.set_cons_succ]
          refine wpAnyH_ready (rs := [12]) (by kernel_rfl) (by simp) ?_
          refine (AllReadyH.cons rfl (fun K hK => ?_) AllReadyH.nil)
          have al := hS.2.lt
          have al2 := hS.1.size
          try dsimp only [World.drew] at al al2
          go_simp
          refine held_new hK.out ⟨hS.1.alloc _, hS.2.alloc _⟩ ?_
          intro X eX hS2 nb
          clear hS hK
          have hS := hS2
          clear hS2
          try dsimp only [World.drew] at nb
          replace sp := (eX ▸ sp.alloc _ : Own X _ _ _)
          clear eX
          try simp only [Act.put, List.getElem_toArray, List.getElem_cons_zero, List.getElem_cons_succ, List.setIfInBounds_toArray, List.set_cons_zero, List.set_cons_succ]
          refine wpAnyH_take (i := 15) (v := ?_) rfl (by kernel_rfl) (by kernel_rfl) (by kernel_rfl) (fun _ _ _ h => h) (Or.inl ⟨by rfl, ?_⟩) (by assumption) ?_
          rotate_left
          · intro W hSW; (try dsimp only at hSW); go_simp; (first | done | with_reducible rfl)
          simp only [Act.put, List.getElem_toArray, List.getElem_cons_zero, List.getElem_cons_succ, List.setIfInBounds_toArray, List.set_cons_zero, List.set_cons_succ]
          refine wpAnyH_ready (rs := [16]) (by kernel_rfl) (by simp) ?_
          refine (AllReadyH.cons rfl (fun K hK => ?_) AllReadyH.nil)
          have nb0 := own_pick nb hk4
          go_simp
          clear nb0 nb
          refine hK.out _ _ (hS) (fun hS2 => ?_)
          clear hS hK
          have hS := hS2
          clear hS2
          try simp only [Act.put, List.getElem_toArray, List.getElem_cons_zero, List.getElem_cons_succ, List.setIfInBounds_toArray, List.set_cons_zero, List.set_cons_succ]
          refine wpAnyH_ready (rs := [17]) (by kernel_rfl) (by simp) ?_
          refine (AllReadyH.cons rfl (fun K hK => ?_) AllReadyH.nil)
          go_simp
          refine (HL.out _).mono ?_
          rintro e w3 ⟨rfl, hn⟩
          replace sp := sp.kept hn
          refine hK.out _ _ (⟨hS.1.trans hn, hS.2.kept hn⟩) (fun hS2 => ?_)
          clear hS hK
          have hS := hS2
          clear hS2
          try simp only [Act.put, List.getElem_toArray, List.getElem_cons_zero, List.getElem_cons_succ, List.setIfInBounds_toArray, List.set_cons_zero, List.set_cons_succ]
          refine wpAnyH_take (i := 18) (v := ?_) rfl (by kernel_rfl) (by kernel_rfl) (by kernel_rfl) (fun _ _ _ h => h) (Or.inl ⟨by rfl, ?_⟩) (by assumption) ?_
          rotate_left
          · intro W hSW; (try dsimp only at hSW); go_simp; (first | done | with_reducible rfl)
          simp only [Act.put, List.getElem_toArray, List.getElem_cons_zero, List.getElem_cons_succ, List.setIfInBounds_toArray, List.set_cons_zero, List.set_cons_succ]
          refine wpAnyH_take (i := 19) (v := ?_) rfl (by kernel_rfl) (by kernel_rfl) (by kernel_rfl) (fun _ _ _ h => h) (Or.inl ⟨by rfl, ?_⟩) (by assumption) ?_
          rotate_left
          · intro W hSW; (try dsimp only at hSW); go_simp; (first | done | with_reducible rfl)
          simp only [Act.put, List.getElem_toArray, List.getElem_cons_zero, List.getElem_cons_succ, List.setIfInBounds_toArray, List.set_cons_zero, List.set_cons_succ]
          refine wpAnyH_take (i := 20) (v := ?_) rfl (by kernel_rfl) (by kernel_rfl) (by kernel_rfl) (fun _ _ _ h => h) (Or.inl ⟨by rfl, ?_⟩) (by assumption) ?_
          rotate_left
          · intro W hSW; (try dsimp only at hSW); go_simp; (first | done | with_reducible rfl)
          simp only [Act.put, List.getElem_toArray, List.getElem_cons_zero, List.getElem_cons_succ, List.setIfInBounds_toArray, List.set_cons_zero, List.set_cons_succ]
          refine wpAnyH_ready (rs := [22]) (by kernel_rfl) (by simp) ?_
          refine (AllReadyH.cons rfl (fun K hK => ?_) AllReadyH.nil)
          have s0 := sp.at 0 _ rfl
          have q0 := sp.free 0
          have s1 := sp.at 1 _ rfl
          have q1 := sp.free 1
          go_simp
          refine held_put2 hK.out hS sp ?_ ?_ ?_
          · omega
          · omega
          clear hS hK sp s0 s1 q0 q1
          intro X hS
          try simp only [Act.put, List.getElem_toArray, List.getElem_cons_zero, List.getElem_cons_succ, List.setIfInBounds_toArray, List.set_cons_zero, List.set_cons_succ]
          refine wpAnyH_take (i := 23) (v := ?_) rfl (by kernel_rfl) (by kernel_rfl) (by kernel_rfl) (fun _ _ _ h => h) (Or.inl ⟨by rfl, ?_⟩) (by assumption) ?_
          rotate_left
          · intro W hSW; (try dsimp only at hSW); go_simp; (first | done | with_reducible rfl)
          simp only [Act.put, List.getElem_toArray, List.getElem_cons_zero, List.getElem_cons_succ, List.setIfInBounds_toArray, List.set_cons_zero, List.set_cons_succ]
          refine wpAnyH_done (by kernel_rfl) ?_ _
          go_wp2_with fail
          go_meet
          exact ⟨rfl, hS⟩
      · skip
        have al := hS.2.lt
        have al2 := hS.1.size
        try dsimp only [World.drew] at al al2
        go_simp
        refine held_new hK.out ⟨hS.1.alloc _, hS.2.alloc _⟩ ?_
        intro X eX hS2 nb
        clear hS hK
        have hS := hS2
        clear hS2
        try dsimp only [World.drew] at nb
        replace na := (eX ▸ na.alloc _ : Own X _ _ _)
        clear eX
        try simp only [Act.put, List.getElem_toArray, List.getElem_cons_zero, List.getElem_cons_succ, List.setIfInBounds_toArray, List.set_cons_zero, List.set_cons_succ]
        refine wpAnyH_take (i := 15) (v := ?_) rfl (by kernel_rfl) (by kernel_rfl) (by kernel_rfl) (fun _ _ _ h => h) (Or.inl ⟨by rfl, ?_⟩) (by assumption) ?_
        rotate_left
        · intro W hSW; (try dsimp only at hSW); go_simp; (first | done | with_reducible rfl)
        simp only [Act.put, List.getElem_toArray, List.getElem_cons_zero, List.getElem_cons_succ, List.setIfInBounds_toArray, List.set_cons_zero, List.set_cons_succ]
        refine wpAnyH_ready (rs := [8, 16, 21]) (by kernel_rfl) (by simp) ?_
        refine (AllReadyH.cons rfl (fun K hK => ?_) (AllReadyH.cons rfl (fun K hK => ?_) (AllReadyH.cons rfl (fun K hK => ?_) AllReadyH.nil)))
        · skip
          have na0 := own_pick na hk4
          go_simp
          clear na0 na
          refine hK.out _ _ (hS) (fun hS2 => ?_)
          clear hS hK
          have hS := hS2
          clear hS2
          try simp only [Act.put, List.getElem_toArray, List.getElem_cons_zero, List.getElem_cons_succ, List.setIfInBounds_toArray, List.set_cons_zero, List.set_cons_succ]
          refine wpAnyH_ready (rs := [16, 21]) (by kernel_rfl) (by simp) ?_
          refine (AllReadyH.cons rfl (fun K hK => ?_) (AllReadyH.cons rfl (fun K hK => ?_) AllReadyH.nil))
          · skip
            have nb0 := own_pick nb hk4
            go_simp
            clear nb0 nb
            refine hK.out _ _ (hS) (fun hS2 => ?_)
            clear hS hK
            have hS := hS2
            clear hS2
            try simp only [Act.put, List.getElem_toArray, List.getElem_cons_zero, List.getElem_cons_succ, List.setIfInBounds_toArray, List.set_cons_zero, List.set_cons_succ]
            refine wpAnyH_ready (rs := [17, 21]) (by kernel_rfl) (by simp) ?_
            refine (AllReadyH.cons rfl (fun K hK => ?_) (AllReadyH.cons rfl (fun K hK => ?_) AllReadyH.nil))
            · skip
              go_simp
              refine (HL.out _).mono ?_
              rintro e w3 ⟨rfl, hn⟩
              refine hK.out _ _ (⟨hS.1.trans hn, hS.2.kept hn⟩) (fun hS2 => ?_)
              clear hS hK
              have hS := hS2
              clear hS2
              try simp only [Act.put, List.getElem_toArray, List.getElem_cons_zero, List.getElem_cons_succ, List.setIfInBounds_toArray, List.set_cons_zero, List.set_cons_succ]
              refine wpAnyH_take (i := 18) (v := ?_) rfl (by kernel_rfl) (by kernel_rfl) (by kernel_rfl) (fun _ _ _ h => h) (Or.inl ⟨by rfl, ?_⟩) (by assumption) ?_
              rotate_left
              · intro W hSW; (try dsimp only at hSW); go_simp; (first | done | with_reducible rfl)
              simp only [Act.put, List.getElem_toArray, List.getElem_cons_zero, List.getElem_cons_succ, List.setIfInBounds_toArray, List.set_cons_zero, List.set_cons_succ]
              refine wpAnyH_take (i := 19) (v := ?_) rfl (by kernel_rfl) (by kernel_rfl) (by kernel_rfl) (fun _ _ _ h => h) (Or.inl ⟨by rfl, ?_⟩) (by assumption) ?_
              rotate_left
              · intro W hSW; (try dsimp only at hSW); go_simp; (first | done | with_reducible rfl)
              simp only [Act.put, List.getElem_toArray, List.getElem_cons_zero, List.getElem_cons_succ, List.setIfInBounds_toArray, List.set_cons_zero, List.set_cons_succ]
              refine wpAnyH_take (i := 20) (v := ?_) rfl (by kernel_rfl) (by kernel_rfl) (by kernel_rfl) (fun _ _ _ h => h) (Or.inl ⟨by rfl, ?_⟩) (by assumption) ?_
              rotate_left
              · intro W hSW; (try dsimp only at hSW); go_simp; (first | done | with_reducible rfl)
              simp only [Act.put, List.getElem_toArray, List.getElem_cons_zero, List.getElem_cons_succ, List.setIfInBounds_toArray, List.set_cons_zero, List.set_cons_succ]
              refine wpAnyH_ready (rs := [21]) (by kernel_rfl) (by simp) ?_
              refine (AllReadyH.cons rfl (fun K hK => ?_) AllReadyH.nil)
              have al := hS.2.lt
              have al2 := hS.1.size
              try dsimp only [World.drew] at al al2
              go_simp
              refine held_new hK.out ⟨hS.1.alloc _, hS.2.alloc _⟩ ?_
              intro X eX hS2 sp
              clear hS hK
              have hS := hS2
              clear hS2
              try dsimp only [World.drew] at sp
              clear eX
              try simp only [Act.put, List.getElem_toArray, List.getElem_cons_zero, List.getElem_cons_succ, List.setIfInBounds_toArray, List.set_cons_zero, List.set_cons_succ]
              refine wpAnyH_ready (rs := [22]) (by kernel_rfl) (by simp) ?_
              refine (AllReadyH.cons rfl (fun K hK => ?_) AllReadyH.nil)
              have s0 := sp.at 0 _ rfl
              have q0 := sp.free 0
              have s1 := sp.at 1 _ rfl
              have q1 := sp.free 1
              go_simp
              refine held_put2 hK.out hS sp ?_ ?_ ?_
              · omega
              · omega
              clear hS hK sp s0 s1 q0 q1
              intro X hS
              try simp only [Act.put, List.getElem_toArray, List.getElem_cons_zero, List.getElem_cons_succ, List.setIfInBounds_toArray, List.set_cons_zero, List.set_cons_succ]
              refine wpAnyH_take (i := 23) (v := ?_) rfl (by kernel_rfl) (by kernel_rfl) (by kernel_rfl) (fun _ _ _ h => h) (Or.inl ⟨by rfl, ?_⟩) (by assumption) ?_
              rotate_left
              · intro W hSW; (try dsimp only at hSW); go_simp; (first | done | with_reducible rfl)
              simp only [Act.put, List.getElem_toArray, List.getElem_cons_zero, List.getElem_cons_succ, List.setIfInBounds_toArray, List.set_cons_zero, List.set_cons_succ]
              refine wpAnyH_done (by kernel_rfl) ?_ _
              go_wp2_with fail
              go_meet
              exact ⟨rfl, hS⟩
            · skip
              have al := hS.2.lt
              have al2 := hS.1.size
              try dsimp only [World.drew] at al al2
              go_simp
              refine held_new hK.out ⟨hS.1.alloc _, hS.2.alloc _⟩ ?_
              intro X eX hS2 sp
              clear hS hK
              have hS := hS2
              clear hS2
              try dsimp only [World.drew] at sp
              clear eX
              try simp only [Act.put, List.getElem_toArray, List.getElem_cons_zero, List.getElem_cons_succ, List.setIfInBounds_toArray, List.set_cons_zero, List.set_cons_succ]
              refine wpAnyH_ready (rs := [17]) (by kernel_rfl) (by simp) ?_
              refine (AllReadyH.cons rfl (fun K hK => ?_) AllReadyH.nil)
              go_simp
              refine (HL.out _).mono ?_
              rintro e w3 ⟨rfl, hn⟩
              replace sp := sp.kept hn
              refine hK.out _ _ (⟨hS.1.trans hn, hS.2.kept hn⟩) (fun hS2 => ?_)
              clear hS hK
              have hS := hS2
              clear hS2
              try simp only [Act.put, List.getElem_toArray, List.getElem_cons_zero, List.getElem_cons_succ, List.setIfInBounds_toArray, List.set_cons_zero, List.set_cons_succ]
              refine wpAnyH_take (i := 18) (v := ?_) rfl (by kernel_rfl) (by kernel_rfl) (by kernel_rfl) (fun _ _ _ h => h) (Or.inl ⟨by rfl, ?_⟩) (by assumption) ?_
              rotate_left
              · intro W hSW; (try dsimp only at hSW); go_simp; (first | done | with_reducible rfl)
              simp only [Act.put, List.getElem_toArray, List.getElem_cons_zero, List.getElem_cons_succ, List.setIfInBounds_toArray, List.set_cons_zero, List.set_cons_succ]
              refine wpAnyH_take (i := 19) (v := ?_) rfl (by kernel_rfl) (by kernel_rfl) (by kernel_rfl) (fun _ _ _ h => h) (Or.inl ⟨by rfl, ?_⟩) (by assumption) ?_
              rotate_left
              · intro W hSW; (try dsimp only at hSW); go_simp; (first | done | with_reducible rfl)
              simp only [Act.put, List.getElem_toArray, List.getElem_cons_zero, List.getElem_cons_succ, List.setIfInBounds_toArray, List.set_cons_zero, List.set_cons_succ]
              refine wpAnyH_take (i := 20) (v := ?_) rfl (by kernel_rfl) (by kernel_rfl) (by kernel_rfl) (fun _ _ _ h => h) (Or.inl ⟨by rfl, ?_⟩) (by assumption) ?_
              rotate_left
              · intro W hSW; (try dsimp only at hSW); go_simp; (first | done | with_reducible rfl)
              simp only [Act.put, List.getElem_toArray, List.getElem_cons_zero, List.getElem_cons_succ, List.setIfInBounds_toArray, List.set_cons_zero, List.set_cons_succ]
              refine wpAnyH_ready (rs := [22]) (by kernel_rfl) (by simp) ?_
              refine (AllReadyH.cons rfl (fun K hK => ?_) AllReadyH.nil)
              have s0 := sp.at 0 _ rfl
              have q0 := sp.free 0
              have s1 := sp.at 1 _ rfl
              have q1 := sp.free 1
              go_simp
              refine held_put2 hK.out hS sp ?_ ?_ ?_
              · omega
              · omega
              clear hS hK sp s0 s1 q0 q1
              intro X hS
              try simp only [Act.put, List.getElem_toArray, List.getElem_cons_zero, List.getElem_cons_succ, List.setIfInBounds_toArray, List.set_cons_zero, List.set_cons_succ]
              refine wpAnyH_take (i := 23) (v := ?_) rfl (by kernel_rfl) (by kernel_rfl) (by kernel_rfl) (fun _ _ _ h => h) (Or.inl ⟨by rfl, ?_⟩) (by assumption) ?_
              rotate_left
              · intro W hSW; (try dsimp only at hSW); go_simp; (first | done | with_reducible rfl)
              simp only [Act.put, List.getElem_toArray, List.getElem_cons_zero, List.getElem_cons_succ, List.setIfInBounds_toArray, List.set_cons_zero, List.set_cons_succ]
              refine wpAnyH_done (by kernel_rfl) ?_ _
              go_wp2_with fail
              go_meet
              exact ⟨rfl, hS⟩
          · skip
            have al := hS.2.lt
            have al2 := hS.1.size
            try dsimp only [World.drew] at al al2
            go_simp
            refine held_new hK.out ⟨hS.1.alloc _, hS.2.alloc _⟩ ?_
            intro X eX hS2 sp
            clear hS hK
            have hS := hS2
            clear hS2
            try dsimp only [World.drew] at sp
            replace nb := (eX ▸ nb.alloc _ : Own X _ _ _)
            clear eX
            try simp only [Act.put, List.getElem_toArray, List.getElem_cons_zero, List.getElem_cons_succ, List.setIfInBounds_toArray, List.set_cons_zero, List.set_cons_succ]
            refine wpAnyH_ready (rs := [16]) (by kernel_rfl) (by simp) ?_
            refine (AllReadyH.cons rfl (fun K hK => ?_) AllReadyH.nil)
            have nb0 := own_pick nb hk4
            go_simp
            clear nb0 nb
            refine hK.out _ _ (hS) (fun hS2 => ?_)
            clear hS hK
            have hS := hS2
            clear hS2
            try simp only [Act.put, List.getElem_toArray, List.getElem_cons_zero, List.getElem_cons_succ, List.setIfInBounds_toArray, List.set_cons_zero, List.set_cons_succ]
            refine wpAnyH_ready (rs := [17]) (by kernel_rfl) (by simp) ?_
            refine (AllReadyH.cons rfl (fun K hK => ?_) AllReadyH.nil)
            go_simp
            refine (HL.out _).mono ?_
            rintro e w3 ⟨rfl, hn⟩
            replace sp := sp.kept hn
            refine hK.out _ _ (⟨hS.1.trans hn, hS.2.kept hn⟩) (fun hS2 => ?_)
            clear hS hK
            have hS := hS2
            clear hS2
            try simp only [Act.put, List.getElem_toArray, List.getElem_cons_zero, List.getElem_cons_succ, List.setIfInBounds_toArray, List.set_cons_zero, List.set_cons_succ]
            refine wpAnyH_take (i := 18) (v := ?_) rfl (by kernel_rfl) (by kernel_rfl) (by kernel_rfl) (fun _ _ _ h => h) (Or.inl ⟨by rfl, ?_⟩) (by assumption) ?_
            rotate_left
            · intro W hSW; (try dsimp only at hSW); go_simp; (first | done | with_reducible rfl)
            simp only [Act.put, List.getElem_toArray, List.getElem_cons_zero, List.getElem_cons_succ, List.setIfInBounds_toArray, List.set_cons_zero, List.set_cons_succ]
            refine wpAnyH_take (i := 19) (v := ?_) rfl (by kernel_rfl) (by kernel_rfl) (by kernel_rfl) (fun _ _ _ h => h) (Or.inl ⟨by rfl, ?_⟩) (by assumption) ?_
            rotate_left
            · intro W hSW; (try dsimp only at hSW); go_simp; (first | done | with_reducible rfl)
            simp only [Act.put, List.getElem_toArray, List.getElem_cons_zero, List.getElem_cons_succ, List.setIfInBounds_toArray, List.set_cons_zero, List.set_cons_succ]
            refine wpAnyH_take (i := 20) (v := ?_) rfl (by kernel_rfl) (by kernel_rfl) (by kernel_rfl) (fun _ _ _ h => h) (Or.inl ⟨by rfl, ?_⟩) (by assumption) ?_
            rotate_left
            · intro W hSW; (try dsimp only at hSW); go_simp; (first | done | with_reducible rfl)
            simp only [Act.put, List.getElem_toArray, List.getElem_cons_zero, List.getElem_cons_succ, List.setIfInBounds_toArray, List.set_cons_zero, List.set_cons_succ]
            refine wpAnyH_ready (rs := [22]) (by kernel_rfl) (by simp) ?_
            refine (AllReadyH.cons rfl (fun K hK => ?_) AllReadyH.nil)
            have s0 := sp.at 0 _ rfl
            have q0 := sp.free 0
            have s1 := sp.at 1 _ rfl
            have q1 := sp.free 1
            go_simp
            refine held_put2 hK.out hS sp ?_ ?_ ?_
            · omega
            · omega
            clear hS hK sp s0 s1 q0 q1
            intro X hS
            try simp only [Act.put, List.getElem_toArray, List.getElem_cons_zero, List.getElem_cons_succ, List.setIfInBounds_toArray, List.set_cons_zero, List.set_cons_succ]
            refine wpAnyH_take (i := 23) (v := ?_) rfl (by kernel_rfl) (by kernel_rfl) (by kernel_rfl) (fun _ _ _ h => h) (Or.inl ⟨by rfl, ?_⟩) (by assumption) ?_
            rotate_left
            · intro W hSW; (try dsimp only at hSW); go_simp; (first | done | with_reducible rfl)
            simp only [Act.put, List.getElem_toArray, List.getElem_cons_zero, List.getElem_cons_succ, List.setIfInBounds_toArray, List.set_cons_zero, List.set_cons_succ]
            refine wpAnyH_done (by kernel_rfl) ?_ _
            go_wp2_with fail
            go_meet
            exact ⟨rfl, hS⟩
        · skip
          have nb0 := own_pick nb hk4
          go_simp
          clear nb0 nb
          refine hK.out _ _ (hS) (fun hS2 => ?_)
          clear hS hK
          have hS := hS2
          clear hS2
          try simp only [Act.put, List.getElem_toArray, List.getElem_cons_zero, List.getElem_cons_succ, List.setIfInBounds_toArray, List.set_cons_zero, List.set_cons_succ]
          refine wpAnyH_ready (rs := [8, 21]) (by kernel_rfl) (by simp) ?_
          refine (AllReadyH.cons rfl (fun K hK => ?_) (AllReadyH.cons rfl (fun K hK => ?_) AllReadyH.nil))
          · skip
            have na0 := own_pick na hk4
            go_simp
            clear na0 na
            refine hK.out _ _ (hS) (fun hS2 => ?_)
            clear hS hK
            have hS := hS2
            clear hS2
            try simp only [Act.put, List.getElem_toArray, List.getElem_cons_zero, List.getElem_cons_succ, List.setIfInBounds_toArray, List.set_cons_zero, List.set_cons_succ]
            refine wpAnyH_ready (rs := [17, 21]) (by kernel_rfl) (by simp) ?_
            refine (AllReadyH.cons rfl (fun K hK => ?_) (AllReadyH.cons rfl (fun K hK => ?_) AllReadyH.nil))
            · skip
              go_simp
              refine (HL.out _).mono ?_
              rintro e w3 ⟨rfl, hn⟩
              refine hK.out _ _ (⟨hS.1.trans hn, hS.2.kept hn⟩) (fun hS2 => ?_)
              clear hS hK
              have hS := hS2
              clear hS2
              try simp only [Act.put, List.getElem_toArray, List.getElem_cons_zero, List.getElem_cons_succ, List.setIfInBounds_toArray, List.set_cons_zero, List.set_cons_succ]
              refine wpAnyH_take (i := 18) (v := ?_) rfl (by kernel_rfl) (by kernel_rfl) (by kernel_rfl) (fun _ _ _ h => h) (Or.inl ⟨by rfl, ?_⟩) (by assumption) ?_
              rotate_left
              · intro W hSW; (try dsimp only at hSW); go_simp; (first | done | with_reducible rfl)
              simp only [Act.put, List.getElem_toArray, List.getElem_cons_zero, List.getElem_cons_succ, List.setIfInBounds_toArray, List.set_cons_zero, List.set_cons_succ]
              refine wpAnyH_take (i := 19) (v := ?_) rfl (by kernel_rfl) (by kernel_rfl) (by kernel_rfl) (fun _ _ _ h => h) (Or.inl ⟨by rfl, ?_⟩) (by assumption) ?_
              rotate_left
              · intro W hSW; (try dsimp only at hSW); go_simp; (first | done | with_reducible rfl)
              simp only [Act.put, List.getElem_toArray, List.getElem_cons_zero, List.getElem_cons_succ, List.setIfInBounds_toArray, List.set_cons_zero, List.set_cons_succ]
              refine wpAnyH_take (i := 20) (v := ?_) rfl (by kernel_rfl) (by kernel_rfl) (by kernel_rfl) (fun _ _ _ h => h) (Or.inl ⟨by rfl, ?_⟩) (by assumption) ?_
              rotate_left
              · intro W hSW; (try dsimp only at hSW); go_simp; (first | done | with_reducible rfl)
              simp only [Act.put, List.getElem_toArray, List.getElem_cons_zero, List.getElem_cons_succ, List.setIfInBounds_toArray, List.set_cons_zero, List.set_cons_succ]
              refine wpAnyH_ready (rs := [21]) (by kernel_rfl) (by simp) ?_
              refine (AllReadyH.cons rfl (fun K hK => ?_) AllReadyH.nil)
              have al := hS.2.lt
              have al2 := hS.1.size
              try dsimp only [World.drew] at al al2
              go_simp
              refine held_new hK.out ⟨hS.1.alloc _, hS.2.alloc _⟩ ?_
              intro X eX hS2 sp
              clear hS hK
              have hS := hS2
              clear hS2
              try dsimp only [World.drew] at sp
              clear eX
              try simp only [Act.put, List.getElem_toArray, List.getElem_cons_zero, List.getElem_cons_succ, List.setIfInBounds_toArray, List.set_cons_zero, List.set_cons_succ]
              refine wpAnyH_ready (rs := [22]) (by kernel_rfl) (by simp) ?_
              refine (AllReadyH.cons rfl (fun K hK => ?_) AllReadyH.nil)
              have s0 := sp.at 0 _ rfl
              have q0 := sp.free 0
              have s1 := sp.at 1 _ rfl
              have q1 := sp.free 1
              go_simp
              refine held_put2 hK.out hS sp ?_ ?_ ?_
              · omega
              · omega
              clear hS hK sp s0 s1 q0 q1
              intro X hS
              try simp only [Act.put, List.getElem_toArray, List.getElem_cons_zero, List.getElem_cons_succ, List.setIfInBounds_toArray, List.set_cons_zero, List.set_cons_succ]
              refine wpAnyH_take (i := 23) (v := ?_) rfl (by kernel_rfl) (by kernel_rfl) (by kernel_rfl) (fun _ _ _ h => h) (Or.inl ⟨by rfl, ?_⟩) (by assumption) ?_
              rotate_left
              · intro W hSW; (try dsimp only at hSW); go_simp; (first | done | with_reducible rfl)
              simp only [Act.put, List.getElem_toArray, List.getElem_cons_zero, List.getElem_cons_succ, List.setIfInBounds_toArray, List.set_cons_zero, List.set_cons_succ]
              refine wpAnyH_done (by kernel_rfl) ?_ _
              go_wp2_with fail
              go_meet
              exact ⟨rfl, hS⟩
            · skip
              have al := hS.2.lt
              have al2 := hS.1.size
              try dsimp only [World.drew] at al al2
              go_simp
              refine held_new hK.out ⟨hS.1.alloc _, hS.2.alloc _⟩ ?_
              intro X eX hS2 sp
              clear hS hK
              have hS := hS2
              clear hS2
              try dsimp only [World.drew] at sp
              clear eX
              try simp only [Act.put, List.getElem_toArray, List.getElem_cons_zero, List.getElem_cons_succ, List.setIfInBounds_toArray, List.set_cons_zero, List.set_cons_succ]
              refine wpAnyH_ready (rs := [17]) (by kernel_rfl) (by simp) ?_
              refine (AllReadyH.cons rfl (fun K hK => ?_) AllReadyH.nil)
              go_simp
              refine (HL.out _).mono ?_
              rintro e w3 ⟨rfl, hn⟩
              replace sp := sp.kept hn
              refine hK.out _ _ (⟨hS.1.trans hn, hS.2.kept hn⟩) (fun hS2 => ?_)
              clear hS hK
              have hS := hS2
              clear hS2
              try simp only [Act.put, List.getElem_toArray, List.getElem_cons_zero, List.getElem_cons_succ, List.setIfInBounds_toArray, List.set_cons_zero, List.set_cons_succ]
              refine wpAnyH_take (i := 18) (v := ?_) rfl (by kernel_rfl) (by kernel_rfl) (by kernel_rfl) (fun _ _ _ h => h) (Or.inl ⟨by rfl, ?_⟩) (by assumption) ?_
              rotate_left
              · intro W hSW; (try dsimp only at hSW); go_simp; (first | done | with_reducible rfl)
              simp only [Act.put, List.getElem_toArray, List.getElem_cons_zero, List.getElem_cons_succ, List.setIfInBounds_toArray, List.set_cons_zero, List.set_cons_succ]
              refine wpAnyH_take (i := 19) (v := ?_) rfl (by kernel_rfl) (by kernel_rfl) (by kernel_rfl) (fun _ _ _ h => h) (Or.inl ⟨by rfl, ?_⟩) (by assumption) ?_
              rotate_left
              · intro W hSW; (try dsimp only at hSW); go_simp; (first | done | with_reducible rfl)
              simp only [Act.put, List.getElem_toArray, List.getElem_cons_zero, List.getElem_cons_succ, List.setIfInBounds_toArray, List.set_cons_zero, List.set_cons_succ]
              refine wpAnyH_take (i := 20) (v := ?_) rfl (by kernel_rfl) (by kernel_rfl) (by kernel_rfl) (fun _ _ _ h => h) (Or.inl ⟨by rfl, ?_⟩) (by assumption) ?_
              rotate_left
              · intro W hSW; (try dsimp only at hSW); go_simp; (first | done | with_reducible rfl)
              simp only [Act.put, List.getElem_toArray, List.getElem_cons_zero, List.getElem_cons_succ, List.setIfInBounds_toArray, List.set_cons_zero, List.set_cons_succ]
              refine wpAnyH_ready (rs := [22]) (by kernel_rfl) (by simp) ?_
              refine (AllReadyH.cons rfl (fun K hK => ?_) AllReadyH.nil)
              have s0 := sp.at 0 _ rfl
              have q0 := sp.free 0
              have s1 := sp.at 1 _ rfl
              have q1 := sp.free 1
              go_simp
              refine held_put2 hK.out hS sp ?_ ?_ ?_
              · omega
              · omega
              clear hS hK sp s0 s1 q0 q1
              intro X hS
              try simp only [Act.put, List.getElem_toArray, List.getElem_cons_zero, List.getElem_cons_succ, List.setIfInBounds_toArray, List.set_cons_zero, List.set_cons_succ]
              refine wpAnyH_take (i := 23) (v := ?_) rfl (by kernel_rfl) (by kernel_rfl) (by kernel_rfl) (fun _ _ _ h => h) (Or.inl ⟨by rfl, ?_⟩) (by assumption) ?_
              rotate_left
              · intro W hSW; (try dsimp only at hSW); go_simp; (first | done | with_reducible rfl)
              simp only [Act.put, List.getElem_toArray, List.getElem_cons_zero, List.getElem_cons_succ, List.setIfInBounds_toArray, List.set_cons_zero, List.set_cons_succ]
              refine wpAnyH_done (by kernel_rfl) ?_ _
              go_wp2_with fail
              go_meet
              exact ⟨rfl, hS⟩
          · skip
            have al := hS.2.lt
            have al2 := hS.1.size
            try dsimp only [World.drew] at al al2
            go_simp
            refine held_new hK.out ⟨hS.1.alloc _, hS.2.alloc _⟩ ?_
            intro X eX hS2 sp
            clear hS hK
            have hS := hS2
            clear hS2
            try dsimp only [World.drew] at sp
            replace na := (eX ▸ na.alloc _ : Own X _ _ _)
            clear eX
            try simp only [Act.put, List.getElem_toArray, List.getElem_cons_zero, List.getElem_cons_succ, List.setIfInBounds_toArray, List.set_cons_zero, List.set_cons_succ]
            refine wpAnyH_ready (rs := [8]) (by kernel_rfl) (by simp) ?_
            refine (AllReadyH.cons rfl (fun K hK => ?_) AllReadyH.nil)
            have na0 := own_pick na hk4
            go_simp
            clear na0 na
            refine hK.out _ _ (hS) (fun hS2 => ?_)
            clear hS hK
            have hS := hS2
            clear hS2
            try simp only [Act.put, List.getElem_toArray, List.getElem_cons_zero, List.getElem_cons_succ, List.setIfInBounds_toArray, List.set_cons_zero, List.set_cons_succ]
            refine wpAnyH_ready (rs := [17]) (by kernel_rfl) (by simp) ?_
            refine (AllReadyH.cons rfl (fun K hK => ?_) AllReadyH.nil)
            go_simp
            refine (HL.out _).mono ?_
            rintro e w3 ⟨rfl, hn⟩
            replace sp := sp.kept hn
            refine hK.out _ _ (⟨hS.1.trans hn, hS.2.kept hn⟩) (fun hS2 => ?_)
            clear hS hK
            have hS := hS2
            clear hS2
            try simp only [Act.put, List.getElem_toArray, List.getElem_cons_zero, List.getElem_cons_succ, List.setIfInBounds_toArray, List.set_cons_zero, List.set_cons_succ]
            refine wpAnyH_take (i := 18) (v := ?_) rfl (by kernel_rfl) (by kernel_rfl) (by kernel_rfl) (fun _ _ _ h => h) (Or.inl ⟨by rfl, ?_⟩) (by assumption) ?_
            rotate_left
            · intro W hSW; (try dsimp only at hSW); go_simp; (first | done | with_reducible rfl)
            simp only [Act.put, List.getElem_toArray, List.getElem_cons_zero, List.getElem_cons_succ, List.setIfInBounds_toArray, List.set_cons_zero, List.set_cons_succ]
            refine wpAnyH_take (i := 19) (v := ?_) rfl (by kernel_rfl) (by kernel_rfl) (by kernel_rfl) (fun _ _ _ h => h) (Or.inl ⟨by rfl, ?_⟩) (by assumption) ?_
            rotate_left
            · intro W hSW; (try dsimp only at hSW); go_simp; (first | done | with_reducible rfl)
            simp only [Act.put, List.getElem_toArray, List.getElem_cons_zero, List.getElem_cons_succ, List.setIfInBounds_toArray, List.set_cons_zero, List.set_cons_succ]
            refine wpAnyH_take (i := 20) (v := ?_) rfl (by kernel_rfl) (by kernel_rfl) (by kernel_rfl) (fun _ _ _ h => h) (Or.inl ⟨by rfl, ?_⟩) (by assumption) ?_
            rotate_left
            · intro W hSW; (try dsimp only at hSW); go_simp; (first | done | with_reducible rfl)
            simp only [Act.put, List.getElem_toArray, List.getElem_cons_zero, List.getElem_cons_succ, List.setIfInBounds_toArray, List.set_cons_zero, List.set_cons_succ]
            refine wpAnyH_ready (rs := [22]) (by kernel_rfl) (by simp) ?_
            refine (AllReadyH.cons rfl (fun K hK => ?_) AllReadyH.nil)
            have s0 := sp.at 0 _ rfl
            have q0 := sp.free 0
            have s1 := sp.at 1 _ rfl
            have q1 := sp.free 1
            go_simp
            refine held_put2 hK.out hS sp ?_ ?_ ?_
            · omega
            · omega
            clear hS hK sp s0 s1 q0 q1
            intro X hS
            try simp only [Act.put, List.getElem_toArray, List.getElem_cons_zero, List.getElem_cons_succ, List.setIfInBounds_toArray, List.set_cons_zero, List.set_cons_succ]
            refine wpAnyH_take (i := 23) (v := ?_) rfl (by kernel_rfl) (by kernel_rfl) (by kernel_rfl) (fun _ _ _ h => h) (Or.inl ⟨by rfl, ?_⟩) (by assumption) ?_
            rotate_left
            · intro W hSW; (try dsimp only at hSW); go_simp; (first | done | with_reducible rfl)
            simp only [Act.put, List.getElem_toArray, List.getElem_cons_zero, List.getElem_cons_succ, List.setIfInBounds_toArray, List.set_cons_zero, List.set_cons_succ]
            refine wpAnyH_done (by kernel_rfl) ?_ _
            go_wp2_with fail
            go_meet
            exact ⟨rfl, hS⟩
        · skip
          have al := hS.2.lt
          have al2 := hS.1.size
          try dsimp only [World.drew] at al al2
          go_simp
          refine held_new hK.out ⟨hS.1.alloc _, hS.2.alloc _⟩ ?_
          intro X eX hS2 sp
          clear hS hK
          have hS := hS2
          clear hS2
          try dsimp only [World.drew] at sp
          replace na := (eX ▸ na.alloc _ : Own X _ _ _)
          replace nb := (eX ▸ nb.alloc _ : Own X _ _ _)
          clear eX
          try simp only [Act.put, List.getElem_toArray, List.getElem_cons_zero, List.getElem_cons_succ, List.setIfInBounds_toArray, List.set_cons_zero, List.set_cons_succ]
          refine wpAnyH_ready (rs := [8, 16]) (by kernel_rfl) (by simp) ?_
          refine (AllReadyH.cons rfl (fun K hK => ?_) (AllReadyH.cons rfl (fun K hK => ?_) AllReadyH.nil))
          · skip
            have na0 := own_pick na hk4
            go_simp
            clear na0 na
            refine hK.out _ _ (hS) (fun hS2 => ?_)
            clear hS hK
            have hS := hS2
            clear hS2
            try simp only [Act.put, List.getElem_toArray, List.getElem_cons_zero, List.getElem_cons_succ, List.setIfInBounds_toArray, List.set_cons_zero, List.set_cons_succ]
            refine wpAnyH_ready (rs := [16]) (by kernel_rfl) (by simp) ?_
            refine (AllReadyH.cons rfl (fun K hK => ?_) AllReadyH.nil)
            have nb0 := own_pick nb hk4
            go_simp
            clear nb0 nb
            refine hK.out _ _ (hS) (fun hS2 => ?_)
            clear hS hK
            have hS := hS2
            clear hS2
            try simp only [Act.put, List.getElem_toArray, List.getElem_cons_zero, List.getElem_cons_succ, List.setIfInBounds_toArray, List.set_cons_zero, List.set_cons_succ]
            refine wpAnyH_ready (rs := [17]) (by kernel_rfl) (by simp) ?_
            refine (AllReadyH.cons rfl (fun K hK => ?_) AllReadyH.nil)
            go_simp
            refine (HL.out _).mono ?_
            rintro e w3 ⟨rfl, hn⟩
            replace sp := sp.kept hn
            refine hK.out _ _ (⟨hS.1.trans hn, hS.2.kept hn⟩) (fun hS2 => ?_)
            clear hS hK
            have hS := hS2
            clear hS2
            try simp only [Act.put, List.getElem_toArray, List.getElem_cons_zero, List.getElem_cons_succ, List.setIfInBounds_toArray, List.set_cons_zero, List.set_cons_succ]
            refine wpAnyH_take (i := 18) (v := ?_) rfl (by kernel_rfl) (by kernel_rfl) (by kernel_rfl) (fun _ _ _ h => h) (Or.inl ⟨by rfl, ?_⟩) (by assumption) ?_
            rotate_left
            · intro W hSW; (try dsimp only at hSW); go_simp; (first | done | with_reducible rfl)
            simp only [Act.put, List.getElem_toArray, List.getElem_cons_zero, List.getElem_cons_succ, List.setIfInBounds_toArray, List.set_cons_zero, List.set_cons_succ]
            refine wpAnyH_take (i := 19) (v := ?_) rfl (by kernel_rfl) (by kernel_rfl) (by kernel_rfl) (fun _ _ _ h => h) (Or.inl ⟨by rfl, ?_⟩) (by assumption) ?_
            rotate_left
            · intro W hSW; (try dsimp only at hSW); go_simp; (first | done | with_reducible rfl)
            simp only [Act.put, List.getElem_toArray, List.getElem_cons_zero, List.getElem_cons_succ, List.setIfInBounds_toArray, List.set_cons_zero, List.set_cons_succ]
            refine wpAnyH_take (i := 20) (v := ?_) rfl (by kernel_rfl) (by kernel_rfl) (by kernel_rfl) (fun _ _ _ h => h) (Or.inl ⟨by rfl, ?_⟩) (by assumption) ?_
            rotate_left
            · intro W hSW; (try dsimp only at hSW); go_simp; (first | done | with_reducible rfl)
            simp only [Act.put, List.getElem_toArray, List.getElem_cons_zero, List.getElem_cons_succ, List.setIfInBounds_toArray, List.set_cons_zero, List.set_cons_succ]
            refine wpAnyH_ready (rs := [22]) (by kernel_rfl) (by simp) ?_
            refine (AllReadyH.cons rfl (fun K hK => ?_) AllReadyH.nil)
            have s0 := sp.at 0 _ rfl
            have q0 := sp.free 0
            have s1 := sp.at 1 _ rfl
            have q1 := sp.free 1
            go_simp
            refine held_put2 hK.out hS sp ?_ ?_ ?_
            · omega
            · omega
            clear hS hK sp s0 s1 q0 q1
            intro X hS
            try simp only [Act.put, List.getElem_toArray, List.getElem_cons_zero, List.getElem_cons_succ, List.setIfInBounds_toArray, List.set_cons_zero, List.set_cons_succ]
            refine wpAnyH_take (i := 23) (v := ?_) rfl (by kernel_rfl) (by kernel_rfl) (by kernel_rfl) (fun _ _ _ h => h) (Or.inl ⟨by rfl, ?_⟩) (by assumption) ?_
            rotate_left
            · intro W hSW; (try dsimp only at hSW); go_simp; (first | done | with_reducible rfl)
            simp only [Act.put, List.getElem_toArray, List.getElem_cons_zero, List.getElem_cons_succ, List.setIfInBounds_toArray, List.set_cons_zero, List.set_cons_succ]
            refine wpAnyH_done (by kernel_rfl) ?_ _
            go_wp2_with fail
            go_meet
            exact ⟨rfl, hS⟩
          · skip
            have nb0 := own_pick nb hk4
            go_simp
            clear nb0 nb
            refine hK.out _ _ (hS) (fun hS2 => ?_)
            clear hS hK
            have hS := hS2
            clear hS2
            try simp only [Act.put, List.getElem_toArray, List.getElem_cons_zero, List.getElem_cons_succ, List.setIfInBounds_toArray, List.set_cons_zero, List.set_cons_succ]
            refine wpAnyH_ready (rs := [8]) (by kernel_rfl) (by simp) ?_
            refine (AllReadyH.cons rfl (fun K hK => ?_) AllReadyH.nil)
            have na0 := own_pick na hk4
            go_simp
            clear na0 na
            refine hK.out _ _ (hS) (fun hS2 => ?_)
            clear hS hK
            have hS := hS2
            clear hS2
            try simp only [Act.put, List.getElem_toArray, List.getElem_cons_zero, List.getElem_cons_succ, List.setIfInBounds_toArray, List.set_cons_zero, List.set_cons_succ]
            refine wpAnyH_ready (rs := [17]) (by kernel_rfl) (by simp) ?_
            refine (AllReadyH.cons rfl (fun K hK => ?_) AllReadyH.nil)
            go_simp
            refine (HL.out _).mono ?_
            rintro e w3 ⟨rfl, hn⟩
            replace sp := sp.kept hn
            refine hK.out _ _ (⟨hS.1.trans hn, hS.2.kept hn⟩) (fun hS2 => ?_)
            clear hS hK
            have hS := hS2
            clear hS2
            try simp only [Act.put, List.getElem_toArray, List.getElem_cons_zero, List.getElem_cons_succ, List.setIfInBounds_toArray, List.set_cons_zero, List.set_cons_succ]
            refine wpAnyH_take (i := 18) (v := ?_) rfl (by kernel_rfl) (by kernel_rfl) (by kernel_rfl) (fun _ _ _ h => h) (Or.inl ⟨by rfl, ?_⟩) (by assumption) ?_
            rotate_left
            · intro W hSW; (try dsimp only at hSW); go_simp; (first | done | with_reducible rfl)
            simp only [Act.put, List.getElem_toArray, List.getElem_cons_zero, List.getElem_cons_succ, List.setIfInBounds_toArray, List.set_cons_zero, List.set_cons_succ]
            refine wpAnyH_take (i := 19) (v := ?_) rfl (by kernel_rfl) (by kernel_rfl) (by kernel_rfl) (fun _ _ _ h => h) (Or.inl ⟨by rfl, ?_⟩) (by assumption) ?_
            rotate_left
            · intro W hSW; (try dsimp only at hSW); go_simp; (first | done | with_reducible rfl)
            simp only [Act.put, List.getElem_toArray, List.getElem_cons_zero, List.getElem_cons_succ, List.setIfInBounds_toArray, List.set_cons_zero, List.set_cons_succ]
            refine wpAnyH_take (i := 20) (v := ?_) rfl (by kernel_rfl) (by kernel_rfl) (by kernel_rfl) (fun _ _ _ h => h) (Or.inl ⟨by rfl, ?_⟩) (by assumption) ?_
            rotate_left
            · intro W hSW; (try dsimp only at hSW); go_simp; (first | done | with_reducible rfl)
            simp only [Act.put, List.getElem_toArray, List.getElem_cons_zero, List.getElem_cons_succ, List.setIfInBounds_toArray, List.set_cons_zero, List.set_cons_succ]
            refine wpAnyH_ready (rs := [22]) (by kernel_rfl) (by simp) ?_
            refine (AllReadyH.cons rfl (fun K hK => ?_) AllReadyH.nil)
            have s0 := sp.at 0 _ rfl
            have q0 := sp.free 0
            have s1 := sp.at 1 _ rfl
            have q1 := sp.free 1
            go_simp
            refine held_put2 hK.out hS sp ?_ ?_ ?_
            · omega
            · omega
            clear hS hK sp s0 s1 q0 q1
            intro X hS
            try simp only [Act.put, List.getElem_toArray, List.getElem_cons_zero, List.getElem_cons_succ, List.setIfInBounds_toArray, List.set_cons_zero, List.set_cons_succ]
            refine wpAnyH_take (i := 23) (v := ?_) rfl (by kernel_rfl) (by kernel_rfl) (by kernel_rfl) (fun _ _ _ h => h) (Or.inl ⟨by rfl, ?_⟩) (by assumption) ?_
            rotate_left
            · intro W hSW; (try dsimp only at hSW); go_simp; (first | done | with_reducible rfl)
            simp only [Act.put, List.getElem_toArray, List.getElem_cons_zero, List.getElem_cons_succ, List.setIfInBounds_toArray, List.set_cons_zero, List.set_cons_succ]
            refine wpAnyH_done (by kernel_rfl) ?_ _
            go_wp2_with fail
            go_meet
            exact ⟨rfl, hS⟩
      · skip
        have al := hS.2.lt
        have al2 := hS.1.size
        try dsimp only [World.drew] at al al2
        go_simp
        refine held_new hK.out ⟨hS.1.alloc _, hS.2.alloc _⟩ ?_
        intro X eX hS2 sp
        clear hS hK
        have hS := hS2
        clear hS2
        try dsimp only [World.drew] at sp
        replace na := (eX ▸ na.alloc _ : Own X _ _ _)
        clear eX
        try simp only [Act.put, List.getElem_toArray, List.getElem_cons_zero, List.getElem_cons_succ, List.setIfInBounds_toArray, List.set_cons_zero, List.set_cons_succ]
        refine wpAnyH_ready (rs := [8, 12]) (by kernel_rfl) (by simp) ?_
        refine (AllReadyH.cons rfl (fun K hK => ?_) (AllReadyH.cons rfl (fun K hK => ?_) AllReadyH.nil))
        · skip
          have na0 := own_pick na hk4
          go_simp
          clear na0 na
          refine hK.out _ _ (hS) (fun hS2 => ?_)
          clear hS hK
          have hS := hS2
          clear hS2
          try simp only [Act.put, List.getElem_toArray, List.getElem_cons_zero, List.getElem_cons_succ, List.setIfInBounds_toArray, List.set_cons_zero, List.set_cons_succ]
          refine wpAnyH_ready (rs := [12]) (by kernel_rfl) (by simp) ?_
          refine (AllReadyH.cons rfl (fun K hK => ?_) AllReadyH.nil)
          have al := hS.2.lt
          have al2 := hS.1.size
          try dsimp only [World.drew] at al al2
          go_simp
          refine held_new hK.out ⟨hS.1.alloc _, hS.2.alloc _⟩ ?_
          intro X eX hS2 nb
          clear hS hK
          have hS := hS2
          clear hS2
          try dsimp only [World.drew] at nb
          replace sp := (eX ▸ sp.alloc _ : Own X _ _ _)
          clear eX
          try simp only [Act.put, List.getElem_toArray, List.getElem_cons_zero, List.getElem_cons_succ, List.setIfInBounds_toArray, List.set_cons_zero, List.set_cons_succ]
          refine wpAnyH_take (i := 15) (v := ?_) rfl (by kernel_rfl) (by kernel_rfl) (by kernel_rfl) (fun _ _ _ h => h) (Or.inl ⟨by rfl, ?_⟩) (by assumption) ?_
          rotate_left
          · intro W hSW; (try dsimp only at hSW); go_simp; (first | done | with_reducible rfl)
          simp only [Act.put, List.getElem_toArray, List.getElem_cons_zero, List.getElem_cons_succ, List.setIfInBounds_toArray, List.set_cons_zero, List.set_cons_succ]
          refine wpAnyH_ready (rs := [16]) (by kernel_rfl) (by simp) ?_
          refine (AllReadyH.cons rfl (fun K hK => ?_) AllReadyH.nil)
          have nb0 := own_pick nb hk4
          go_simp
          clear nb0 nb
          refine hK.out _ _ (hS) (fun hS2 => ?_)
          clear hS hK
          have hS := hS2
          clear hS2
          try simp only [Act.put, List.getElem_toArray, List.getElem_cons_zero, List.getElem_cons_succ, List.setIfInBounds_toArray, List.set_cons_zero, List.set_cons_succ]
          refine wpAnyH_ready (rs := [17]) (by kernel_rfl) (by simp) ?_
          refine (AllReadyH.cons rfl (fun K hK => ?_) AllReadyH.nil)
          go_simp
          refine (HL.out _).mono ?_
          rintro e w3 ⟨rfl, hn⟩
          replace sp := sp.kept hn
          refine hK.out _ _ (⟨hS.1.trans hn, hS.2.kept hn⟩) (fun hS2 => ?_)
          clear hS hK
          have hS := hS2
          clear hS2
          try simp only [Act.put, List.getElem_toArray, List.getElem_cons_zero, List.getElem_cons_succ, List.setIfInBounds_toArray, List.set_cons_zero, List.set_cons_succ]
          refine wpAnyH_take (i := 18) (v := ?_) rfl (by kernel_rfl) (by kernel_rfl) (by kernel_rfl) (fun _ _ _ h => h) (Or.inl ⟨by rfl, ?_⟩) (by assumption) ?_
          rotate_left
          · intro W hSW; (try dsimp only at hSW); go_simp; (first | done | with_reducible rfl)
          simp only [Act.put, List.getElem_toArray, List.getElem_cons_zero, List.getElem_cons_succ, List.setIfInBounds_toArray, List.set_cons_zero, List.set_cons_succ]
          refine wpAnyH_take (i := 19) (v := ?_) rfl (by kernel_rfl) (by kernel_rfl) (by kernel_rfl) (fun _ _ _ h => h) (Or.inl ⟨by rfl, ?_⟩) (by assumption) ?_
          rotate_left
          · intro W hSW; (try dsimp only at hSW); go_simp; (first | done | with_reducible rfl)
          simp only [Act.put, List.getElem_toArray, List.getElem_cons_zero, List.getElem_cons_succ, List.setIfInBounds_toArray, List.set_cons_zero, List.set_cons_succ]
          refine wpAnyH_take (i := 20) (v := ?_) rfl (by kernel_rfl) (by kernel_rfl) (by kernel_rfl) (fun _ _ _ h => h) (Or.inl ⟨by rfl, ?_⟩) (by assumption) ?_
          rotate_left
          · intro W hSW; (try dsimp only at hSW); go_simp; (first | done | with_reducible rfl)
          simp only [Act.put, List.getElem_toArray, List.getElem_cons_zero, List.getElem_cons_succ, List.setIfInBounds_toArray, List.set_cons_zero, List.set_cons_succ]
          refine wpAnyH_ready (rs := [22]) (by kernel_rfl) (by simp) ?_
          refine (AllReadyH.cons rfl (fun K hK => ?_) AllReadyH.nil)
          have s0 := sp.at 0 _ rfl
          have q0 := sp.free 0
          have s1 := sp.at 1 _ rfl
          have q1 := sp.free 1
          go_simp
          refine held_put2 hK.out hS sp ?_ ?_ ?_
          · omega
          · omega
          clear hS hK sp s0 s1 q0 q1
          intro X hS
          try simp only [Act.put, List.getElem_toArray, List.getElem_cons_zero, List.getElem_cons_succ, List.setIfInBounds_toArray, List.set_cons_zero, List.set_cons_succ]
          refine wpAnyH_take (i := 23) (v := ?_) rfl (by kernel_rfl) (by kernel_rfl) (by kernel_rfl) (fun _ _ _ h => h) (Or.inl ⟨by rfl, ?_⟩) (by assumption) ?_
          rotate_left
          · intro W hSW; (try dsimp only at hSW); go_simp; (first | done | with_reducible rfl)
          simp only [Act.put, List.getElem_toArray, List.getElem_cons_zero, List.getElem_cons_succ, List.setIfInBounds_toArray, List.set_cons_zero, List.set_cons_succ]
          refine wpAnyH_done (by kernel_rfl) ?_ _
          go_wp2_with fail
          go_meet
          exact ⟨rfl, hS⟩
        · skip
          have al := hS.2.lt
          have al2 := hS.1.size
          try dsimp only [World.drew] at al al2
          go_simp
          refine held_new hK.out ⟨hS.1.alloc _, hS.2.alloc _⟩ ?_
          intro X eX hS2 nb
          clear hS hK
          have hS := hS2
          clear hS2
          try dsimp only [World.drew] at nb
          replace na := (eX ▸ na.alloc _ : Own X _ _ _)
          replace sp := (eX ▸ sp.alloc _ : Own X _ _ _)
          clear eX
          try simp only [Act.put, List.getElem_toArray, List.getElem_cons_zero, List.getElem_cons_succ, List.setIfInBounds_toArray, List.set_cons_zero, List.set_cons_succ]
          refine wpAnyH_take (i := 15) (v := ?_) rfl (by kernel_rfl) (by kernel_rfl) (by kernel_rfl) (fun _ _ _ h => h) (Or.inl ⟨by rfl, ?_⟩) (by assumption) ?_
          rotate_left
          · intro W hSW; (try dsimp only at hSW); go_simp; (first | done | with_reducible rfl)
          simp only [Act.put, List.getElem_toArray, List.getElem_cons_zero, List.getElem_cons_succ, List.setIfInBounds_toArray, List.set_cons_zero, List.set_cons_succ]
          refine wpAnyH_ready (rs := [8, 16]) (by kernel_rfl) (by simp) ?_
          refine (AllReadyH.cons rfl (fun K hK => ?_) (AllReadyH.cons rfl (fun K hK => ?_) AllReadyH.nil))
          · skip
            have na0 := own_pick na hk4
            go_simp
            clear na0 na
            refine hK.out _ _ (hS) (fun hS2 => ?_)
            clear hS hK
            have hS := hS2
            clear hS2
            try simp only [Act.put, List.getElem_toArray, List.getElem_cons_zero, List.getElem_cons_succ, List.setIfInBounds_toArray, List.set_cons_zero, List.set_cons_succ]
            refine wpAnyH_ready (rs := [16]) (by kernel_rfl) (by simp) ?_
            refine (AllReadyH.cons rfl (fun K hK => ?_) AllReadyH.nil)
            have nb0 := own_pick nb hk4
            go_simp
            clear nb0 nb
            refine hK.out _ _ (hS) (fun hS2 => ?_)
            clear hS hK
            have hS := hS2
            clear hS2
            try simp only [Act.put, List.getElem_toArray, List.getElem_cons_zero, List.getElem_cons_succ, List.setIfInBounds_toArray, List.set_cons_zero, List.set_cons_succ]
            refine wpAnyH_ready (rs := [17]) (by kernel_rfl) (by simp) ?_
            refine (AllReadyH.cons rfl (fun K hK => ?_) AllReadyH.nil)
            go_simp
            refine (HL.out _).mono ?_
            rintro e w3 ⟨rfl, hn⟩
            replace sp := sp.kept hn
            refine hK.out _ _ (⟨hS.1.trans hn, hS.2.kept hn⟩) (fun hS2 => ?_)
            clear hS hK
            have hS := hS2
            clear hS2
            try simp only [Act.put, List.getElem_toArray, List.getElem_cons_zero, List.getElem_cons_succ, List.setIfInBounds_toArray, List.set_cons_zero, List.set_cons_succ]
            refine wpAnyH_take (i := 18) (v := ?_) rfl (by kernel_rfl) (by kernel_rfl) (by kernel_rfl) (fun _ _ _ h => h) (Or.inl ⟨by rfl, ?_⟩) (by assumption) ?_
            rotate_left
            · intro W hSW; (try dsimp only at hSW); go_simp; (first | done | with_reducible rfl)
            simp only [Act.put, List.getElem_toArray, List.getElem_cons_zero, List.getElem_cons_succ, List.setIfInBounds_toArray, List.set_cons_zero, List.set_cons_succ]
            refine wpAnyH_take (i := 19) (v := ?_) rfl (by kernel_rfl) (by kernel_rfl) (by kernel_rfl) (fun _ _ _ h => h) (Or.inl ⟨by rfl, ?_⟩) (by assumption) ?_
            rotate_left
            · intro W hSW; (try dsimp only at hSW); go_simp; (first | done | with_reducible rfl)
            simp only [Act.put, List.getElem_toArray, List.getElem_cons_zero, List.getElem_cons_succ, List.setIfInBounds_toArray, List.set_cons_zero, List.set_cons_succ]
            refine wpAnyH_take (i := 20) (v := ?_) rfl (by kernel_rfl) (by kernel_rfl) (by kernel_rfl) (fun _ _ _ h => h) (Or.inl ⟨by rfl, ?_⟩) (by assumption) ?_
            rotate_left
            · intro W hSW; (try dsimp only at hSW); go_simp; (first | done | with_reducible rfl)
            simp only [Act.put, List.getElem_toArray, List.getElem_cons_zero, List.getElem_cons_succ, List.setIfInBounds_toArray, List.set_cons_zero, List.set_cons_succ]
            refine wpAnyH_ready (rs := [22]) (by kernel_rfl) (by simp) ?_
            refine (AllReadyH.cons rfl (fun K hK => ?_) AllReadyH.nil)
            have s0 := sp.at 0 _ rfl
            have q0 := sp.free 0
            have s1 := sp.at 1 _ rfl
            have q1 := sp.free 1
            go_simp
            refine held_put2 hK.out hS sp ?_ ?_ ?_
            · omega
            · omega
            clear hS hK sp s0 s1 q0 q1
            intro X hS
            try simp only [Act.put, List.getElem_toArray, List.getElem_cons_zero, List.getElem_cons_succ, List.setIfInBounds_toArray, List.set_cons_zero, List.set_cons_succ]
            refine wpAnyH_take (i := 23) (v := ?_) rfl (by kernel_rfl) (by kernel_rfl) (by kernel_rfl) (fun _ _ _ h => h) (Or.inl ⟨by rfl, ?_⟩) (by assumption) ?_
            rotate_left
            · intro W hSW; (try dsimp only at hSW); go_simp; (first | done | with_reducible rfl)
            simp only [Act.put, List.getElem_toArray, List.getElem_cons_zero, List.getElem_cons_succ, List.setIfInBounds_toArray, List.set_cons_zero, List.set_cons_succ]
            refine wpAnyH_done (by kernel_rfl) ?_ _
            go_wp2_with fail
            go_meet
            exact ⟨rfl, hS⟩
          · skip
            have nb0 := own_pick nb hk4
            go_simp
            clear nb0 nb
            refine hK.out _ _ (hS) (fun hS2 => ?_)
            clear hS hK
            have hS := hS2
            clear hS2
            try simp only [Act.put, List.getElem_toArray, List.getElem_cons_zero, List.getElem_cons_succ, List.setIfInBounds_toArray, List.set_cons_zero, List.set_cons_succ]
            refine wpAnyH_ready (rs := [8]) (by kernel_rfl) (by simp) ?_
            refine (AllReadyH.cons rfl (fun K hK => ?_) AllReadyH.nil)
            have na0 := own_pick na hk4
            go_simp
            clear na0 na
            refine hK.out _ _ (hS) (fun hS2 => ?_)
            clear hS hK
            have hS := hS2
            clear hS2
            try simp only [Act.put, List.getElem_toArray, List.getElem_cons_zero, List.getElem_cons_succ, List.setIfInBounds_toArray, List.set_cons_zero, List.set_cons_succ]
            refine wpAnyH_ready (rs := [17]) (by kernel_rfl) (by simp) ?_
            refine (AllReadyH.cons rfl (fun K hK => ?_) AllReadyH.nil)
            go_simp
            refine (HL.out _).mono ?_
            rintro e w3 ⟨rfl, hn⟩
            replace sp := sp.kept hn
            refine hK.out _ _ (⟨hS.1.trans hn, hS.2.kept hn⟩) (fun hS2 => ?_)
            clear hS hK
            have hS := hS2
            clear hS2
            try simp only [Act.put, List.getElem_toArray, List.getElem_cons_zero, List.getElem_cons_succ, List.setIfInBounds_toArray, List.set_cons_zero, List.set_cons_succ]
            refine wpAnyH_take (i := 18) (v := ?_) rfl (by kernel_rfl) (by kernel_rfl) (by kernel_rfl) (fun _ _ _ h => h) (Or.inl ⟨by rfl, ?_⟩) (by assumption) ?_
            rotate_left
            · intro W hSW; (try dsimp only at hSW); go_simp; (first | done | with_reducible rfl)
            simp only [Act.put, List.getElem_toArray, List.getElem_cons_zero, List.getElem_cons_succ, List.setIfInBounds_toArray, List.set_cons_zero, List.set_cons_succ]
            refine wpAnyH_take (i := 19) (v := ?_) rfl (by kernel_rfl) (by kernel_rfl) (by kernel_rfl) (fun _ _ _ h => h) (Or.inl ⟨by rfl, ?_⟩) (by assumption) ?_
            rotate_left
            · intro W hSW; (try dsimp only at hSW); go_simp; (first | done | with_reducible rfl)
            simp only [Act.put, List.getElem_toArray, List.getElem_cons_zero, List.getElem_cons_succ, List.setIfInBounds_toArray, List.set_cons_zero, List.set_cons_succ]
            refine wpAnyH_take (i := 20) (v := ?_) rfl (by kernel_rfl) (by kernel_rfl) (by kernel_rfl) (fun _ _ _ h => h) (Or.inl ⟨by rfl, ?_⟩) (by assumption) ?_
            rotate_left
            · intro W hSW; (try dsimp only at hSW); go_simp; (first | done | with_reducible rfl)
            simp only [Act.put, List.getElem_toArray, List.getElem_cons_zero, List.getElem_cons_succ, List.setIfInBounds_toArray, List.set_cons_zero, List.set_cons_succ]
            refine wpAnyH_ready (rs := [22]) (by kernel_rfl) (by simp) ?_
            refine (AllReadyH.cons rfl (fun K hK => ?_) AllReadyH.nil)
            have s0 := sp.at 0 _ rfl
            have q0 := sp.free 0
            have s1 := sp.at 1 _ rfl
            have q1 := sp.free 1
            go_simp
            refine held_put2 hK.out hS sp ?_ ?_ ?_
            · omega
            · omega
            clear hS hK sp s0 s1 q0 q1
            intro X hS
            try simp only [Act.put, List.getElem_toArray, List.getElem_cons_zero, List.getElem_cons_succ, List.setIfInBounds_toArray, List.set_cons_zero, List.set_cons_succ]
            refine wpAnyH_take (i := 23) (v := ?_) rfl (by kernel_rfl) (by kernel_rfl) (by kernel_rfl) (fun _ _ _ h => h) (Or.inl ⟨by rfl, ?_⟩) (by assumption) ?_
            rotate_left
            · intro W hSW; (try dsimp only at hSW); go_simp; (first | done | with_reducible rfl)
            simp only [Act.put, List.getElem_toArray, List.getElem_cons_zero, List.getElem_cons_succ, List.setIfInBounds_toArray, List.set_cons_zero, List.set_cons_succ]
            refine wpAnyH_done (by kernel_rfl) ?_ _
            go_wp2_with fail
            go_meet
            exact ⟨rfl, hS⟩
    · skip
      have al := hS.2.lt
      have al2 := hS.1.size
      try dsimp only [World.drew] at al al2
      go_simp
      refine held_new hK.out ⟨hS.1.alloc _, hS.2.alloc _⟩ ?_
      intro X eX hS2 nb
      clear hS hK
      have hS := hS2
      clear hS2
      try dsimp only [World.drew] at nb
      clear eX
      try simp only [Act.put, List.getElem_toArray, List.getElem_cons_zero, List.getElem_cons_succ, List.setIfInBounds_toArray, List.set_cons_zero, List.set_cons_succ]
      refine wpAnyH_take (i := 15) (v := ?_) rfl (by kernel_rfl) (by kernel_rfl) (by kernel_rfl) (fun _ _ _ h => h) (Or.inl ⟨by rfl, ?_⟩) (by assumption) ?_
      rotate_left
      · intro W hSW; (try dsimp only at hSW); go_simp; (first | done | with_reducible rfl)
      simp only [Act.put, List.getElem_toArray, List.getElem_cons_zero, List.getElem_cons_succ, List.setIfInBounds_toArray, List.set_cons_zero, List.set_cons_succ]
      refine wpAnyH_ready (rs := [4, 16, 21]) (by kernel_rfl) (by simp) ?_
      refine (AllReadyH.cons rfl (fun K hK => ?_) (AllReadyH.cons rfl (fun K hK => ?_) (AllReadyH.cons rfl (fun K hK => ?_) AllReadyH.nil)))
      · skip
        have al := hS.2.lt
        have al2 := hS.1.size
        try dsimp only [World.drew] at al al2
        go_simp
        refine held_new hK.out ⟨hS.1.alloc _, hS.2.alloc _⟩ ?_
        intro X eX hS2 na
        clear hS hK
        have hS := hS2
        clear hS2
        try dsimp only [World.drew] at na
        replace nb := (eX ▸ nb.alloc _ : Own X _ _ _)
        clear eX
        try simp only [Act.put, List.getElem_toArray, List.getElem_cons_zero, List.getElem_cons_succ, List.setIfInBounds_toArray, List.set_cons_zero, List.set_cons_succ]
        refine wpAnyH_take (i := 7) (v := ?_) rfl (by kernel_rfl) (by kernel_rfl) (by kernel_rfl) (fun _ _ _ h => h) (Or.inl ⟨by rfl, ?_⟩) (by assumption) ?_
        rotate_left
        · intro W hSW; (try dsimp only at hSW); go_simp; (first | done | with_reducible rfl)
        simp only [Act.put, List.getElem_toArray, List.getElem_cons_zero, List.getElem_cons_succ, List.setIfInBounds_toArray, List.set_cons_zero, List.set_cons_succ]
        refine wpAnyH_ready (rs := [8, 16, 21]) (by kernel_rfl) (by simp) ?_
        refine (AllReadyH.cons rfl (fun K hK => ?_) (AllReadyH.cons rfl (fun K hK => ?_) (AllReadyH.cons rfl (fun K hK => ?_) AllReadyH.nil)))
        · skip
          have na0 := own_pick na hk4
          go_simp
          clear na0 na
          refine hK.out _ _ (hS) (fun hS2 => ?_)
          clear hS hK
          have hS := hS2
          clear hS2
          try simp only [Act.put, List.getElem_toArray, List.getElem_cons_zero, List.getElem_cons_succ, List.setIfInBounds_toArray, List.set_cons_zero, List.set_cons_succ]
          refine wpAnyH_ready (rs := [16, 21]) (by kernel_rfl) (by simp) ?_
          refine (AllReadyH.cons rfl (fun K hK => ?_) (AllReadyH.cons rfl (fun K hK => ?_) AllReadyH.nil))
          · skip
            have nb0 := own_pick nb hk4
            go_simp
            clear nb0 nb
            refine hK.out _ _ (hS) (fun hS2 => ?_)
            clear hS hK
            have hS := hS2
            clear hS2
            try simp only [Act.put, List.getElem_toArray, List.getElem_cons_zero, List.getElem_cons_succ, List.setIfInBounds_toArray, List.set_cons_zero, List.set_cons_succ]
            refine wpAnyH_ready (rs := [17, 21]) (by kernel_rfl) (by simp) ?_
            refine (AllReadyH.cons rfl (fun K hK => ?_) (AllReadyH.cons rfl (fun K hK => ?_) AllReadyH.nil))
            · skip
              go_simp
              refine (HL.out _).mono ?_
              rintro e w3 ⟨rfl, hn⟩
              refine hK.out _ _ (⟨hS.1.trans hn, hS.2.kept hn⟩) (fun hS2 => ?_)
              clear hS hK
              have hS := hS2
              clear hS2
              try simp only [Act.put, List.getElem_toArray, List.getElem_cons_zero, List.getElem_cons_succ, List.setIfInBounds_toArray, List.set_cons_zero, List.set_cons_succ]
              refine wpAnyH_take (i := 18) (v := ?_) rfl (by kernel_rfl) (by kernel_rfl) (by kernel_rfl) (fun _ _ _ h => h) (Or.inl ⟨by rfl, ?_⟩) (by assumption) ?_
              rotate_left
              · intro W hSW; (try dsimp only at hSW); go_simp; (first | done | with_reducible rfl)
              simp only [Act.put, List.getElem_toArray, List.getElem_cons_zero, List.getElem_cons_succ, List.setIfInBounds_toArray, List.set_cons_zero, List.set_cons_succ]
              refine wpAnyH_take (i := 19) (v := ?_) rfl (by kernel_rfl) (by kernel_rfl) (by kernel_rfl) (fun _ _ _ h => h) (Or.inl ⟨by rfl, ?_⟩) (by assumption) ?_
              rotate_left
              · intro W hSW; (try dsimp only at hSW); go_simp; (first | done | with_reducible rfl)
              simp only [Act.put, List.getElem_toArray, List.getElem_cons_zero, List.getElem_cons_succ, List.setIfInBounds_toArray, List.set_cons_zero, List.set_cons_succ]
              refine wpAnyH_take (i := 20) (v := ?_) rfl (by kernel_rfl) (by kernel_rfl) (by kernel_rfl) (fun _ _ _ h => h) (Or.inl ⟨by rfl, ?_⟩) (by assumption) ?_
              rotate_left
              · intro W hSW; (try dsimp only at hSW); go_simp; (first | done | with_reducible rfl)
              simp only [Act.put, List.getElem_toArray, List.getElem_cons_zero, List.getElem_cons_succ, List.setIfInBounds_toArray, List.set_cons_zero, List.set_cons_succ]
              refine wpAnyH_ready (rs := [21]) (by kernel_rfl) (by simp) ?_
              refine (AllReadyH.cons rfl (fun K hK => ?_) AllReadyH.nil)
              have al := hS.2.lt
              have al2 := hS.1.size
              try dsimp only [World.drew] at al al2
              go_simp
              refine held_new hK.out ⟨hS.1.alloc _, hS.2.alloc _⟩ ?_
              intro X eX hS2 sp
              clear hS hK
              have hS := hS2
              clear hS2
              try dsimp only [World.drew] at sp
              clear eX
              try simp only [Act.put, List.getElem_toArray, List.getElem_cons_zero, List.getElem_cons_succ, List.setIfInBounds_toArray, List.set_cons_zero, List.set_cons_succ]
              refine wpAnyH_ready (rs := [22]) (by kernel_rfl) (by simp) ?_
              refine (AllReadyH.cons rfl (fun K hK => ?_) AllReadyH.nil)
              have s0 := sp.at 0 _ rfl
              have q0 := sp.free 0
              have s1 := sp.at 1 _ rfl
              have q1 := sp.free 1
              go_simp
              refine held_put2 hK.out hS sp ?_ ?_ ?_
              · omega
              · omega
              clear hS hK sp s0 s1 q0 q1
              intro X hS
              try simp only [Act.put, List.getElem_toArray, List.getElem_cons_zero, List.getElem_cons_succ, List.setIfInBounds_toArray, List.set_cons_zero, List.set_cons_succ]
              refine wpAnyH_take (i := 23) (v := ?_) rfl (by kernel_rfl) (by kernel_rfl) (by kernel_rfl) (fun _ _ _ h => h) (Or.inl ⟨by rfl, ?_⟩) (by assumption) ?_
              rotate_left
              · intro W hSW; (try dsimp only at hSW); go_simp; (first | done | with_reducible rfl)
              simp only [Act.put, List.getElem_toArray, List.getElem_cons_zero, List.getElem_cons_succ, List.setIfInBounds_toArray, List.set_cons_zero, List.set_cons_succ]
              refine wpAnyH_done (by kernel_rfl) ?_ _
              go_wp2_with fail
              go_meet
              exact ⟨rfl, hS⟩
            · skip
              have al := hS.2.lt
              have al2 := hS.1.size
              try dsimp only [World.drew] at al al2
              go_simp
              refine held_new hK.out ⟨hS.1.alloc _, hS.2.alloc _⟩ ?_
              intro X eX hS2 sp
              clear hS hK
              have hS := hS2
              clear hS2
              try dsimp only [World.drew] at sp
              clear eX
              try simp only [Act.put, List.getElem_toArray, List.getElem_cons_zero, List.getElem_cons_succ, List.setIfInBounds_toArray, List.set_cons_zero, List.set_cons_succ]
              refine wpAnyH_ready (rs := [17]) (by kernel_rfl) (by simp) ?_
              refine (AllReadyH.cons rfl (fun K hK => ?_) AllReadyH.nil)
              go_simp
              refine (HL.out _).mono ?_
              rintro e w3 ⟨rfl, hn⟩
              replace sp := sp.kept hn
              refine hK.out _ _ (⟨hS.1.trans hn, hS.2.kept hn⟩) (fun hS2 => ?_)
              clear hS hK
              have hS := hS2
              clear hS2
              try simp only [Act.put, List.getElem_toArray, List.getElem_cons_zero, List.getElem_cons_succ, List.setIfInBounds_toArray, List.set_cons_zero, List.set_cons_succ]
              refine wpAnyH_take (i := 18) (v := ?_) rfl (by kernel_rfl) (by kernel_rfl) (by kernel_rfl) (fun _ _ _ h => h) (Or.inl ⟨by rfl, ?_⟩) (by assumption) ?_
              rotate_left
              · intro W hSW; (try dsimp only at hSW); go_simp; (first | done | with_reducible rfl)
              simp only [Act.put, List.getElem_toArray, List.getElem_cons_zero, List.getElem_cons_succ, List.setIfInBounds_toArray, List.set_cons_zero, List.set_cons_succ]
              refine wpAnyH_take (i := 19) (v := ?_) rfl (by kernel_rfl) (by kernel_rfl) (by kernel_rfl) (fun _ _ _ h => h) (Or.inl ⟨by rfl, ?_⟩) (by assumption) ?_
              rotate_left
              · intro W hSW; (try dsimp only at hSW); go_simp; (first | done | with_reducible rfl)
              simp only [Act.put, List.getElem_toArray, List.getElem_cons_zero, List.getElem_cons_succ, List.setIfInBounds_toArray, List.set_cons_zero, List.set_cons_succ]
              refine wpAnyH_take (i := 20) (v := ?_) rfl (by kernel_rfl) (by kernel_rfl) (by kernel_rfl) (fun _ _ _ h => h) (Or.inl ⟨by rfl, ?_⟩) (by assumption) ?_
              rotate_left
              · intro W hSW; (try dsimp only at hSW); go_simp; (first | done | with_reducible rfl)
              simp only [Act.put, List.getElem_toArray, List.getElem_cons_zero, List.getElem_cons_succ, List.setIfInBounds_toArray, List.set_cons_zero, List.set_cons_succ]
              refine wpAnyH_ready (rs := [22]) (by kernel_rfl) (by simp) ?_
              refine (AllReadyH.cons rfl (fun K hK => ?_) AllReadyH.nil)
              have s0 := sp.at 0 _ rfl
              have q0 := sp.free 0
              have s1 := sp.at 1 _ rfl
              have q1 := sp.free 1
              go_simp
              refine held_put2 hK.out hS sp ?_ ?_ ?_
              · omega
              · omega
              clear hS hK sp s0 s1 q0 q1
              intro X hS
              try simp only [Act.put, List.getElem_toArray, List.getElem_cons_zero, List.getElem_cons_succ, List.setIfInBounds_toArray, List.set_cons_zero, List.set_cons_succ]
              refine wpAnyH_take (i := 23) (v := ?_) rfl (by kernel_rfl) (by kernel_rfl) (by kernel_rfl) (fun _ _ _ h => h) (Or.inl ⟨by rfl, ?_⟩) (by assumption) ?_
              rotate_left
              · intro W hSW; (try dsimp only at hSW); go_simp; (first | done | with_reducible rfl)
              simp only [Act.put, List.getElem_toArray, List.getElem_cons_zero, List.getElem_cons_succ, List.setIfInBounds_toArray, List.set_cons_zero, List.set_cons_succ]
              refine wpAnyH_done (by kernel_rfl) ?_ _
              go_wp2_with fail
              go_meet
              exact ⟨rfl, hS⟩
          · skip
            have al := hS.2.lt
            have al2 := hS.1.size
            try dsimp only [World.drew] at al al2
            go_simp
            refine held_new hK.out ⟨hS.1.alloc _, hS.2.alloc _⟩ ?_
            intro X eX hS2 sp
            clear hS hK
            have hS := hS2
            clear hS2
            try dsimp only [World.drew] at sp
            replace nb := (eX ▸ nb.alloc _ : Own X _ _ _)
            clear eX
            try simp only [Act.put, List.getElem_toArray, List.getElem_cons_zero, List.getElem_cons_succ, List.setIfInBounds_toArray, List.set_cons_zero, List.set_cons_succ]
            refine wpAnyH_ready (rs := [16]) (by kernel_rfl) (by simp) ?_
            refine (AllReadyH.cons rfl (fun K hK => ?_) AllReadyH.nil)
            have nb0 := own_pick nb hk4
            go_simp
            clear nb0 nb
            refine hK.out _ _ (hS) (fun hS2 => ?_)
            clear hS hK
            have hS := hS2
            clear hS2
            try simp only [Act.put, List.getElem_toArray, List.getElem_cons_zero, List.getElem_cons_succ, List.setIfInBounds_toArray, List.set_cons_zero, List.set_cons_succ]
            refine wpAnyH_ready (rs := [17]) (by kernel_rfl) (by simp) ?_
            refine (AllReadyH.cons rfl (fun K hK => ?_) AllReadyH.nil)
            go_simp
            refine (HL.out _).mono ?_
            rintro e w3 ⟨rfl, hn⟩
            replace sp := sp.kept hn
            refine hK.out _ _ (⟨hS.1.trans hn, hS.2.kept hn⟩) (fun hS2 => ?_)
            clear hS hK
            have hS := hS2
            clear hS2
            try simp only [Act.put, List.getElem_toArray, List.getElem_cons_zero, List.getElem_cons_succ, List.setIfInBounds_toArray, List.set_cons_zero, List.set_cons_succ]
            refine wpAnyH_take (i := 18) (v := ?_) rfl (by kernel_rfl) (by kernel_rfl) (by kernel_rfl) (fun _ _ _ h => h) (Or.inl ⟨by rfl, ?_⟩) (by assumption) ?_
            rotate_left
            · intro W hSW; (try dsimp only at hSW); go_simp; (first | done | with_reducible rfl)
            simp only [Act.put, List.getElem_toArray, List.getElem_cons_zero, List.getElem_cons_succ, List.setIfInBounds_toArray, List.set_cons_zero, List.set_cons_succ]
            refine wpAnyH_take (i := 19) (v := ?_) rfl (by kernel_rfl) (by kernel_rfl) (by kernel_rfl) (fun _ _ _ h => h) (Or.inl ⟨by rfl, ?_⟩) (by assumption) ?_
            rotate_left
            · intro W hSW; (try dsimp only at hSW); go_simp; (first | done | with_reducible rfl)
            simp only [Act.put, List.getElem_toArray, List.getElem_cons_zero, List.getElem_cons_succ, List.setIfInBounds_toArray, List.set_cons_zero, List.set_cons_succ]
            refine wpAnyH_take (i := 20) (v := ?_) rfl (by kernel_rfl) (by kernel_rfl) (by kernel_rfl) (fun _ _ _ h => h) (Or.inl ⟨by rfl, ?_⟩) (by assumption) ?_
            rotate_left
            · intro W hSW; (try dsimp only at hSW); go_simp; (first | done | with_reducible rfl)
            simp only [Act.put, List.getElem_toArray, List.getElem_cons_zero, List.getElem_cons_succ, List.setIfInBounds_toArray, List.set_cons_zero, List.set_cons_succ]
            refine wpAnyH_ready (rs := [22]) (by kernel_rfl) (by simp) ?_
            refine (AllReadyH.cons rfl (fun K hK => ?_) AllReadyH.nil)
            have s0 := sp.at 0 _ rfl
            have q0 := sp.free 0
            have s1 := sp.at 1 _ rfl
            have q1 := sp.free 1
            go_simp
            refine held_put2 hK.out hS sp ?_ ?_ ?_
            · omega
            · omega
            clear hS hK sp s0 s1 q0 q1
            intro X hS
            try simp only [Act.put, List.getElem_toArray, List.getElem_cons_zero, List.getElem_cons_succ, List.setIfInBounds_toArray, List.set_cons_zero, List.set_cons_succ]
            refine wpAnyH_take (i := 23) (v := ?_) rfl (by kernel_rfl) (by kernel_rfl) (by kernel_rfl) (fun _ _ _ h => h) (Or.inl ⟨by rfl, ?_⟩) (by assumption) ?_
            rotate_left
            · intro W hSW; (try dsimp only at hSW); go_simp; (first | done | with_reducible rfl)
            simp only [Act.put, List.getElem_toArray, List.getElem_cons_zero, List.getElem_cons_succ, List.setIfInBounds_toArray, List.set_cons_zero, List.set_cons_succ]
            refine wpAnyH_done (by kernel_rfl) ?_ _
            go_wp2_with fail
            go_meet
            exact ⟨rfl, hS⟩
        · skip
          have nb0 := own_pick nb hk4
          go_simp
          clear nb0 nb
          refine hK.out _ _ (hS) (fun hS2 => ?_)
          clear hS hK
          have hS := hS2
          clear hS2
          try simp only [Act.put, List.getElem_toArray, List.getElem_cons_zero, List.getElem_cons_succ, List.setIfInBounds_toArray, List.set_cons_zero, List.set_cons_succ]
          refine wpAnyH_ready (rs := [8, 21]) (by kernel_rfl) (by simp) ?_
          refine (AllReadyH.cons rfl (fun K hK => ?_) (AllReadyH.cons rfl (fun K hK => ?_) AllReadyH.nil))
          · skip
            have na0 := own_pick na hk4
            go_simp
            clear na0 na
            refine hK.out _ _ (hS) (fun hS2 => ?_)
            clear hS hK
            have hS := hS2
            clear hS2
            try simp only [Act.put, List.getElem_toArray, List.getElem_cons_zero, List.getElem_cons_succ, List.setIfInBounds_toArray, List.set_cons_zero, List.set_cons_succ]
            refine wpAnyH_ready (rs := [17, 21]) (by kernel_rfl) (by simp) ?_
            refine (AllReadyH.cons rfl (fun K hK => ?_) (AllReadyH.cons rfl (fun K hK => ?_) AllReadyH.nil))
            · skip
              go_simp
              refine (HL.out _).mono ?_
              rintro e w3 ⟨rfl, hn⟩
              refine hK.out _ _ (⟨hS.1.trans hn, hS.2.kept hn⟩) (fun hS2 => ?_)
              clear hS hK
              have hS := hS2
              clear hS2
              try simp only [Act.put, List.getElem_toArray, List.getElem_cons_zero, List.getElem_cons_succ, List.setIfInBounds_toArray, List.set_cons_zero, List.set_cons_succ]
              refine wpAnyH_take (i := 18) (v := ?_) rfl (by kernel_rfl) (by kernel_rfl) (by kernel_rfl) (fun _ _ _ h => h) (Or.inl ⟨by rfl, ?_⟩) (by assumption) ?_
              rotate_left
              · intro W hSW; (try dsimp only at hSW); go_simp; (first | done | with_reducible rfl)
              simp only [Act.put, List.getElem_toArray, List.getElem_cons_zero, List.getElem_cons_succ, List.setIfInBounds_toArray, List.set_cons_zero, List.set_cons_succ]
              refine wpAnyH_take (i := 19) (v := ?_) rfl (by kernel_rfl) (by kernel_rfl) (by kernel_rfl) (fun _ _ _ h => h) (Or.inl ⟨by rfl, ?_⟩) (by assumption) ?_
              rotate_left
              · intro W hSW; (try dsimp only at hSW); go_simp; (first | done | with_reducible rfl)
              simp only [Act.put, List.getElem_toArray, List.getElem_cons_zero, List.getElem_cons_succ, List.setIfInBounds_toArray, List.set_cons_zero, List.set_cons_succ]
              refine wpAnyH_take (i := 20) (v := ?_) rfl (by kernel_rfl) (by kernel_rfl) (by kernel_rfl) (fun _ _ _ h => h) (Or.inl ⟨by rfl, ?_⟩) (by assumption) ?_
              rotate_left
              · intro W hSW; (try dsimp only at hSW); go_simp; (first | done | with_reducible rfl)
              simp only [Act.put, List.getElem_toArray, List.getElem_cons_zero, List.getElem_cons_succ, List.setIfInBounds_toArray, List.set_cons_zero, List.set_cons_succ]
              refine wpAnyH_ready (rs := [21]) (by kernel_rfl) (by simp) ?_
              refine (AllReadyH.cons rfl (fun K hK => ?_) AllReadyH.nil)
              have al := hS.2.lt
              have al2 := hS.1.size
              try dsimp only [World.drew] at al al2
              go_simp
              refine held_new hK.out ⟨hS.1.alloc _, hS.2.alloc _⟩ ?_
              intro X eX hS2 sp
              clear hS hK
              have hS := hS2
              clear hS2
              try dsimp only [World.drew] at sp
              clear eX
              try simp only [Act.put, List.getElem_toArray, List.getElem_cons_zero, List.getElem_cons_succ, List.setIfInBounds_toArray, List.set_cons_zero, List.set_cons_succ]
              refine wpAnyH_ready (rs := [22]) (by kernel_rfl) (by simp) ?_
              refine (AllReadyH.cons rfl (fun K hK => ?_) AllReadyH.nil)
              have s0 := sp.at 0 _ rfl
              have q0 := sp.free 0
              have s1 := sp.at 1 _ rfl
              have q1 := sp.free 1
              go_simp
              refine held_put2 hK.out hS sp ?_ ?_ ?_
              · omega
              · omega
              clear hS hK sp s0 s1 q0 q1
              intro X hS
              try simp only [Act.put, List.getElem_toArray, List.getElem_cons_zero, List.getElem_cons_succ, List.setIfInBounds_toArray, List.set_cons_zero, List.set_cons_succ]
              refine wpAnyH_take (i := 23) (v := ?_) rfl (by kernel_rfl) (by kernel_rfl) (by kernel_rfl) (fun _ _ _ h => h) (Or.inl ⟨by rfl, ?_⟩) (by assumption) ?_
              rotate_left
              · intro W hSW; (try dsimp only at hSW); go_simp; (first | done | with_reducible rfl)
              simp only [Act.put, List.getElem_toArray, List.getElem_cons_zero, List.getElem_cons_succ, List.setIfInBounds_toArray, List.set_cons_zero, List.set_cons_succ]
              refine wpAnyH_done (by kernel_rfl) ?_ _
              go_wp2_with fail
              go_meet
              exact ⟨rfl, hS⟩
            · skip
              have al := hS.2.lt
              have al2 := hS.1.size
              try dsimp only [World.drew] at al al2
              go_simp
              refine held_new hK.out ⟨hS.1.alloc _, hS.2.alloc _⟩ ?_
              intro X eX hS2 sp
              clear hS hK
              have hS := hS2
              clear hS2
              try dsimp only [World.drew] at sp
              clear eX
              try simp only [Act.put, List.getElem_toArray, List.getElem_cons_zero, List.getElem_cons_succ, List.setIfInBounds_toArray, List.set_cons_zero, List.set_cons_succ]
              refine wpAnyH_ready (rs := [17]) (by kernel_rfl) (by simp) ?_
              refine (AllReadyH.cons rfl (fun K hK => ?_) AllReadyH.nil)
              go_simp
              refine (HL.out _).mono ?_
              rintro e w3 ⟨rfl, hn⟩
              replace sp := sp.kept hn
              refine hK.out _ _ (⟨hS.1.trans hn, hS.2.kept hn⟩) (fun hS2 => ?_)
              clear hS hK
              have hS := hS2
              clear hS2
              try simp only [Act.put, List.getElem_toArray, List.getElem_cons_zero, List.getElem_cons_succ, List.setIfInBounds_toArray, List.set_cons_zero, List.set_cons_succ]
              refine wpAnyH_take (i := 18) (v := ?_) rfl (by kernel_rfl) (by kernel_rfl) (by kernel_rfl) (fun _ _ _ h => h) (Or.inl ⟨by rfl, ?_⟩) (by assumption) ?_
              rotate_left
              · intro W hSW; (try dsimp only at hSW); go_simp; (first | done | with_reducible rfl)
              simp only [Act.put, List.getElem_toArray, List.getElem_cons_zero, List.getElem_cons_succ, List.setIfInBounds_toArray, List.set_cons_zero, List.set_cons_succ]
              refine wpAnyH_take (i := 19) (v := ?_) rfl (by kernel_rfl) (by kernel_rfl) (by kernel_rfl) (fun _ _ _ h => h) (Or.inl ⟨by rfl, ?_⟩) (by assumption) ?_
              rotate_left
              · intro W hSW; (try dsimp only at hSW); go_simp; (first | done | with_reducible rfl)
              simp only [Act.put, List.getElem_toArray, List.getElem_cons_zero, List.getElem_cons_succ, List.setIfInBounds_toArray, List.set_cons_zero, List.set_cons_succ]
              refine wpAnyH_take (i := 20) (v := ?_) rfl (by kernel_rfl) (by kernel_rfl) (by kernel_rfl) (fun _ _ _ h => h) (Or.inl ⟨by rfl, ?_⟩) (by assumption) ?_
              rotate_left
              · intro W hSW; (try dsimp only at hSW); go_simp; (first | done | with_reducible rfl)
              simp only [Act.put, List.getElem_toArray, List.getElem_cons_zero, List.getElem_cons_succ, List.setIfInBounds_toArray, List.set_cons_zero, List.set_cons_succ]
              refine wpAnyH_ready (rs := [22]) (by kernel_rfl) (by simp) ?_
              refine (AllReadyH.cons rfl (fun K hK => ?_) AllReadyH.nil)
              have s0 := sp.at 0 _ rfl
              have q0 := sp.free 0
              have s1 := sp.at 1 _ rfl
              have q1 := sp.free 1
              go_simp
              refine held_put2 hK.out hS sp ?_ ?_ ?_
              · omega
              · omega
              clear hS hK sp s0 s1 q0 q1
              intro X hS
              try simp only [Act.put, List.getElem_toArray, List.getElem_cons_zero, List.getElem_cons_succ, List.setIfInBounds_toArray, List.set_cons_zero, List.set_cons_succ]
              refine wpAnyH_take (i := 23) (v := ?_) rfl (by kernel_rfl) (by kernel_rfl) (by kernel_rfl) (fun _ _ _ h => h) (Or.inl ⟨by rfl, ?_⟩) (by assumption) ?_
              rotate_left
              · intro W hSW; (try dsimp only at hSW); go_simp; (first | done | with_reducible rfl)
              simp only [Act.put, List.getElem_toArray, List.getElem_cons_zero, List.getElem_cons_succ, List.setIfInBounds_toArray, List.set_cons_zero, List.set_cons_succ]
              refine wpAnyH_done (by kernel_rfl) ?_ _
              go_wp2_with fail
              go_meet
              exact ⟨rfl, hS⟩
          · skip
            have al := hS.2.lt
            have al2 := hS.1.size
            try dsimp only [World.drew] at al al2
            go_simp
            refine held_new hK.out ⟨hS.1.alloc _, hS.2.alloc _⟩ ?_
            intro X eX hS2 sp
            clear hS hK
            have hS := hS2
            clear hS2
            try dsimp only [World.drew] at sp
            replace na := (eX ▸ na.alloc _ : Own X _ _ _)
            clear eX
            try simp only [Act.put, List.getElem_toArray, List.getElem_cons_zero, List.getElem_cons_succ, List.setIfInBounds_toArray, List.set_cons_zero, List.set_cons_succ]
            refine wpAnyH_ready (rs := [8]) (by kernel_rfl) (by simp) ?_
            refine (AllReadyH.cons rfl (fun K hK => ?_) AllReadyH.nil)
            have na0 := own_pick na hk4
            go_simp
            clear na0 na
            refine hK.out _ _ (hS) (fun hS2 => ?_)
            clear hS hK
            have hS := hS2
            clear hS2
            try simp only [Act.put, List.getElem_toArray, List.getElem_cons_zero, List.getElem_cons_succ, List.setIfInBounds_toArray, List.set_cons_zero, List.set_cons_succ]
            refine wpAnyH_ready (rs := [17]) (by kernel_rfl) (by simp) ?_
            refine (AllReadyH.cons rfl (fun K hK => ?_) AllReadyH.nil)
            go_simp
            refine (HL.out _).mono ?_
            rintro e w3 ⟨rfl, hn⟩
            replace sp := sp.kept hn
            refine hK.out _ _ (⟨hS.1.trans hn, hS.2.kept hn⟩) (fun hS2 => ?_)
            clear hS hK
            have hS := hS2
            clear hS2
            try simp only [Act.put, List.getElem_toArray, List.getElem_cons_zero, List.getElem_cons_succ, List.setIfInBounds_toArray, List.set_cons_zero, List.set_cons_succ]
            refine wpAnyH_take (i := 18) (v := ?_) rfl (by kernel_rfl) (by kernel_rfl) (by kernel_rfl) (fun _ _ _ h => h) (Or.inl ⟨by rfl, ?_⟩) (by assumption) ?_
            rotate_left
            · intro W hSW; (try dsimp only at hSW); go_simp; (first | done | with_reducible rfl)
            simp only [Act.put, List.getElem_toArray, List.getElem_cons_zero, List.getElem_cons_succ, List.setIfInBounds_toArray, List.set_cons_zero, List.set_cons_succ]
            refine wpAnyH_take (i := 19) (v := ?_) rfl (by kernel_rfl) (by kernel_rfl) (by kernel_rfl) (fun _ _ _ h => h) (Or.inl ⟨by rfl, ?_⟩) (by assumption) ?_
            rotate_left
            · intro W hSW; (try dsimp only at hSW); go_simp; (first | done | with_reducible rfl)
            simp only [Act.put, List.getElem_toArray, List.getElem_cons_zero, List.getElem_cons_succ, List.setIfInBounds_toArray, List.set_cons_zero, List.set_cons_succ]
            refine wpAnyH_take (i := 20) (v := ?_) rfl (by kernel_rfl) (by kernel_rfl) (by kernel_rfl) (fun _ _ _ h => h) (Or.inl ⟨by rfl, ?_⟩) (by assumption) ?_
            rotate_left
            · intro W hSW; (try dsimp only at hSW); go_simp; (first | done | with_reducible rfl)
            simp only [Act.put, List.getElem_toArray, List.getElem_cons_zero, List.getElem_cons_succ, List.setIfInBounds_toArray, List.set_cons_zero, List.set_cons_succ]
            refine wpAnyH_ready (rs := [22]) (by kernel_rfl) (by simp) ?_
            refine (AllReadyH.cons rfl (fun K hK => ?_) AllReadyH.nil)
            have s0 := sp.at 0 _ rfl
            have q0 := sp.free 0
            have s1 := sp.at 1 _ rfl
            have q1 := sp.free 1
            go_simp
            refine held_put2 hK.out hS sp ?_ ?_ ?_
            · omega
            · omega
            clear hS hK sp s0 s1 q0 q1
            intro X hS
            try simp only [Act.put, List.getElem_toArray, List.getElem_cons_zero, List.getElem_cons_succ, List.setIfInBounds_toArray, List.set_cons_zero, List.set_cons_succ]
            refine wpAnyH_take (i := 23) (v := ?_) rfl (by kernel_rfl) (by kernel_rfl) (by kernel_rfl) (fun _ _ _ h => h) (Or.inl ⟨by rfl, ?_⟩) (by assumption) ?_
            rotate_left
            · intro W hSW; (try dsimp only at hSW); go_simp; (first | done | with_reducible rfl)
            simp only [Act.put, List.getElem_toArray, List.getElem_cons_zero, List.getElem_cons_succ, List.setIfInBounds_toArray, List.set_cons_zero, List.set_cons_succ]
            refine wpAnyH_done (by kernel_rfl) ?_ _
            go_wp2_with fail
            go_meet
            exact ⟨rfl, hS⟩
        · skip
          have al := hS.2.lt
          have al2 := hS.1.size
          try dsimp only [World.drew] at al al2
          go_simp
          refine held_new hK.out ⟨hS.1.alloc _, hS.2.alloc _⟩ ?_
          intro X eX hS2 sp
          clear hS hK
          have hS := hS2
          clear hS2
          try dsimp only [World.drew] at sp
          replace na := (eX ▸ na.alloc _ : Own X _ _ _)
          replace nb := (eX ▸ nb.alloc _ : Own X _ _ _)
          clear eX
          try simp only [Act.put, List.getElem_toArray, List.getElem_cons_zero, List.getElem_cons_succ, List.setIfInBounds_toArray, List.set_cons_zero, List.set_cons_succ]
          refine wpAnyH_ready (rs := [8, 16]) (by kernel_rfl) (by simp) ?_
          refine (AllReadyH.cons rfl (fun K hK => ?_) (AllReadyH.cons rfl (fun K hK => ?_) AllReadyH.nil))
          · skip
            have na0 := own_pick na hk4
            go_simp
            clear na0 na
            refine hK.out _ _ (hS) (fun hS2 => ?_)
            clear hS hK
            have hS := hS2
            clear hS2
            try simp only [Act.put, List.getElem_toArray, List.getElem_cons_zero, List.getElem_cons_succ, List.setIfInBounds_toArray, List.set_cons_zero, List.set_cons_succ]
            refine wpAnyH_ready (rs := [16]) (by kernel_rfl) (by simp) ?_
            refine (AllReadyH.cons rfl (fun K hK => ?_) AllReadyH.nil)
            have nb0 := own_pick nb hk4
            go_simp
            clear nb0 nb
            refine hK.out _ _ (hS) (fun hS2 => ?_)
            clear hS hK
            have hS := hS2
            clear hS2
            try simp only [Act.put, List.getElem_toArray, List.getElem_cons_zero, List.getElem_cons_succ, List.setIfInBounds_toArray, List.set_cons_zero, List.set_cons_succ]
            refine wpAnyH_ready (rs := [17]) (by kernel_rfl) (by simp) ?_
            refine (AllReadyH.cons rfl (fun K hK => ?_) AllReadyH.nil)
            go_simp
            refine (HL.out _).mono ?_
            rintro e w3 ⟨rfl, hn⟩
            replace sp := sp.kept hn
            refine hK.out _ _ (⟨hS.1.trans hn, hS.2.kept hn⟩) (fun hS2 => ?_)
            clear hS hK
            have hS := hS2
            clear hS2
            try simp only [Act.put, List.getElem_toArray, List.getElem_cons_zero, List.getElem_cons_succ, List.setIfInBounds_toArray, List.set_cons_zero, List.set_cons_succ]
            refine wpAnyH_take (i := 18) (v := ?_) rfl (by kernel_rfl) (by kernel_rfl) (by kernel_rfl) (fun _ _ _ h => h) (Or.inl ⟨by rfl, ?_⟩) (by assumption) ?_
            rotate_left
            · intro W hSW; (try dsimp only at hSW); go_simp; (first | done | with_reducible rfl)
            simp only [Act.put, List.getElem_toArray, List.getElem_cons_zero, List.getElem_cons_succ, List.setIfInBounds_toArray, List.set_cons_zero, List.set_cons_succ]
            refine wpAnyH_take (i := 19) (v := ?_) rfl (by kernel_rfl) (by kernel_rfl) (by kernel_rfl) (fun _ _ _ h => h) (Or.inl ⟨by rfl, ?_⟩) (by assumption) ?_
            rotate_left
            · intro W hSW; (try dsimp only at hSW); go_simp; (first | done | with_reducible rfl)
            simp only [Act.put, List.getElem_toArray, List.getElem_cons_zero, List.getElem_cons_succ, List.setIfInBounds_toArray, List.set_cons_zero, List.set_cons_succ]
            refine wpAnyH_take (i := 20) (v := ?_) rfl (by kernel_rfl) (by kernel_rfl) (by kernel_rfl) (fun _ _ _ h => h) (Or.inl ⟨by rfl, ?_⟩) (by assumption) ?_
            rotate_left
            · intro W hSW; (try dsimp only at hSW); go_simp; (first | done | with_reducible rfl)
            simp only [Act.put, List.getElem_toArray, List.getElem_cons_zero, List.getElem_cons_succ, List.setIfInBounds_toArray, List.set_cons_zero, List.set_cons_succ]
            refine wpAnyH_ready (rs := [22]) (by kernel_rfl) (by simp) ?_
            refine (AllReadyH.cons rfl (fun K hK => ?_) AllReadyH.nil)
            have s0 := sp.at 0 _ rfl
            have q0 := sp.free 0
            have s1 := sp.at 1 _ rfl
            have q1 := sp.free 1
            go_simp
            refine held_put2 hK.out hS sp ?_ ?_ ?_
            · omega
            · omega
            clear hS hK sp s0 s1 q0 q1
            intro X hS
            try simp only [Act.put, List.getElem_toArray, List.getElem_cons_zero, List.getElem_cons_succ, List.setIfInBounds_toArray, List.set_cons_zero, List.set_cons_succ]
            refine wpAnyH_take (i := 23) (v := ?_) rfl (by kernel_rfl) (by kernel_rfl) (by kernel_rfl) (fun _ _ _ h => h) (Or.inl ⟨by rfl, ?_⟩) (by assumption) ?_
            rotate_left
            · intro W hSW; (try dsimp only at hSW); go_simp; (first | done | with_reducible rfl)
            simp only [Act.put, List.getElem_toArray, List.getElem_cons_zero, List.getElem_cons_succ, List.setIfInBounds_toArray, List.set_cons_zero, List.set_cons_succ]
            refine wpAnyH_done (by kernel_rfl) ?_ _
            go_wp2_with fail
            go_meet
            exact ⟨rfl, hS⟩
          · skip
            have nb0 := own_pick nb hk4
            go_simp
            clear nb0 nb
            refine hK.out _ _ (hS) (fun hS2 => ?_)
            clear hS hK
            have hS := hS2
            clear hS2
            try simp only [Act.put, List.getElem_toArray, List.getElem_cons_zero, List.getElem_cons_succ, List.setIfInBounds_toArray, List.set_cons_zero, List.set_cons_succ]
            refine wpAnyH_ready (rs := [8]) (by kernel_rfl) (by simp) ?_
            refine (AllReadyH.cons rfl (fun K hK => ?_) AllReadyH.nil)
            have na0 := own_pick na hk4
            go_simp
            clear na0 na
            refine hK.out _ _ (hS) (fun hS2 => ?_)
            clear hS hK
            have hS := hS2
            clear hS2
            try simp only [Act.put, List.getElem_toArray, List.getElem_cons_zero, List.getElem_cons_succ, List.setIfInBounds_toArray, List.set_cons_zero, List.set_cons_succ]
            refine wpAnyH_ready (rs := [17]) (by kernel_rfl) (by simp) ?_
            refine (AllReadyH.cons rfl (fun K hK => ?_) AllReadyH.nil)
            go_simp
            refine (HL.out _).mono ?_
            rintro e w3 ⟨rfl, hn⟩
            replace sp := sp.kept hn
            refine hK.out _ _ (⟨hS.1.trans hn, hS.2.kept hn⟩) (fun hS2 => ?_)
            clear hS hK
            have hS := hS2
            clear hS2
            try simp only [Act.put, List.getElem_toArray, List.getElem_cons_zero, List.getElem_cons_succ, List.setIfInBounds_toArray, List.set_cons_zero, List.set_cons_succ]
            refine wpAnyH_take (i := 18) (v := ?_) rfl (by kernel_rfl) (by kernel_rfl) (by kernel_rfl) (fun _ _ _ h => h) (Or.inl ⟨by rfl, ?_⟩) (by assumption) ?_
            rotate_left
            · intro W hSW; (try dsimp only at hSW); go_simp; (first | done | with_reducible rfl)
            simp only [Act.put, List.getElem_toArray, List.getElem_cons_zero, List.getElem_cons_succ, List.setIfInBounds_toArray, List.set_cons_zero, List.set_cons_succ]
            refine wpAnyH_take (i := 19) (v := ?_) rfl (by kernel_rfl) (by kernel_rfl) (by kernel_rfl) (fun _ _ _ h => h) (Or.inl ⟨by rfl, ?_⟩) (by assumption) ?_
            rotate_left
            · intro W hSW; (try dsimp only at hSW); go_simp; (first | done | with_reducible rfl)
            simp only [Act.put, List.getElem_toArray, List.getElem_cons_zero, List.getElem_cons_succ, List.setIfInBounds_toArray, List.set_cons_zero, List.set_cons_succ]
            refine wpAnyH_take (i := 20) (v := ?_) rfl (by kernel_rfl) (by kernel_rfl) (by kernel_rfl) (fun _ _ _ h => h) (Or.inl ⟨by rfl, ?_⟩) (by assumption) ?_
            rotate_left
            · intro W hSW; (try dsimp only at hSW); go_simp; (first | done | with_reducible rfl)
            simp only [Act.put, List.getElem_toArray, List.getElem_cons_zero, List.getElem_cons_succ, List.setIfInBounds_toArray, List.set_cons_zero, List.set_cons_succ]
            refine wpAnyH_ready (rs := [22]) (by kernel_rfl) (by simp) ?_
            refine (AllReadyH.cons rfl (fun K hK => ?_) AllReadyH.nil)
            have s0 := sp.at 0 _ rfl
            have q0 := sp.free 0
            have s1 := sp.at 1 _ rfl
            have q1 := sp.free 1
            go_simp
            refine held_put2 hK.out hS sp ?_ ?_ ?_
            · omega
            · omega
            clear hS hK sp s0 s1 q0 q1
            intro X hS
            try simp only [Act.put, List.getElem_toArray, List.getElem_cons_zero, List.getElem_cons_succ, List.setIfInBounds_toArray, List.set_cons_zero, List.set_cons_succ]
            refine wpAnyH_take (i := 23) (v := ?_) rfl (by kernel_rfl) (by kernel_rfl) (by kernel_rfl) (fun _ _ _ h => h) (Or.inl ⟨by rfl, ?_⟩) (by assumption) ?_
            rotate_left
            · intro W hSW; (try dsimp only at hSW); go_simp; (first | done | with_reducible rfl)
            simp only [Act.put, List.getElem_toArray, List.getElem_cons_zero, List.getElem_cons_succ, List.setIfInBounds_toArray, List.set_cons_zero, List.set_cons_succ]
            refine wpAnyH_done (by kernel_rfl) ?_ _
            go_wp2_with fail
            go_meet
            exact ⟨rfl, hS⟩
      · skip
        have nb0 := own_pick nb hk4
        go_simp
        clear nb0 nb
        refine hK.out _ _ (hS) (fun hS2 => ?_)
        clear hS hK
        have hS := hS2
        clear hS2
        try simp only [Act.put, List.getElem_toArray, List.getElem_cons_zero, List.getElem_cons_succ, List.setIfInBounds_toArray, List.set_cons_zero, List.set_cons_succ]
        refine wpAnyH_ready (rs := [4, 21]) (by kernel_rfl) (by simp) ?_
        refine (AllReadyH.cons rfl (fun K hK => ?_) (AllReadyH.cons rfl (fun K hK => ?_) AllReadyH.nil))
        · skip
          have al := hS.2.lt
          have al2 := hS.1.size
          try dsimp only [World.drew] at al al2
          go_simp
          refine held_new hK.out ⟨hS.1.alloc _, hS.2.alloc _⟩ ?_
          intro X eX hS2 na
          clear hS hK
          have hS := hS2
          clear hS2
          try dsimp only [World.drew] at na
          clear eX
          try simp only [Act.put, List.getElem_toArray, List.getElem_cons_zero, List.getElem_cons_succ, List.setIfInBounds_toArray, List.set_cons_zero, List.set_cons_succ]
          refine wpAnyH_take (i := 7) (v := ?_) rfl (by kernel_rfl) (by kernel_rfl) (by kernel_rfl) (fun _ _ _ h => h) (Or.inl ⟨by rfl, ?_⟩) (by assumption) ?_
          rotate_left
          · intro W hSW; (try dsimp only at hSW); go_simp; (first | done | with_reducible rfl)
          simp only [Act.put, List.getElem_toArray, List.getElem_cons_zero, List.getElem_cons_succ, List.setIfInBounds_toArray, List.set_cons_zero, List.set_cons_succ]
          refine wpAnyH_ready (rs := [8, 21]) (by kernel_rfl) (by simp) ?_
          refine (AllReadyH.cons rfl (fun K hK => ?_) (AllReadyH.cons rfl (fun K hK => ?_) AllReadyH.nil))
          · skip
            have na0 := own_pick na hk4
            go_simp
            clear na0 na
            refine hK.out _ _ (hS) (fun hS2 => ?_)
            clear hS hK
            have hS := hS2
            clear hS2
            try simp only [Act.put, List.getElem_toArray, List.getElem_cons_zero, List.getElem_cons_succ, List.setIfInBounds_toArray, List.set_cons_zero, List.set_cons_succ]
            refine wpAnyH_ready (rs := [17, 21]) (by kernel_rfl) (by simp) ?_
            refine (AllReadyH.cons rfl (fun K hK => ?_) (AllReadyH.cons rfl (fun K hK => ?_) AllReadyH.nil))
            · skip
              go_simp
              refine (HL.out _).mono ?_
              rintro e w3 ⟨rfl, hn⟩
              refine hK.out _ _ (⟨hS.1.trans hn, hS.2.kept hn⟩) (fun hS2 => ?_)
              clear hS hK
              have hS := hS2
              clear hS2
              try simp only [Act.put, List.getElem_toArray, List.getElem_cons_zero, List.getElem_cons_succ, List.setIfInBounds_toArray, List.set_cons_zero, List.set_cons_succ]
              refine wpAnyH_take (i := 18) (v := ?_) rfl (by kernel_rfl) (by kernel_rfl) (by kernel_rfl) (fun _ _ _ h => h) (Or.inl ⟨by rfl, ?_⟩) (by assumption) ?_
              rotate_left
              · intro W hSW; (try dsimp only at hSW); go_simp; (first | done | with_reducible rfl)
              simp only [Act.put, List.getElem_toArray, List.getElem_cons_zero, List.getElem_cons_succ, List.setIfInBounds_toArray, List.set_cons_zero, List.set_cons_succ]
              refine wpAnyH_take (i := 19) (v := ?_) rfl (by kernel_rfl) (by kernel_rfl) (by kernel_rfl) (fun _ _ _ h => h) (Or.inl ⟨by rfl, ?_⟩) (by assumption) ?_
              rotate_left
              · intro W hSW; (try dsimp only at hSW); go_simp; (first | done | with_reducible rfl)
              simp only [Act.put, List.getElem_toArray, List.getElem_cons_zero, List.getElem_cons_succ, List.setIfInBounds_toArray, List.set_cons_zero, List.set_cons_succ]
              refine wpAnyH_take (i := 20) (v := ?_) rfl (by kernel_rfl) (by kernel_rfl) (by kernel_rfl) (fun _ _ _ h => h) (Or.inl ⟨by rfl, ?_⟩) (by assumption) ?_
              rotate_left
              · intro W hSW; (try dsimp only at hSW); go_simp; (first | done | with_reducible rfl)
              simp only [Act.put, List.getElem_toArray, List.getElem_cons_zero, List.getElem_cons_succ, List.setIfInBounds_toArray, List.set_cons_zero, List.set_cons_succ]
              refine wpAnyH_ready (rs := [21]) (by kernel_rfl) (by simp) ?_
              refine (AllReadyH.cons rfl (fun K hK => ?_) AllReadyH.nil)
              have al := hS.2.lt
              have al2 := hS.1.size
              try dsimp only [World.drew] at al al2
              go_simp
              refine held_new hK.out ⟨hS.1.alloc _, hS.2.alloc _⟩ ?_
              intro X eX hS2 sp
              clear hS hK
              have hS := hS2
              clear hS2
              try dsimp only [World.drew] at sp
              clear eX
              try simp only [Act.put, List.getElem_toArray, List.getElem_cons_zero, List.getElem_cons_succ, List.setIfInBounds_toArray, List.set_cons_zero, List.set_cons_succ]
              refine wpAnyH_ready (rs := [22]) (by kernel_rfl) (by simp) ?_
              refine (AllReadyH.cons rfl (fun K hK => ?_) AllReadyH.nil)
              have s0 := sp.at 0 _ rfl
              have q0 := sp.free 0
              have s1 := sp.at 1 _ rfl
              have q1 := sp.free 1
              go_simp
              refine held_put2 hK.out hS sp ?_ ?_ ?_
              · omega
              · omega
              clear hS hK sp s0 s1 q0 q1
              intro X hS
              try simp only [Act.put, List.getElem_toArray, List.getElem_cons_zero, List.getElem_cons_succ, List.setIfInBounds_toArray, List.set_cons_zero, List.set_cons_succ]
              refine wpAnyH_take (i := 23) (v := ?_) rfl (by kernel_rfl) (by kernel_rfl) (by kernel_rfl) (fun _ _ _ h => h) (Or.inl ⟨by rfl, ?_⟩) (by assumption) ?_
              rotate_left
              · intro W hSW; (try dsimp only at hSW); go_simp; (first | done | with_reducible rfl)
              simp only [Act.put, List.getElem_toArray, List.getElem_cons_zero, List.getElem_cons_succ, List.setIfInBounds_toArray, List.set_cons_zero, List.set_cons_succ]
              refine wpAnyH_done (by kernel_rfl) ?_ _
              go_wp2_with fail
              go_meet
              exact ⟨rfl, hS⟩
            · skip
              have al := hS.2.lt
              have al2 := hS.1.size
              try dsimp only [World.drew] at al al2
              go_simp
              refine held_new hK.out ⟨hS.1.alloc _, hS.2.alloc _⟩ ?_
              intro X eX hS2 sp
              clear hS hK
              have hS := hS2
              clear hS2
              try dsimp only [World.drew] at sp
              clear eX
              try simp only [Act.put, List.getElem_toArray, List.getElem_cons_zero, List.getElem_cons_succ, List.setIfInBounds_toArray, List.set_cons_zero, List.set_cons_succ]
              refine wpAnyH_ready (rs := [17]) (by kernel_rfl) (by simp) ?_
              refine (AllReadyH.cons rfl (fun K hK => ?_) AllReadyH.nil)
              go_simp
              refine (HL.out _).mono ?_
              rintro e w3 ⟨rfl, hn⟩
              replace sp := sp.kept hn
              refine hK.out _ _ (⟨hS.1.trans hn, hS.2.kept hn⟩) (fun hS2 => ?_)
              clear hS hK
              have hS := hS2
              clear hS2
              try simp only [Act.put, List.getElem_toArray, List.getElem_cons_zero, List.getElem_cons_succ, List.setIfInBounds_toArray, List.set_cons_zero, List.set_cons_succ]
              refine wpAnyH_take (i := 18) (v := ?_) rfl (by kernel_rfl) (by kernel_rfl) (by kernel_rfl) (fun _ _ _ h => h) (Or.inl ⟨by rfl, ?_⟩) (by assumption) ?_
              rotate_left
              · intro W hSW; (try dsimp only at hSW); go_simp; (first | done | with_reducible rfl)
              simp only [Act.put, List.getElem_toArray, List.getElem_cons_zero, List.getElem_cons_succ, List.setIfInBounds_toArray, List.set_cons_zero, List.set_cons_succ]
              refine wpAnyH_take (i := 19) (v := ?_) rfl (by kernel_rfl) (by kernel_rfl) (by kernel_rfl) (fun _ _ _ h => h) (Or.inl ⟨by rfl, ?_⟩) (by assumption) ?_
              rotate_left
              · intro W hSW; (try dsimp only at hSW); go_simp; (first | done | with_reducible rfl)
              simp only [Act.put, List.getElem_toArray, List.getElem_cons_zero, List.getElem_cons_succ, List.setIfInBounds_toArray, List.set_cons_zero, List.set_cons_succ]
              refine wpAnyH_take (i := 20) (v := ?_) rfl (by kernel_rfl) (by kernel_rfl) (by kernel_rfl) (fun _ _ _ h => h) (Or.inl ⟨by rfl, ?_⟩) (by assumption) ?_
              rotate_left
              · intro W hSW; (try dsimp only at hSW); go_simp; (first | done | with_reducible rfl)
              simp only [Act.put, List.getElem_toArray, List.getElem_cons_zero, List.getElem_cons_succ, List.setIfInBounds_toArray, List.set_cons_zero, List.set_cons_succ]
              refine wpAnyH_ready (rs := [22]) (by kernel_rfl) (by simp) ?_
              refine (AllReadyH.cons rfl (fun K hK => ?_) AllReadyH.nil)
              have s0 := sp.at 0 _ rfl
              have q0 := sp.free 0
              have s1 := sp.at 1 _ rfl
              have q1 := sp.free 1
              go_simp
              refine held_put2 hK.out hS sp ?_ ?_ ?_
              · omega
              · omega
              clear hS hK sp s0 s1 q0 q1
              intro X hS
              try simp only [Act.put, List.getElem_toArray, List.getElem_cons_zero, List.getElem_cons_succ, List.setIfInBounds_toArray, List.set_cons_zero, List.set_cons_succ]
              refine wpAnyH_take (i := 23) (v := ?_) rfl (by kernel_rfl) (by kernel_rfl) (by kernel_rfl) (fun _ _ _ h => h) (Or.inl ⟨by rfl, ?_⟩) (by assumption) ?_
              rotate_left
              · intro W hSW; (try dsimp only at hSW); go_simp; (first | done | with_reducible rfl)
              simp only [Act.put, List.getElem_toArray, List.getElem_cons_zero, List.getElem_cons_succ, List.setIfInBounds_toArray, List.set_cons_zero, List.set_cons_succ]
              refine wpAnyH_done (by kernel_rfl) ?_ _
              go_wp2_with fail
              go_meet
              exact ⟨rfl, hS⟩
          · skip
            have al := hS.2.lt
            have al2 := hS.1.size
            try dsimp only [World.drew] at al al2
            go_simp
            refine held_new hK.out ⟨hS.1.alloc _, hS.2.alloc _⟩ ?_
            intro X eX hS2 sp
            clear hS hK
            have hS := hS2
            clear hS2
            try dsimp only [World.drew] at sp
            replace na := (eX ▸ na.alloc _ : Own X _ _ _)
            clear eX
            try simp only [Act.put, List.getElem_toArray, List.getElem_cons_zero, List.getElem_cons_succ, List.setIfInBounds_toArray, List.set_cons_zero, List.set_cons_succ]
            refine wpAnyH_ready (rs := [8]) (by kernel_rfl) (by simp) ?_
            refine (AllReadyH.cons rfl (fun K hK => ?_) AllReadyH.nil)
            have na0 := own_pick na hk4
            go_simp
            clear na0 na
            refine hK.out _ _ (hS) (fun hS2 => ?_)
            clear hS hK
            have hS := hS2
            clear hS2
            try simp only [Act.put, List.getElem_toArray, List.getElem_cons_zero, List.getElem_cons_succ, List.setIfInBounds_toArray, List.set_cons_zero, List.set_cons_succ]
            refine wpAnyH_ready (rs := [17]) (by kernel_rfl) (by simp) ?_
            refine (AllReadyH.cons rfl (fun K hK => ?_) AllReadyH.nil)
            go_simp
            refine (HL.out _).mono ?_
            rintro e w3 ⟨rfl, hn⟩
            replace sp := sp.kept hn
            refine hK.out _ _ (⟨hS.1.trans hn, hS.2.kept hn⟩) (fun hS2 => ?_)
            clear hS hK
            have hS := hS2
            clear hS2
            try simp only [Act.put, List.getElem_toArray, List.getElem_cons_zero, List.getElem_cons_succ, List.setIfInBounds_toArray, List.set_cons_zero, List.set_cons_succ]
            refine wpAnyH_take (i := 18) (v := ?_) rfl (by kernel_rfl) (by kernel_rfl) (by kernel_rfl) (fun _ _ _ h => h) (Or.inl ⟨by rfl, ?_⟩) (by assumption) ?_
            rotate_left
            · intro W hSW; (try dsimp only at hSW); go_simp; (first | done | with_reducible rfl)
            simp only [Act.put, List.getElem_toArray, List.getElem_cons_zero, List.getElem_cons_succ, List.setIfInBounds_toArray, List.set_cons_zero, List.set_cons_succ]
            refine wpAnyH_take (i := 19) (v := ?_) rfl (by kernel_rfl) (by kernel_rfl) (by kernel_rfl) (fun _ _ _ h => h) (Or.inl ⟨by rfl, ?_⟩) (by assumption) ?_
            rotate_left
            · intro W hSW; (try dsimp only at hSW); go_simp; (first | done | with_reducible rfl)
            simp only [Act.put, List.getElem_toArray, List.getElem_cons_zero, List.getElem_cons_succ, List.setIfInBounds_toArray, List.set_cons_zero, List.set_cons_succ]
            refine wpAnyH_take (i := 20) (v := ?_) rfl (by kernel_rfl) (by kernel_rfl) (by kernel_rfl) (fun _ _ _ h => h) (Or.inl ⟨by rfl, ?_⟩) (by assumption) ?_
            rotate_left
            · intro W hSW; (try dsimp only at hSW); go_simp; (first | done | with_reducible rfl)
            simp only [Act.put, List.getElem_toArray, List.getElem_cons_zero, List.getElem_cons_succ, List.setIfInBounds_toArray, List.set_cons_zero, List.set_cons_succ]
            refine wpAnyH_ready (rs := [22]) (by kernel_rfl) (by simp) ?_
            refine (AllReadyH.cons rfl (fun K hK => ?_) AllReadyH.nil)
            have s0 := sp.at 0 _ rfl
            have q0 := sp.free 0
            have s1 := sp.at 1 _ rfl
            have q1 := sp.free 1
            go_simp
            refine held_put2 hK.out hS sp ?_ ?_ ?_
            · omega
            · omega
            clear hS hK sp s0 s1 q0 q1
            intro X hS
            try simp only [Act.put, List.getElem_toArray, List.getElem_cons_zero, List.getElem_cons_succ, List.setIfInBounds_toArray, List.set_cons_zero, List.set_cons_succ]
            refine wpAnyH_take (i := 23) (v := ?_) rfl (by kernel_rfl) (by kernel_rfl) (by kernel_rfl) (fun _ _ _ h => h) (Or.inl ⟨by rfl, ?_⟩) (by assumption) ?_
            rotate_left
            · intro W hSW; (try dsimp only at hSW); go_simp; (first | done | with_reducible rfl)
            simp only [Act.put, List.getElem_toArray, List.getElem_cons_zero, List.getElem_cons_succ, List.setIfInBounds_toArray, List.set_cons_zero, List.set_cons_succ]
            refine wpAnyH_done (by kernel_rfl) ?_ _
            go_wp2_with fail
            go_meet
            exact ⟨rfl, hS⟩
        · skip
          have al := hS.2.lt
          have al2 := hS.1.size
          try dsimp only [World.drew] at al al2
          go_simp
          refine held_new hK.out ⟨hS.1.alloc _, hS.2.alloc _⟩ ?_
          intro X eX hS2 sp
          clear hS hK
          have hS := hS2
          clear hS2
          try dsimp only [World.drew] at sp
          clear eX
          try simp only [Act.put, List.getElem_toArray, List.getElem_cons_zero, List.getElem_cons_succ, List.setIfInBounds_toArray, List.set_cons_zero, List.set_cons_succ]
          refine wpAnyH_ready (rs := [4]) (by kernel_rfl) (by simp) ?_
          refine (AllReadyH.cons rfl (fun K hK => ?_) AllReadyH.nil)
          have al := hS.2.lt
          have al2 := hS.1.size
          try dsimp only [World.drew] at al al2
          go_simp
          refine held_new hK.out ⟨hS.1.alloc _, hS.2.alloc _⟩ ?_
          intro X eX hS2 na
          clear hS hK
          have hS := hS2
          clear hS2
          try dsimp only [World.drew] at na
          replace sp := (eX ▸ sp.alloc _ : Own X _ _ _)
          clear eX
          try simp only [Act.put, List.getElem_toArray, List.getElem_cons_zero, List.getElem_cons_succ, List.setIfInBounds_toArray, List.set_cons_zero, List.set_cons_succ]
          refine wpAnyH_take (i := 7) (v := ?_) rfl (by kernel_rfl) (by kernel_rfl) (by kernel_rfl) (fun _ _ _ h => h) (Or.inl ⟨by rfl, ?_⟩) (by assumption) ?_
          rotate_left
          · intro W hSW; (try dsimp only at hSW); go_simp; (first | done | with_reducible rfl)
          simp only [Act.put, List.getElem_toArray, List.getElem_cons_zero, List.getElem_cons_succ, List.setIfInBounds_toArray, List.set_cons_zero, List.set_cons_succ]
          refine wpAnyH_ready (rs := [8]) (by kernel_rfl) (by simp) ?_
          refine (AllReadyH.cons rfl (fun K hK => ?_) AllReadyH.nil)
          have na0 := own_pick na hk4
          go_simp
          clear na0 na
          refine hK.out _ _ (hS) (fun hS2 => ?_)
          clear hS hK
          have hS := hS2
          clear hS2
          try simp only [Act.put, List.getElem_toArray, List.getElem_cons_zero, List.getElem_cons_succ, List.setIfInBounds_toArray, List.set_cons_zero, List.set_cons_succ]
          refine wpAnyH_ready (rs := [17]) (by kernel_rfl) (by simp) ?_
          refine (AllReadyH.cons rfl (fun K hK => ?_) AllReadyH.nil)
          go_simp
          refine (HL.out _).mono ?_
          rintro e w3 ⟨rfl, hn⟩
          replace sp := sp.kept hn
          refine hK.out _ _ (⟨hS.1.trans hn, hS.2.kept hn⟩) (fun hS2 => ?_)
          clear hS hK
          have hS := hS2
          clear hS2
          try simp only [Act.put, List.getElem_toArray, List.getElem_cons_zero, List.getElem_cons_succ, List.setIfInBounds_toArray, List.set_cons_zero, List.set_cons_succ]
          refine wpAnyH_take (i := 18) (v := ?_) rfl (by kernel_rfl) (by kernel_rfl) (by kernel_rfl) (fun _ _ _ h => h) (Or.inl ⟨by rfl, ?_⟩) (by assumption) ?_
          rotate_left
          · intro W hSW; (try dsimp only at hSW); go_simp; (first | done | with_reducible rfl)
          simp only [Act.put, List.getElem_toArray, List.getElem_cons_zero, List.getElem_cons_succ, List.setIfInBounds_toArray, List.set_cons_zero, List.set_cons_succ]
          refine wpAnyH_take (i := 19) (v := ?_) rfl (by kernel_rfl) (by kernel_rfl) (by kernel_rfl) (fun _ _ _ h => h) (Or.inl ⟨by rfl, ?_⟩) (by assumption) ?_
          rotate_left
          · intro W hSW; (try dsimp only at hSW); go_simp; (first | done | with_reducible rfl)
          simp only [Act.put, List.getElem_toArray, List.getElem_cons_zero, List.getElem_cons_succ, List.setIfInBounds_toArray, List.set_cons_zero, List.set_cons_succ]
          refine wpAnyH_take (i := 20) (v := ?_) rfl (by kernel_rfl) (by kernel_rfl) (by kernel_rfl) (fun _ _ _ h => h) (Or.inl ⟨by rfl, ?_⟩) (by assumption) ?_
          rotate_left
          · intro W hSW; (try dsimp only at hSW); go_simp; (first | done | with_reducible rfl)
          simp only [Act.put, List.getElem_toArray, List.getElem_cons_zero, List.getElem_cons_succ, List.setIfInBounds_toArray, List.set_cons_zero, List.set_cons_succ]
          refine wpAnyH_ready (rs := [22]) (by kernel_rfl) (by simp) ?_
          refine (AllReadyH.cons rfl (fun K hK => ?_) AllReadyH.nil)
          have s0 := sp.at 0 _ rfl
          have q0 := sp.free 0
          have s1 := sp.at 1 _ rfl
          have q1 := sp.free 1
          go_simp
          refine held_put2 hK.out hS sp ?_ ?_ ?_
          · omega
          · omega
          clear hS hK sp s0 s1 q0 q1
          intro X hS
          try simp only [Act.put, List.getElem_toArray, List.getElem_cons_zero, List.getElem_cons_succ, List.setIfInBounds_toArray, List.set_cons_zero, List.set_cons_succ]
          refine wpAnyH_take (i := 23) (v := ?_) rfl (by kernel_rfl) (by kernel_rfl) (by kernel_rfl) (fun _ _ _ h => h) (Or.inl ⟨by rfl, ?_⟩) (by assumption) ?_
          rotate_left
          · intro W hSW; (try dsimp only at hSW); go_simp; (first | done | with_reducible rfl)
          simp only [Act.put, List.getElem_toArray, List.getElem_cons_zero, List.getElem_cons_succ, List.setIfInBounds_toArray, List.set_cons_zero, List.set_cons_succ]
          refine wpAnyH_done (by kernel_rfl) ?_ _
          go_wp2_with fail
          go_meet
          exact ⟨rfl, hS⟩
      · skip
        have al := hS.2.lt
        have al2 := hS.1.size
        try dsimp only [World.drew] at al al2
        go_simp
        refine held_new hK.out ⟨hS.1.alloc _, hS.2.alloc _⟩ ?_
        intro X eX hS2 sp
        clear hS hK
        have hS := hS2
        clear hS2
        try dsimp only [World.drew] at sp
        replace nb := (eX ▸ nb.alloc _ : Own X _ _ _)
        clear eX
        try simp only [Act.put, List.getElem_toArray, List.getElem_cons_zero, List.getElem_cons_succ, List.setIfInBounds_toArray, List.set_cons_zero, List.set_cons_succ]
        refine wpAnyH_ready (rs := [4, 16]) (by kernel_rfl) (by simp) ?_
        refine (AllReadyH.cons rfl (fun K hK => ?_) (AllReadyH.cons rfl (fun K hK => ?_) AllReadyH.nil))
        · skip
          have al := hS.2.lt
          have al2 := hS.1.size
          try dsimp only [World.drew] at al al2
          go_simp
          refine held_new hK.out ⟨hS.1.alloc _, hS.2.alloc _⟩ ?_
          intro X eX hS2 na
          clear hS hK
          have hS := hS2
          clear hS2
          try dsimp only [World.drew] at na
          replace nb := (eX ▸ nb.alloc _ : Own X _ _ _)
          replace sp := (eX ▸ sp.alloc _ : Own X _ _ _)
          clear eX
          try simp only [Act.put, List.getElem_toArray, List.getElem_cons_zero, List.getElem_cons_succ, List.setIfInBounds_toArray, List.set_cons_zero, List.set_cons_succ]
          refine wpAnyH_take (i := 7) (v := ?_) rfl (by kernel_rfl) (by kernel_rfl) (by kernel_rfl) (fun _ _ _ h => h) (Or.inl ⟨by rfl, ?_⟩) (by assumption) ?_
          rotate_left
          · intro W hSW; (try dsimp only at hSW); go_simp; (first | done | with_reducible rfl)
          simp only [Act.put, List.getElem_toArray, List.getElem_cons_zero, List.getElem_cons_succ, List.setIfInBounds_toArray, List.set_cons_zero, List.set_cons_succ]
          refine wpAnyH_ready (rs := [8, 16]) (by kernel_rfl) (by simp) ?_
          refine (AllReadyH.cons rfl (fun K hK => ?_) (AllReadyH.cons rfl (fun K hK => ?_) AllReadyH.nil))
          · skip
            have na0 := own_pick na hk4
            go_simp
            clear na0 na
            refine hK.out _ _ (hS) (fun hS2 => ?_)
            clear hS hK
            have hS := hS2
            clear hS2
            try simp only [Act.put, List.getElem_toArray, List.getElem_cons_zero, List.getElem_cons_succ, List.setIfInBounds_toArray, List.set_cons_zero, List.set_cons_succ]
            refine wpAnyH_ready (rs := [16]) (by kernel_rfl) (by simp) ?_
            refine (AllReadyH.cons rfl (fun K hK => ?_) AllReadyH.nil)
            have nb0 := own_pick nb hk4
            go_simp
            clear nb0 nb
            refine hK.out _ _ (hS) (fun hS2 => ?_)
            clear hS hK
            have hS := hS2
            clear hS2
            try simp only [Act.put, List.getElem_toArray, List.getElem_cons_zero, List.getElem_cons_succ, List.setIfInBounds_toArray, List.set_cons_zero, List.set_cons_succ]
            refine wpAnyH_ready (rs := [17]) (by kernel_rfl) (by simp) ?_
            refine (AllReadyH.cons rfl (fun K hK => ?_) AllReadyH.nil)
            go_simp
            refine (HL.out _).mono ?_
            rintro e w3 ⟨rfl, hn⟩
            replace sp := sp.kept hn
            refine hK.out _ _ (⟨hS.1.trans hn, hS.2.kept hn⟩) (fun hS2 => ?_)
            clear hS hK
            have hS := hS2
            clear hS2
            try simp only [Act.put, List.getElem_toArray, List.getElem_cons_zero, List.getElem_cons_succ, List.setIfInBounds_toArray, List.set_cons_zero, List.set_cons_succ]
            refine wpAnyH_take (i := 18) (v := ?_) rfl (by kernel_rfl) (by kernel_rfl) (by kernel_rfl) (fun _ _ _ h => h) (Or.inl ⟨by rfl, ?_⟩) (by assumption) ?_
            rotate_left
            · intro W hSW; (try dsimp only at hSW); go_simp; (first | done | with_reducible rfl)
            simp only [Act.put, List.getElem_toArray, List.getElem_cons_zero, List.getElem_cons_succ, List.setIfInBounds_toArray, List.set_cons_zero, List.set_cons_succ]
            refine wpAnyH_take (i := 19) (v := ?_) rfl (by kernel_rfl) (by kernel_rfl) (by kernel_rfl) (fun _ _ _ h => h) (Or.inl ⟨by rfl, ?_⟩) (by assumption) ?_
            rotate_left
            · intro W hSW; (try dsimp only at hSW); go_simp; (first | done | with_reducible rfl)
            simp only [Act.put, List.getElem_toArray, List.getElem_cons_zero, List.getElem_cons_succ, List.setIfInBounds_toArray, List.set_cons_zero, List.set_cons_succ]
            refine wpAnyH_take (i := 20) (v := ?_) rfl (by kernel_rfl) (by kernel_rfl) (by kernel_rfl) (fun _ _ _ h => h) (Or.inl ⟨by rfl, ?_⟩) (by assumption) ?_
            rotate_left
            · intro W hSW; (try dsimp only at hSW); go_simp; (first | done | with_reducible rfl)
            simp only [Act.put, List.getElem_toArray, List.getElem_cons_zero, List.getElem_cons_succ, List.setIfInBounds_toArray, List.set_cons_zero, List.set_cons_succ]
            refine wpAnyH_ready (rs := [22]) (by kernel_rfl) (by simp) ?_
            refine (AllReadyH.cons rfl (fun K hK => ?_) AllReadyH.nil)
            have s0 := sp.at 0 _ rfl
            have q0 := sp.free 0
            have s1 := sp.at 1 _ rfl
            have q1 := sp.free 1
            go_simp
            refine held_put2 hK.out hS sp ?_ ?_ ?_
            · omega
            · omega
            clear hS hK sp s0 s1 q0 q1
            intro X hS
            try simp only [Act.put, List.getElem_toArray, List.getElem_cons_zero, List.getElem_cons_succ, List.setIfInBounds_toArray, List.set_cons_zero, List.set_cons_succ]
            refine wpAnyH_take (i := 23) (v := ?_) rfl (by kernel_rfl) (by kernel_rfl) (by kernel_rfl) (fun _ _ _ h => h) (Or.inl ⟨by rfl, ?_⟩) (by assumption) ?_
            rotate_left
            · intro W hSW; (try dsimp only at hSW); go_simp; (first | done | with_reducible rfl)
            simp only [Act.put, List.getElem_toArray, List.getElem_cons_zero, List.getElem_cons_succ, List.setIfInBounds_toArray, List.set_cons_zero, List.set_cons_succ]
            refine wpAnyH_done (by kernel_rfl) ?_ _
            go_wp2_with fail
            go_meet
            exact ⟨rfl, hS⟩
          · skip
            have nb0 := own_pick nb hk4
            go_simp
            clear nb0 nb
            refine hK.out _ _ (hS) (fun hS2 => ?_)
            clear hS hK
            have hS := hS2
            clear hS2
            try simp only [Act.put, List.getElem_toArray, List.getElem_cons_zero, List.getElem_cons_succ, List.setIfInBounds_toArray, List.set_cons_zero, List.set_cons_succ]
            refine wpAnyH_ready (rs := [8]) (by kernel_rfl) (by simp) ?_
            refine (AllReadyH.cons rfl (fun K hK => ?_) AllReadyH.nil)
            have na0 := own_pick na hk4
            go_simp
            clear na0 na
            refine hK.out _ _ (hS) (fun hS2 => ?_)
            clear hS hK
            have hS := hS2
            clear hS2
            try simp only [Act.put, List.getElem_toArray, List.getElem_cons_zero, List.getElem_cons_succ, List.setIfInBounds_toArray, List.set_cons_zero, List.set_cons_succ]
            refine wpAnyH_ready (rs := [17]) (by kernel_rfl) (by simp) ?_
            refine (AllReadyH.cons rfl (fun K hK => ?_) AllReadyH.nil)
            go_simp
            refine (HL.out _).mono ?_
            rintro e w3 ⟨rfl, hn⟩
            replace sp := sp.kept hn
            refine hK.out _ _ (⟨hS.1.trans hn, hS.2.kept hn⟩) (fun hS2 => ?_)
            clear hS hK
            have hS := hS2
            clear hS2
            try simp only [Act.put, List.getElem_toArray, List.getElem_cons_zero, List.getElem_cons_succ, List.setIfInBounds_toArray, List.set_cons_zero, List.set_cons_succ]
            refine wpAnyH_take (i := 18) (v := ?_) rfl (by kernel_rfl) (by kernel_rfl) (by kernel_rfl) (fun _ _ _ h => h) (Or.inl ⟨by rfl, ?_⟩) (by assumption) ?_
            rotate_left
            · intro W hSW; (try dsimp only at hSW); go_simp; (first | done | with_reducible rfl)
            simp only [Act.put, List.getElem_toArray, List.getElem_cons_zero, List.getElem_cons_succ, List.setIfInBounds_toArray, List.set_cons_zero, List.set_cons_succ]
            refine wpAnyH_take (i := 19) (v := ?_) rfl (by kernel_rfl) (by kernel_rfl) (by kernel_rfl) (fun _ _ _ h => h) (Or.inl ⟨by rfl, ?_⟩) (by assumption) ?_
            rotate_left
            · intro W hSW; (try dsimp only at hSW); go_simp; (first | done | with_reducible rfl)
            simp only [Act.put, List.getElem_toArray, List.getElem_cons_zero, List.getElem_cons_succ, List.setIfInBounds_toArray, List.set_cons_zero, List.set_cons_succ]
            refine wpAnyH_take (i := 20) (v := ?_) rfl (by kernel_rfl) (by kernel_rfl) (by kernel_rfl) (fun _ _ _ h => h) (Or.inl ⟨by rfl, ?_⟩) (by assumption) ?_
            rotate_left
            · intro W hSW; (try dsimp only at hSW); go_simp; (first | done | with_reducible rfl)
            simp only [Act.put, List.getElem_toArray, List.getElem_cons_zero, List.getElem_cons_succ, List.setIfInBounds_toArray, List.set_cons_zero, List.set_cons_succ]
            refine wpAnyH_ready (rs := [22]) (by kernel_rfl) (by simp) ?_
            refine (AllReadyH.cons rfl (fun K hK => ?_) AllReadyH.nil)
            have s0 := sp.at 0 _ rfl
            have q0 := sp.free 0
            have s1 := sp.at 1 _ rfl
            have q1 := sp.free 1
            go_simp
            refine held_put2 hK.out hS sp ?_ ?_ ?_
            · omega
            · omega
            clear hS hK sp s0 s1 q0 q1
            intro X hS
            try simp only [Act.put, List.getElem_toArray, List.getElem_cons_zero, List.getElem_cons_succ, List.setIfInBounds_toArray, List.set_cons_zero, List.set_cons_succ]
            refine wpAnyH_take (i := 23) (v := ?_) rfl (by kernel_rfl) (by kernel_rfl) (by kernel_rfl) (fun _ _ _ h => h) (Or.inl ⟨by rfl, ?_⟩) (by assumption) ?_
            rotate_left
            · intro W hSW; (try dsimp only at hSW); go_simp; (first | done | with_reducible rfl)
            simp only [Act.put, List.getElem_toArray, List.getElem_cons_zero, List.getElem_cons_succ, List.setIfInBounds_toArray, List.set_cons_zero, List.set_cons_succ]
            refine wpAnyH_done (by kernel_rfl) ?_ _
            go_wp2_with fail
            go_meet
            exact ⟨rfl, hS⟩
        · skip
          have nb0 := own_pick nb hk4
          go_simp
          clear nb0 nb
          refine hK.out _ _ (hS) (fun hS2 => ?_)
          clear hS hK
          have hS := hS2
          clear hS2
          try simp only [Act.put, List.getElem_toArray, List.getElem_cons_zero, List.getElem_cons_succ, List.setIfInBounds_toArray, List.set_cons_zero, List.set_cons_succ]
          refine wpAnyH_ready (rs := [4]) (by kernel_rfl) (by simp) ?_
          refine (AllReadyH.cons rfl (fun K hK => ?_) AllReadyH.nil)
          have al := hS.2.lt
          have al2 := hS.1.size
          try dsimp only [World.drew] at al al2
          go_simp
          refine held_new hK.out ⟨hS.1.alloc _, hS.2.alloc _⟩ ?_
          intro X eX hS2 na
          clear hS hK
          have hS := hS2
          clear hS2
          try dsimp only [World.drew] at na
          replace sp := (eX ▸ sp.alloc _ : Own X _ _ _)
          clear eX
          try simp only [Act.put, List.getElem_toArray, List.getElem_cons_zero, List.getElem_cons_succ, List.setIfInBounds_toArray, List.set_cons_zero, List.set_cons_succ]
          refine wpAnyH_take (i := 7) (v := ?_) rfl (by kernel_rfl) (by kernel_rfl) (by kernel_rfl) (fun _ _ _ h => h) (Or.inl ⟨by rfl, ?_⟩) (by assumption) ?_
          rotate_left
          · intro W hSW; (try dsimp only at hSW); go_simp; (first | done | with_reducible rfl)
          simp only [Act.put, List.getElem_toArray, List.getElem_cons_zero, List.getElem_cons_succ, List.setIfInBounds_toArray, List.set_cons_zero, List.set_cons_succ]
          refine wpAnyH_ready (rs := [8]) (by kernel_rfl) (by simp) ?_
          refine (AllReadyH.cons rfl (fun K hK => ?_) AllReadyH.nil)
          have na0 := own_pick na hk4
          go_simp
          clear na0 na
          refine hK.out _ _ (hS) (fun hS2 => ?_)
          clear hS hK
          have hS := hS2
          clear hS2
          try simp only [Act.put, List.getElem_toArray, List.getElem_cons_zero, List.getElem_cons_succ, List.setIfInBounds_toArray, List.set_cons_zero, List.set_cons_succ]
          refine wpAnyH_ready (rs := [17]) (by kernel_rfl) (by simp) ?_
          refine (AllReadyH.cons rfl (fun K hK => ?_) AllReadyH.nil)
          go_simp
          refine (HL.out _).mono ?_
          rintro e w3 ⟨rfl, hn⟩
          replace sp := sp.kept hn
          refine hK.out _ _ (⟨hS.1.trans hn, hS.2.kept hn⟩) (fun hS2 => ?_)
          clear hS hK
          have hS := hS2
          clear hS2
          try simp only [Act.put, List.getElem_toArray, List.getElem_cons_zero, List.getElem_cons_succ, List.setIfInBounds_toArray, List.set_cons_zero, List.set_cons_succ]
          refine wpAnyH_take (i := 18) (v := ?_) rfl (by kernel_rfl) (by kernel_rfl) (by kernel_rfl) (fun _ _ _ h => h) (Or.inl ⟨by rfl, ?_⟩) (by assumption) ?_
          rotate_left
          · intro W hSW; (try dsimp only at hSW); go_simp; (first | done | with_reducible rfl)
          simp only [Act.put, List.getElem_toArray, List.getElem_cons_zero, List.getElem_cons_succ, List.setIfInBounds_toArray, List.set_cons_zero, List.set_cons_succ]
          refine wpAnyH_take (i := 19) (v := ?_) rfl (by kernel_rfl) (by kernel_rfl) (by kernel_rfl) (fun _ _ _ h => h) (Or.inl ⟨by rfl, ?_⟩) (by assumption) ?_
          rotate_left
          · intro W hSW; (try dsimp only at hSW); go_simp; (first | done | with_reducible rfl)
          simp only [Act.put, List.getElem_toArray, List.getElem_cons_zero, List.getElem_cons_succ, List.setIfInBounds_toArray, List.set_cons_zero, List.set_cons_succ]
          refine wpAnyH_take (i := 20) (v := ?_) rfl (by kernel_rfl) (by kernel_rfl) (by kernel_rfl) (fun _ _ _ h => h) (Or.inl ⟨by rfl, ?_⟩) (by assumption) ?_
          rotate_left
          · intro W hSW; (try dsimp only at hSW); go_simp; (first | done | with_reducible rfl)
          simp only [Act.put, List.getElem_toArray, List.getElem_cons_zero, List.getElem_cons_succ, List.setIfInBounds_toArray, List.set_cons_zero, List.set_cons_succ]
          refine wpAnyH_ready (rs := [22]) (by kernel_rfl) (by simp) ?_
          refine (AllReadyH.cons rfl (fun K hK => ?_) AllReadyH.nil)
          have s0 := sp.at 0 _ rfl
          have q0 := sp.free 0
          have s1 := sp.at 1 _ rfl
          have q1 := sp.free 1
          go_simp
          refine held_put2 hK.out hS sp ?_ ?_ ?_
          · omega
          · omega
          clear hS hK sp s0 s1 q0 q1
          intro X hS
          try simp only [Act.put, List.getElem_toArray, List.getElem_cons_zero, List.getElem_cons_succ, List.setIfInBounds_toArray, List.set_cons_zero, List.set_cons_succ]
          refine wpAnyH_take (i := 23) (v := ?_) rfl (by kernel_rfl) (by kernel_rfl) (by kernel_rfl) (fun _ _ _ h => h) (Or.inl ⟨by rfl, ?_⟩) (by assumption) ?_
          rotate_left
          · intro W hSW; (try dsimp only at hSW); go_simp; (first | done | with_reducible rfl)
          simp only [Act.put, List.getElem_toArray, List.getElem_cons_zero, List.getElem_cons_succ, List.setIfInBounds_toArray, List.set_cons_zero, List.set_cons_succ]
          refine wpAnyH_done (by kernel_rfl) ?_ _
          go_wp2_with fail
          go_meet
          exact ⟨rfl, hS⟩
    · skip
      have al := hS.2.lt
      have al2 := hS.1.size
      try dsimp only [World.drew] at al al2
      go_simp
      refine held_new hK.out ⟨hS.1.alloc _, hS.2.alloc _⟩ ?_
      intro X eX hS2 sp
      clear hS hK
      have hS := hS2
      clear hS2
      try dsimp only [World.drew] at sp
      clear eX
      try simp only [Act.put, List.getElem_toArray, List.getElem_cons_zero, List.getElem_cons_succ, List.setIfInBounds_toArray, List.set_cons_zero, List.set_cons_succ]
      refine wpAnyH_ready (rs := [4, 12]) (by kernel_rfl) (by simp) ?_
      refine (AllReadyH.cons rfl (fun K hK => ?_) (AllReadyH.cons rfl (fun K hK => ?_) AllReadyH.nil))
      · skip
        have al := hS.2.lt
        have al2 := hS.1.size
        try dsimp only [World.drew] at al al2
        go_simp
        refine held_new hK.out ⟨hS.1.alloc _, hS.2.alloc _⟩ ?_
        intro X eX hS2 na
        clear hS hK
        have hS := hS2
        clear hS2
        try dsimp only [World.drew] at na
        replace sp := (eX ▸ sp.alloc _ : Own X _ _ _)
        clear eX
        try simp only [Act.put, List.getElem_toArray, List.getElem_cons_zero, List.getElem_cons_succ, List.setIfInBounds_toArray, List.set_cons_zero, List.set_cons_succ]
        refine wpAnyH_take (i := 7) (v := ?_) rfl (by kernel_rfl) (by kernel_rfl) (by kernel_rfl) (fun _ _ _ h => h) (Or.inl ⟨by rfl, ?_⟩) (by assumption) ?_
        rotate_left
        · intro W hSW; (try dsimp only at hSW); go_simp; (first | done | with_reducible rfl)
        simp only [Act.put, List.getElem_toArray, List.getElem_cons_zero, List.getElem_cons_succ, List.setIfInBounds_toArray, List.set_cons_zero, List.set_cons_succ]
        refine wpAnyH_ready (rs := [8, 12]) (by kernel_rfl) (by simp) ?_
        refine (AllReadyH.cons rfl (fun K hK => ?_) (AllReadyH.cons rfl (fun K hK => ?_) AllReadyH.nil))
        · skip
          have na0 := own_pick na hk4
          go_simp
          clear na0 na
          refine hK.out _ _ (hS) (fun hS2 => ?_)
          clear hS hK
          have hS := hS2
          clear hS2
          try simp only [Act.put, List.getElem_toArray, List.getElem_cons_zero, List.getElem_cons_succ, List.setIfInBounds_toArray, List.set_cons_zero, List.set_cons_succ]
          refine wpAnyH_ready (rs := [12]) (by kernel_rfl) (by simp) ?_
          refine (AllReadyH.cons rfl (fun K hK => ?_) AllReadyH.nil)
          have al := hS.2.lt
          have al2 := hS.1.size
          try dsimp only [World.drew] at al al2
          go_simp
          refine held_new hK.out ⟨hS.1.alloc _, hS.2.alloc _⟩ ?_
          intro X eX hS2 nb
          clear hS hK
          have hS := hS2
          clear hS2
          try dsimp only [World.drew] at nb
          replace sp := (eX ▸ sp.alloc _ : Own X _ _ _)
          clear eX
          try simp only [Act.put, List.getElem_toArray, List.getElem_cons_zero, List.getElem_cons_succ, List.setIfInBounds_toArray, List.set_cons_zero, List.set_cons_succ]
          refine wpAnyH_take (i := 15) (v := ?_) rfl (by kernel_rfl) (by kernel_rfl) (by kernel_rfl) (fun _ _ _ h => h) (Or.inl ⟨by rfl, ?_⟩) (by assumption) ?_
          rotate_left
          · intro W hSW; (try dsimp only at hSW); go_simp; (first | done | with_reducible rfl)
          simp only [Act.put, List.getElem_toArray, List.getElem_cons_zero, List.getElem_cons_succ, List.setIfInBounds_toArray, List.set_cons_zero, List.set_cons_succ]
          refine wpAnyH_ready (rs := [16]) (by kernel_rfl) (by simp) ?_
          refine (AllReadyH.cons rfl (fun K hK => ?_) AllReadyH.nil)
          have nb0 := own_pick nb hk4
          go_simp
          clear nb0 nb
          refine hK.out _ _ (hS) (fun hS2 => ?_)
          clear hS hK
          have hS := hS2
          clear hS2
          try simp only [Act.put, List.getElem_toArray, List.getElem_cons_zero, List.getElem_cons_succ, List.setIfInBounds_toArray, List.set_cons_zero, List.set_cons_succ]
          refine wpAnyH_ready (rs := [17]) (by kernel_rfl) (by simp) ?_
          refine (AllReadyH.cons rfl (fun K hK => ?_) AllReadyH.nil)
          go_simp
          refine (HL.out _).mono ?_
          rintro e w3 ⟨rfl, hn⟩
          replace sp := sp.kept hn
          refine hK.out _ _ (⟨hS.1.trans hn, hS.2.kept hn⟩) (fun hS2 => ?_)
          clear hS hK
          have hS := hS2
          clear hS2
          try simp only [Act.put, List.getElem_toArray, List.getElem_cons_zero, List.getElem_cons_succ, List.setIfInBounds_toArray, List.set_cons_zero, List.set_cons_succ]
          refine wpAnyH_take (i := 18) (v := ?_) rfl (by kernel_rfl) (by kernel_rfl) (by kernel_rfl) (fun _ _ _ h => h) (Or.inl ⟨by rfl, ?_⟩) (by assumption) ?_
          rotate_left
          · intro W hSW; (try dsimp only at hSW); go_simp; (first | done | with_reducible rfl)
          simp only [Act.put, List.getElem_toArray, List.getElem_cons_zero, List.getElem_cons_succ, List.setIfInBounds_toArray, List.set_cons_zero, List.set_cons_succ]
          refine wpAnyH_take (i := 19) (v := ?_) rfl (by kernel_rfl) (by kernel_rfl) (by kernel_rfl) (fun _ _ _ h => h) (Or.inl ⟨by rfl, ?_⟩) (by assumption) ?_
          rotate_left
          · intro W hSW; (try dsimp only at hSW); go_simp; (first | done | with_reducible rfl)
          simp only [Act.put, List.getElem_toArray, List.getElem_cons_zero, List.getElem_cons_succ, List.setIfInBounds_toArray, List.set_cons_zero, List.set_cons_succ]
          refine wpAnyH_take (i := 20) (v := ?_) rfl (by kernel_rfl) (by kernel_rfl) (by kernel_rfl) (fun _ _ _ h => h) (Or.inl ⟨by rfl, ?_⟩) (by assumption) ?_
          rotate_left
          · intro W hSW; (try dsimp only at hSW); go_simp; (first | done | with_reducible rfl)
          simp only [Act.put, List.getElem_toArray, List.getElem_cons_zero, List.getElem_cons_succ, List.setIfInBounds_toArray, List.set_cons_zero, List.set_cons_succ]
          refine wpAnyH_ready (rs := [22]) (by kernel_rfl) (by simp) ?_
          refine (AllReadyH.cons rfl (fun K hK => ?_) AllReadyH.nil)
          have s0 := sp.at 0 _ rfl
          have q0 := sp.free 0
          have s1 := sp.at 1 _ rfl
          have q1 := sp.free 1
          go_simp
          refine held_put2 hK.out hS sp ?_ ?_ ?_
          · omega
          · omega
          clear hS hK sp s0 s1 q0 q1
          intro X hS
          try simp only [Act.put, List.getElem_toArray, List.getElem_cons_zero, List.getElem_cons_succ, List.setIfInBounds_toArray, List.set_cons_zero, List.set_cons_succ]
          refine wpAnyH_take (i := 23) (v := ?_) rfl (by kernel_rfl) (by kernel_rfl) (by kernel_rfl) (fun _ _ _ h => h) (Or.inl ⟨by rfl, ?_⟩) (by assumption) ?_
          rotate_left
          · intro W hSW; (try dsimp only at hSW); go_simp; (first | done | with_reducible rfl)
          simp only [Act.put, List.getElem_toArray, List.getElem_cons_zero, List.getElem_cons_succ, List.setIfInBounds_toArray, List.set_cons_zero, List.set_cons_succ]
          refine wpAnyH_done (by kernel_rfl) ?_ _
          go_wp2_with fail
          go_meet
          exact ⟨rfl, hS⟩
        · skip
          have al := hS.2.lt
          have al2 := hS.1.size
          try dsimp only [World.drew] at al al2
          go_simp
          refine held_new hK.out ⟨hS.1.alloc _, hS.2.alloc _⟩ ?_
          intro X eX hS2 nb
          clear hS hK
          have hS := hS2
          clear hS2
          try dsimp only [World.drew] at nb
          replace na := (eX ▸ na.alloc _ : Own X _ _ _)
          replace sp := (eX ▸ sp.alloc _ : Own X _ _ _)
          clear eX
          try simp only [Act.put, List.getElem_toArray, List.getElem_cons_zero, List.getElem_cons_succ, List.setIfInBounds_toArray, List.set_cons_zero, List.set_cons_succ]
          refine wpAnyH_take (i := 15) (v := ?_) rfl (by kernel_rfl) (by kernel_rfl) (by kernel_rfl) (fun _ _ _ h => h) (Or.inl ⟨by rfl, ?_⟩) (by assumption) ?_
          rotate_left
          · intro W hSW; (try dsimp only at hSW); go_simp; (first | done | with_reducible rfl)
          simp only [Act.put, List.getElem_toArray, List.getElem_cons_zero, List.getElem_cons_succ, List.setIfInBounds_toArray, List.set_cons_zero, List.set_cons_succ]
          refine wpAnyH_ready (rs := [8, 16]) (by kernel_rfl) (by simp) ?_
          refine (AllReadyH.cons rfl (fun K hK => ?_) (AllReadyH.cons rfl (fun K hK => ?_) AllReadyH.nil))
          · skip
            have na0 := own_pick na hk4
            go_simp
            clear na0 na
            refine hK.out _ _ (hS) (fun hS2 => ?_)
            clear hS hK
            have hS := hS2
            clear hS2
            try simp only [Act.put, List.getElem_toArray, List.getElem_cons_zero, List.getElem_cons_succ, List.setIfInBounds_toArray, List.set_cons_zero, List.set_cons_succ]
            refine wpAnyH_ready (rs := [16]) (by kernel_rfl) (by simp) ?_
            refine (AllReadyH.cons rfl (fun K hK => ?_) AllReadyH.nil)
            have nb0 := own_pick nb hk4
            go_simp
            clear nb0 nb
            refine hK.out _ _ (hS) (fun hS2 => ?_)
            clear hS hK
            have hS := hS2
            clear hS2
            try simp only [Act.put, List.getElem_toArray, List.getElem_cons_zero, List.getElem_cons_succ, List.setIfInBounds_toArray, List.set_cons_zero, List.set_cons_succ]
            refine wpAnyH_ready (rs := [17]) (by kernel_rfl) (by simp) ?_
            refine (AllReadyH.cons rfl (fun K hK => ?_) AllReadyH.nil)
            go_simp
            refine (HL.out _).mono ?_
            rintro e w3 ⟨rfl, hn⟩
            replace sp := sp.kept hn
            refine hK.out _ _ (⟨hS.1.trans hn, hS.2.kept hn⟩) (fun hS2 => ?_)
            clear hS hK
            have hS := hS2
            clear hS2
            try simp only [Act.put, List.getElem_toArray, List.getElem_cons_zero, List.getElem_cons_succ, List.setIfInBounds_toArray, List.set_cons_zero, List.set_cons_succ]
            refine wpAnyH_take (i := 18) (v := ?_) rfl (by kernel_rfl) (by kernel_rfl) (by kernel_rfl) (fun _ _ _ h => h) (Or.inl ⟨by rfl, ?_⟩) (by assumption) ?_
            rotate_left
            · intro W hSW; (try dsimp only at hSW); go_simp; (first | done | with_reducible rfl)
            simp only [Act.put, List.getElem_toArray, List.getElem_cons_zero, List.getElem_cons_succ, List.setIfInBounds_toArray, List.set_cons_zero, List.set_cons_succ]
            refine wpAnyH_take (i := 19) (v := ?_) rfl (by kernel_rfl) (by kernel_rfl) (by kernel_rfl) (fun _ _ _ h => h) (Or.inl ⟨by rfl, ?_⟩) (by assumption) ?_
            rotate_left
            · intro W hSW; (try dsimp only at hSW); go_simp; (first | done | with_reducible rfl)
            simp only [Act.put, List.getElem_toArray, List.getElem_cons_zero, List.getElem_cons_succ, List.setIfInBounds_toArray, List.set_cons_zero, List.set_cons_succ]
            refine wpAnyH_take (i := 20) (v := ?_) rfl (by kernel_rfl) (by kernel_rfl) (by kernel_rfl) (fun _ _ _ h => h) (Or.inl ⟨by rfl, ?_⟩) (by assumption) ?_
            rotate_left
            · intro W hSW; (try dsimp only at hSW); go_simp; (first | done | with_reducible rfl)
            simp only [Act.put, List.getElem_toArray, List.getElem_cons_zero, List.getElem_cons_succ, List.setIfInBounds_toArray, List.set_cons_zero, List.set_cons_succ]
            refine wpAnyH_ready (rs := [22]) (by kernel_rfl) (by simp) ?_
            refine (AllReadyH.cons rfl (fun K hK => ?_) AllReadyH.nil)
            have s0 := sp.at 0 _ rfl
            have q0 := sp.free 0
            have s1 := sp.at 1 _ rfl
            have q1 := sp.free 1
            go_simp
            refine held_put2 hK.out hS sp ?_ ?_ ?_
            · omega
            · omega
            clear hS hK sp s0 s1 q0 q1
            intro X hS
            try simp only [Act.put, List.getElem_toArray, List.getElem_cons_zero, List.getElem_cons_succ, List.setIfInBounds_toArray, List.set_cons_zero, List.set_cons_succ]
            refine wpAnyH_take (i := 23) (v := ?_) rfl (by kernel_rfl) (by kernel_rfl) (by kernel_rfl) (fun _ _ _ h => h) (Or.inl ⟨by rfl, ?_⟩) (by assumption) ?_
            rotate_left
            · intro W hSW; (try dsimp only at hSW); go_simp; (first | done | with_reducible rfl)
            simp only [Act.put, List.getElem_toArray, List.getElem_cons_zero, List.getElem_cons_succ, List.setIfInBounds_toArray, List.set_cons_zero, List.set_cons_succ]
            refine wpAnyH_done (by kernel_rfl) ?_ _
            go_wp2_with fail
            go_meet
            exact ⟨rfl, hS⟩
          · skip
            have nb0 := own_pick nb hk4
            go_simp
            clear nb0 nb
            refine hK.out _ _ (hS) (fun hS2 => ?_)
            clear hS hK
            have hS := hS2
            clear hS2
            try simp only [Act.put, List.getElem_toArray, List.getElem_cons_zero, List.getElem_cons_succ, List.setIfInBounds_toArray, List.set_cons_zero, List.set_cons_succ]
            refine wpAnyH_ready (rs := [8]) (by kernel_rfl) (by simp) ?_
            refine (AllReadyH.cons rfl (fun K hK => ?_) AllReadyH.nil)
            have na0 := own_pick na hk4
            go_simp
            clear na0 na
            refine hK.out _ _ (hS) (fun hS2 => ?_)
            clear hS hK
            have hS := hS2
            clear hS2
            try simp only [Act.put, List.getElem_toArray, List.getElem_cons_zero, List.getElem_cons_succ, List.setIfInBounds_toArray, List.set_cons_zero, List.set_cons_succ]
            refine wpAnyH_ready (rs := [17]) (by kernel_rfl) (by simp) ?_
            refine (AllReadyH.cons rfl (fun K hK => ?_) AllReadyH.nil)
            go_simp
            refine (HL.out _).mono ?_
            rintro e w3 ⟨rfl, hn⟩
            replace sp := sp.kept hn
            refine hK.out _ _ (⟨hS.1.trans hn, hS.2.kept hn⟩) (fun hS2 => ?_)
            clear hS hK
            have hS := hS2
            clear hS2
            try simp only [Act.put, List.getElem_toArray, List.getElem_cons_zero, List.getElem_cons_succ, List.setIfInBounds_toArray, List.set_cons_zero, List.set_cons_succ]
            refine wpAnyH_take (i := 18) (v := ?_) rfl (by kernel_rfl) (by kernel_rfl) (by kernel_rfl) (fun _ _ _ h => h) (Or.inl ⟨by rfl, ?_⟩) (by assumption) ?_
            rotate_left
            · intro W hSW; (try dsimp only at hSW); go_simp; (first | done | with_reducible rfl)
            simp only [Act.put, List.getElem_toArray, List.getElem_cons_zero, List.getElem_cons_succ, List.setIfInBounds_toArray, List.set_cons_zero, List.set_cons_succ]
            refine wpAnyH_take (i := 19) (v := ?_) rfl (by kernel_rfl) (by kernel_rfl) (by kernel_rfl) (fun _ _ _ h => h) (Or.inl ⟨by rfl, ?_⟩) (by assumption) ?_
            rotate_left
            · intro W hSW; (try dsimp only at hSW); go_simp; (first | done | with_reducible rfl)
            simp only [Act.put, List.getElem_toArray, List.getElem_cons_zero, List.getElem_cons_succ, List.setIfInBounds_toArray, List.set_cons_zero, List.set_cons_succ]
            refine wpAnyH_take (i := 20) (v := ?_) rfl (by kernel_rfl) (by kernel_rfl) (by kernel_rfl) (fun _ _ _ h => h) (Or.inl ⟨by rfl, ?_⟩) (by assumption) ?_
            rotate_left
            · intro W hSW; (try dsimp only at hSW); go_simp; (first | done | with_reducible rfl)
            simp only [Act.put, List.getElem_toArray, List.getElem_cons_zero, List.getElem_cons_succ, List.setIfInBounds_toArray, List.set_cons_zero, List.set_cons_succ]
            refine wpAnyH_ready (rs := [22]) (by kernel_rfl) (by simp) ?_
            refine (AllReadyH.cons rfl (fun K hK => ?_) AllReadyH.nil)
            have s0 := sp.at 0 _ rfl
            have q0 := sp.free 0
            have s1 := sp.at 1 _ rfl
            have q1 := sp.free 1
            go_simp
            refine held_put2 hK.out hS sp ?_ ?_ ?_
            · omega
            · omega
            clear hS hK sp s0 s1 q0 q1
            intro X hS
            try simp only [Act.put, List.getElem_toArray, List.getElem_cons_zero, List.getElem_cons_succ, List.setIfInBounds_toArray, List.set_cons_zero, List.set_cons_succ]
            refine wpAnyH_take (i := 23) (v := ?_) rfl (by kernel_rfl) (by kernel_rfl) (by kernel_rfl) (fun _ _ _ h => h) (Or.inl ⟨by rfl, ?_⟩) (by assumption) ?_
            rotate_left
            · intro W hSW; (try dsimp only at hSW); go_simp; (first | done | with_reducible rfl)
            simp only [Act.put, List.getElem_toArray, List.getElem_cons_zero, List.getElem_cons_succ, List.setIfInBounds_toArray, List.set_cons_zero, List.set_cons_succ]
            refine wpAnyH_done (by kernel_rfl) ?_ _
            go_wp2_with fail
            go_meet
            exact ⟨rfl, hS⟩
      · skip
        have al := hS.2.lt
        have al2 := hS.1.size
        try dsimp only [World.drew] at al al2
        go_simp
        refine held_new hK.out ⟨hS.1.alloc _, hS.2.alloc _⟩ ?_
        intro X eX hS2 nb
        clear hS hK
        have hS := hS2
        clear hS2
        try dsimp only [World.drew] at nb
        replace sp := (eX ▸ sp.alloc _ : Own X _ _ _)
        clear eX
        try simp only [Act.put, List.getElem_toArray, List.getElem_cons_zero, List.getElem_cons_succ, List.setIfInBounds_toArray, List.set_cons_zero, List.set_cons_succ]
        refine wpAnyH_take (i := 15) (v := ?_) rfl (by kernel_rfl) (by kernel_rfl) (by kernel_rfl) (fun _ _ _ h => h) (Or.inl ⟨by rfl, ?_⟩) (by assumption) ?_
        rotate_left
        · intro W hSW; (try dsimp only at hSW); go_simp; (first | done | with_reducible rfl)
        simp only [Act.put, List.getElem_toArray, List.getElem_cons_zero, List.getElem_cons_succ, List.setIfInBounds_toArray, List.set_cons_zero, List.set_cons_succ]
        refine wpAnyH_ready (rs := [4, 16]) (by kernel_rfl) (by simp) ?_
        refine (AllReadyH.cons rfl (fun K hK => ?_) (AllReadyH.cons rfl (fun K hK => ?_) AllReadyH.nil))
        · skip
          have al := hS.2.lt
          have al2 := hS.1.size
          try dsimp only [World.drew] at al al2
          go_simp
          refine held_new hK.out ⟨hS.1.alloc _, hS.2.alloc _⟩ ?_
          intro X eX hS2 na
          clear hS hK
          have hS := hS2
          clear hS2
          try dsimp only [World.drew] at na
          replace nb := (eX ▸ nb.alloc _ : Own X _ _ _)
          replace sp := (eX ▸ sp.alloc _ : Own X _ _ _)
          clear eX
          try simp only [Act.put, List.getElem_toArray, List.getElem_cons_zero, List.getElem_cons_succ, List.setIfInBounds_toArray, List.set_cons_zero, List.set_cons_succ]
          refine wpAnyH_take (i := 7) (v := ?_) rfl (by kernel_rfl) (by kernel_rfl) (by kernel_rfl) (fun _ _ _ h => h) (Or.inl ⟨by rfl, ?_⟩) (by assumption) ?_
          rotate_left
          · intro W hSW; (try dsimp only at hSW); go_simp; (first | done | with_reducible rfl)
          simp only [Act.put, List.getElem_toArray, List.getElem_cons_zero, List.getElem_cons_succ, List.setIfInBounds_toArray, List.set_cons_zero, List.set_cons_succ]
          refine wpAnyH_ready (rs := [8, 16]) (by kernel_rfl) (by simp) ?_
          refine (AllReadyH.cons rfl (fun K hK => ?_) (AllReadyH.cons rfl (fun K hK => ?_) AllReadyH.nil))
          · skip
            have na0 := own_pick na hk4
            go_simp
            clear na0 na
            refine hK.out _ _ (hS) (fun hS2 => ?_)
            clear hS hK
            have hS := hS2
            clear hS2
            try simp only [Act.put, List.getElem_toArray, List.getElem_cons_zero, List.getElem_cons_succ, List.setIfInBounds_toArray, List.set_cons_zero, List.set_cons_succ]
            refine wpAnyH_ready (rs := [16]) (by kernel_rfl) (by simp) ?_
            refine (AllReadyH.cons rfl (fun K hK => ?_) AllReadyH.nil)
            have nb0 := own_pick nb hk4
            go_simp
            clear nb0 nb
            refine hK.out _ _ (hS) (fun hS2 => ?_)
            clear hS hK
            have hS := hS2
            clear hS2
            try simp only [Act.put, List.getElem_toArray, List.getElem_cons_zero, List.getElem_cons_succ, List.setIfInBounds_toArray, List.set_cons_zero, List.set_cons_succ]
            refine wpAnyH_ready (rs := [17]) (by kernel_rfl) (by simp) ?_
            refine (AllReadyH.cons rfl (fun K hK => ?_) AllReadyH.nil)
            go_simp
            refine (HL.out _).mono ?_
            rintro e w3 ⟨rfl, hn⟩
            replace sp := sp.kept hn
            refine hK.out _ _ (⟨hS.1.trans hn, hS.2.kept hn⟩) (fun hS2 => ?_)
            clear hS hK
            have hS := hS2
            clear hS2
            try simp only [Act.put, List.getElem_toArray, List.getElem_cons_zero, List.getElem_cons_succ, List.setIfInBounds_toArray, List.set_cons_zero, List.set_cons_succ]
            refine wpAnyH_take (i := 18) (v := ?_) rfl (by kernel_rfl) (by kernel_rfl) (by kernel_rfl) (fun _ _ _ h => h) (Or.inl ⟨by rfl, ?_⟩) (by assumption) ?_
            rotate_left
            · intro W hSW; (try dsimp only at hSW); go_simp; (first | done | with_reducible rfl)
            simp only [Act.put, List.getElem_toArray, List.getElem_cons_zero, List.getElem_cons_succ, List.setIfInBounds_toArray, List.set_cons_zero, List.set_cons_succ]
            refine wpAnyH_take (i := 19) (v := ?_) rfl (by kernel_rfl) (by kernel_rfl) (by kernel_rfl) (fun _ _ _ h => h) (Or.inl ⟨by rfl, ?_⟩) (by assumption) ?_
            rotate_left
            · intro W hSW; (try dsimp only at hSW); go_simp; (first | done | with_reducible rfl)
            simp only [Act.put, List.getElem_toArray, List.getElem_cons_zero, List.getElem_cons_succ, List.setIfInBounds_toArray, List.set_cons_zero, List.set_cons_succ]
            refine wpAnyH_take (i := 20) (v := ?_) rfl (by kernel_rfl) (by kernel_rfl) (by kernel_rfl) (fun _ _ _ h => h) (Or.inl ⟨by rfl, ?_⟩) (by assumption) ?_
            rotate_left
            · intro W hSW; (try dsimp only at hSW); go_simp; (first | done | with_reducible rfl)
            simp only [Act.put, List.getElem_toArray, List.getElem_cons_zero, List.getElem_cons_succ, List.setIfInBounds_toArray, List.set_cons_zero, List.set_cons_succ]
            refine wpAnyH_ready (rs := [22]) (by kernel_rfl) (by simp) ?_
            refine (AllReadyH.cons rfl (fun K hK => ?_) AllReadyH.nil)
            have s0 := sp.at 0 _ rfl
            have q0 := sp.free 0
            have s1 := sp.at 1 _ rfl
            have q1 := sp.free 1
            go_simp
            refine held_put2 hK.out hS sp ?_ ?_ ?_
            · omega
            · omega
            clear hS hK sp s0 s1 q0 q1
            intro X hS
            try simp only [Act.put, List.getElem_toArray, List.getElem_cons_zero, List.getElem_cons_succ, List.setIfInBounds_toArray, List.set_cons_zero, List.set_cons_succ]
            refine wpAnyH_take (i := 23) (v := ?_) rfl (by kernel_rfl) (by kernel_rfl) (by kernel_rfl) (fun _ _ _ h => h) (Or.inl ⟨by rfl, ?_⟩) (by assumption) ?_
            rotate_left
            · intro W hSW; (try dsimp only at hSW); go_simp; (first | done | with_reducible rfl)
            simp only [Act.put, List.getElem_toArray, List.getElem_cons_zero, List.getElem_cons_succ, List.setIfInBounds_toArray, List.set_cons_zero, List.set_cons_succ]
            refine wpAnyH_done (by kernel_rfl) ?_ _
            go_wp2_with fail
            go_meet
            exact ⟨rfl, hS⟩
          · skip
            have nb0 := own_pick nb hk4
            go_simp
            clear nb0 nb
            refine hK.out _ _ (hS) (fun hS2 => ?_)
            clear hS hK
            have hS := hS2
            clear hS2
            try simp only [Act.put, List.getElem_toArray, List.getElem_cons_zero, List.getElem_cons_succ, List.setIfInBounds_toArray, List.set_cons_zero, List.set_cons_succ]
            refine wpAnyH_ready (rs := [8]) (by kernel_rfl) (by simp) ?_
            refine (AllReadyH.cons rfl (fun K hK => ?_) AllReadyH.nil)
            have na0 := own_pick na hk4
            go_simp
            clear na0 na
            refine hK.out _ _ (hS) (fun hS2 => ?_)
            clear hS hK
            have hS := hS2
            clear hS2
            try simp only [Act.put, List.getElem_toArray, List.getElem_cons_zero, List.getElem_cons_succ, List.setIfInBounds_toArray, List.set_cons_zero, List.set_cons_succ]
            refine wpAnyH_ready (rs := [17]) (by kernel_rfl) (by simp) ?_
            refine (AllReadyH.cons rfl (fun K hK => ?_) AllReadyH.nil)
            go_simp
            refine (HL.out _).mono ?_
            rintro e w3 ⟨rfl, hn⟩
            replace sp := sp.kept hn
            refine hK.out _ _ (⟨hS.1.trans hn, hS.2.kept hn⟩) (fun hS2 => ?_)
            clear hS hK
            have hS := hS2
            clear hS2
            try simp only [Act.put, List.getElem_toArray, List.getElem_cons_zero, List.getElem_cons_succ, List.setIfInBounds_toArray, List.set_cons_zero, List.set_cons_succ]
            refine wpAnyH_take (i := 18) (v := ?_) rfl (by kernel_rfl) (by kernel_rfl) (by kernel_rfl) (fun _ _ _ h => h) (Or.inl ⟨by rfl, ?_⟩) (by assumption) ?_
            rotate_left
            · intro W hSW; (try dsimp only at hSW); go_simp; (first | done | with_reducible rfl)
            simp only [Act.put, List.getElem_toArray, List.getElem_cons_zero, List.getElem_cons_succ, List.setIfInBounds_toArray, List.set_cons_zero, List.set_cons_succ]
            refine wpAnyH_take (i := 19) (v := ?_) rfl (by kernel_rfl) (by kernel_rfl) (by kernel_rfl) (fun _ _ _ h => h) (Or.inl ⟨by rfl, ?_⟩) (by assumption) ?_
            rotate_left
            · intro W hSW; (try dsimp only at hSW); go_simp; (first | done | with_reducible rfl)
            simp only [Act.put, List.getElem_toArray, List.getElem_cons_zero, List.getElem_cons_succ, List.setIfInBounds_toArray, List.set_cons_zero, List.set_cons_succ]
            refine wpAnyH_take (i := 20) (v := ?_) rfl (by kernel_rfl) (by kernel_rfl) (by kernel_rfl) (fun _ _ _ h => h) (Or.inl ⟨by rfl, ?_⟩) (by assumption) ?_
            rotate_left
            · intro W hSW; (try dsimp only at hSW); go_simp; (first | done | with_reducible rfl)
            simp only [Act.put, List.getElem_toArray, List.getElem_cons_zero, List.getElem_cons_succ, List.setIfInBounds_toArray, List.set_cons_zero, List.set_cons_succ]
            refine wpAnyH_ready (rs := [22]) (by kernel_rfl) (by simp) ?_
            refine (AllReadyH.cons rfl (fun K hK => ?_) AllReadyH.nil)
            have s0 := sp.at 0 _ rfl
            have q0 := sp.free 0
            have s1 := sp.at 1 _ rfl
            have q1 := sp.free 1
            go_simp
            refine held_put2 hK.out hS sp ?_ ?_ ?_
            · omega
            · omega
            clear hS hK sp s0 s1 q0 q1
            intro X hS
            try simp only [Act.put, List.getElem_toArray, List.getElem_cons_zero, List.getElem_cons_succ, List.setIfInBounds_toArray, List.set_cons_zero, List.set_cons_succ]
            refine wpAnyH_take (i := 23) (v := ?_) rfl (by kernel_rfl) (by kernel_rfl) (by kernel_rfl) (fun _ _ _ h => h) (Or.inl ⟨by rfl, ?_⟩) (by assumption) ?_
            rotate_left
            · intro W hSW; (try dsimp only at hSW); go_simp; (first | done | with_reducible rfl)
            simp only [Act.put, List.getElem_toArray, List.getElem_cons_zero, List.getElem_cons_succ, List.setIfInBounds_toArray, List.set_cons_zero, List.set_cons_succ]
            refine wpAnyH_done (by kernel_rfl) ?_ _
            go_wp2_with fail
            go_meet
            exact ⟨rfl, hS⟩
        · skip
          have nb0 := own_pick nb hk4
          go_simp
          clear nb0 nb
          refine hK.out _ _ (hS) (fun hS2 => ?_)
          clear hS hK
          have hS := hS2
          clear hS2
          try simp only [Act.put, List.getElem_toArray, List.getElem_cons_zero, List.getElem_cons_succ, List.setIfInBounds_toArray, List.set_cons_zero, List.set_cons_succ]
          refine wpAnyH_ready (rs := [4]) (by kernel_rfl) (by simp) ?_
          refine (AllReadyH.cons rfl (fun K hK => ?_) AllReadyH.nil)
          have al := hS.2.lt
          have al2 := hS.1.size
          try dsimp only [World.drew] at al al2
          go_simp
          refine held_new hK.out ⟨hS.1.alloc _, hS.2.alloc _⟩ ?_
          intro X eX hS2 na
          clear hS hK
          have hS := hS2
          clear hS2
          try dsimp only [World.drew] at na
          replace sp := (eX ▸ sp.alloc _ : Own X _ _ _)
          clear eX
          try simp only [Act.put, List.getElem_toArray, List.getElem_cons_zero, List.getElem_cons_succ, List.setIfInBounds_toArray, List.set_cons_zero, List.set_cons_succ]
          refine wpAnyH_take (i := 7) (v := ?_) rfl (by kernel_rfl) (by kernel_rfl) (by kernel_rfl) (fun _ _ _ h => h) (Or.inl ⟨by rfl, ?_⟩) (by assumption) ?_
          rotate_left
          · intro W hSW; (try dsimp only at hSW); go_simp; (first | done | with_reducible rfl)
          simp only [Act.put, List.getElem_toArray, List.getElem_cons_zero, List.getElem_cons_succ, List.setIfInBounds_toArray, List.set_cons_zero, List.set_cons_succ]
          refine wpAnyH_ready (rs := [8]) (by kernel_rfl) (by simp) ?_
          refine (AllReadyH.cons rfl (fun K hK => ?_) AllReadyH.nil)
          have na0 := own_pick na hk4
          go_simp
          clear na0 na
          refine hK.out _ _ (hS) (fun hS2 => ?_)
          clear hS hK
          have hS := hS2
          clear hS2
          try simp only [Act.put, List.getElem_toArray, List.getElem_cons_zero, List.getElem_cons_succ, List.setIfInBounds_toArray, List.set_cons_zero, List.set_cons_succ]
          refine wpAnyH_ready (rs := [17]) (by kernel_rfl) (by simp) ?_
          refine (AllReadyH.cons rfl (fun K hK => ?_) AllReadyH.nil)
          go_simp
          refine (HL.out _).mono ?_
          rintro e w3 ⟨rfl, hn⟩
          replace sp := sp.kept hn
          refine hK.out _ _ (⟨hS.1.trans hn, hS.2.kept hn⟩) (fun hS2 => ?_)
          clear hS hK
          have hS := hS2
          clear hS2
          try simp only [Act.put, List.getElem_toArray, List.getElem_cons_zero, List.getElem_cons_succ, List.setIfInBounds_toArray, List.set_cons_zero, List.set_cons_succ]
          refine wpAnyH_take (i := 18) (v := ?_) rfl (by kernel_rfl) (by kernel_rfl) (by kernel_rfl) (fun _ _ _ h => h) (Or.inl ⟨by rfl, ?_⟩) (by assumption) ?_
          rotate_left
          · intro W hSW; (try dsimp only at hSW); go_simp; (first | done | with_reducible rfl)
          simp only [Act.put, List.getElem_toArray, List.getElem_cons_zero, List.getElem_cons_succ, List.setIfInBounds_toArray, List.set_cons_zero, List.set_cons_succ]
          refine wpAnyH_take (i := 19) (v := ?_) rfl (by kernel_rfl) (by kernel_rfl) (by kernel_rfl) (fun _ _ _ h => h) (Or.inl ⟨by rfl, ?_⟩) (by assumption) ?_
          rotate_left
          · intro W hSW; (try dsimp only at hSW); go_simp; (first | done | with_reducible rfl)
          simp only [Act.put, List.getElem_toArray, List.getElem_cons_zero, List.getElem_cons_succ, List.setIfInBounds_toArray, List.set_cons_zero, List.set_cons_succ]
          refine wpAnyH_take (i := 20) (v := ?_) rfl (by kernel_rfl) (by kernel_rfl) (by kernel_rfl) (fun _ _ _ h => h) (Or.inl ⟨by rfl, ?_⟩) (by assumption) ?_
          rotate_left
          · intro W hSW; (try dsimp only at hSW); go_simp; (first | done | with_reducible rfl)
          simp only [Act.put, List.getElem_toArray, List.getElem_cons_zero, List.getElem_cons_succ, List.setIfInBounds_toArray, List.set_cons_zero, List.set_cons_succ]
          refine wpAnyH_ready (rs := [22]) (by kernel_rfl) (by simp) ?_
          refine (AllReadyH.cons rfl (fun K hK => ?_) AllReadyH.nil)
          have s0 := sp.at 0 _ rfl
          have q0 := sp.free 0
          have s1 := sp.at 1 _ rfl
          have q1 := sp.free 1
          go_simp
          refine held_put2 hK.out hS sp ?_ ?_ ?_
          · omega
          · omega
          clear hS hK sp s0 s1 q0 q1
          intro X hS
          try simp only [Act.put, List.getElem_toArray, List.getElem_cons_zero, List.getElem_cons_succ, List.setIfInBounds_toArray, List.set_cons_zero, List.set_cons_succ]
          refine wpAnyH_take (i := 23) (v := ?_) rfl (by kernel_rfl) (by kernel_rfl) (by kernel_rfl) (fun _ _ _ h => h) (Or.inl ⟨by rfl, ?_⟩) (by assumption) ?_
          rotate_left
          · intro W hSW; (try dsimp only at hSW); go_simp; (first | done | with_reducible rfl)
          simp only [Act.put, List.getElem_toArray, List.getElem_cons_zero, List.getElem_cons_succ, List.setIfInBounds_toArray, List.set_cons_zero, List.set_cons_succ]
          refine wpAnyH_done (by kernel_rfl) ?_ _
          go_wp2_with fail
          go_meet
          exact ⟨rfl, hS⟩
  case rest =>
    obtain ⟨rfl, hk9, m9⟩ := hcut
    replace hk := hk9
    replace m := m9
    clear hk9 m9 HL
    have hml := m.lt
    have hwc := hk.size
    have hw3 : IntKind.i64.wrap (-(1073741824 + d)) = -(1073741824 + d) := by rw [IntKind.wrap_i64]; omega
    have hw4 : IntKind.i64.wrap (4294967296 + d) = 4294967296 + d := by rw [IntKind.wrap_i64]; omega
    have hw5 : IntKind.i64.wrap (-4294967296 - d) = -4294967296 - d := by rw [IntKind.wrap_i64]; omega
    have hw6 : IntKind.i64.wrap (1 + d) = 1 + d := by rw [IntKind.wrap_i64]; omega
    go_upto_region 10 with fail
    refine code_boxes3 ?_
    intro X hX i r b
    have hsz := hk.size
    replace hk := hk.trans hX
    replace m := m.kept hX
    clear hX
    rcases (by omega : j = 0 ∨ j = 1 ∨ j = 2 ∨ j = 3 ∨ j = 4 ∨ j = 5 ∨ j = 6 ∨ j = 7) with rfl | rfl | rfl | rfl | rfl | rfl | rfl | rfl
    · skip
      have hj := HJ.out
      have HP := Lib.hid (fun wx (hx : Tab wx) => by have := phys_any 0 0 (-d) 0 0 0 0 0 wx hx; rw [physS_no (by omega)] at this; exact this)
      have HB := Lib.hid (fun wx (hx : Tab wx) => by have := back_any 0 0 (-d) 0 0 0 0 0 wx hx; rw [backS_no (by omega)] at this; exact this)
      replace m_l := m.lt
      replace m_0 := m.at 0 _ rfl
      replace m_f0 := m.free 0
      replace m_1 := m.at 1 _ rfl
      replace m_f1 := m.free 1
      replace i_l := i.lt
      replace i_0 := i.at 0 _ rfl
      replace i_f0 := i.free 0
      replace i_1 := i.at 1 _ rfl
      replace i_f1 := i.free 1
      replace r_l := r.lt
      replace r_0 := r.at 0 _ rfl
      replace r_f0 := r.free 0
      replace r_1 := r.at 1 _ rfl
      replace r_f1 := r.free 1
      replace r_2 := r.at 2 _ rfl
      replace r_f2 := r.free 2
      replace r_3 := r.at 3 _ rfl
      replace r_f3 := r.free 3
      replace b_l := b.lt
      replace b_0 := b.at 0 _ rfl
      replace b_f0 := b.free 0
      replace b_1 := b.at 1 _ rfl
      replace b_f1 := b.free 1
      replace b_2 := b.at 2 _ rfl
      replace b_f2 := b.free 2
      replace b_3 := b.at 3 _ rfl
      replace b_f3 := b.free 3
      go_wp2_with fail
      refine with_eq ?_
      intro X eX
      have hsz := hk.size
      replace hk := (eX ▸ (by first | ((repeat (first | with_reducible exact hk | with_reducible refine Kept.alloc ?_ _ | with_reducible refine Kept.drew ?_ | with_reducible refine Kept.drewN ?_ _ | with_reducible refine Kept.set ?_ (by first | (simp; done) | (simp; omega) | omega) _)); done) | exact hk | exact (hk.alloc _) | exact ((hk.alloc _).alloc _) | exact (((hk.alloc _).alloc _).alloc _) | exact ((((hk.alloc _).alloc _).alloc _).alloc _) | exact (((((hk.alloc _).alloc _).alloc _).alloc _).alloc _) | exact ((((((hk.alloc _).alloc _).alloc _).alloc _).alloc _).alloc _) | (repeat (first | exact hk | refine Kept.alloc ?_ _ | refine Kept.drew ?_ | refine Kept.drewN ?_ _ | refine Kept.set ?_ (by first | (simp; done) | (simp; omega) | omega) _))) : Kept w X)
      replace m := m.same (X := X) (by rw [eX]; repeat (first | with_reducible rfl | with_reducible refine (Below.heap_setCell _ _ _ _ (by first | omega | (simp; done) | (simp; omega))).trans ?_ | with_reducible refine (heap_drew_ _ _).trans ?_ | with_reducible refine (heap_drewN_ _ _ _).trans ?_))
      replace i : Own X _ _ #[.int .i64 (-d), .int .i64 0] := eX ▸ (((i.set 0 _)).is (by rfl))
      replace r := r.same (X := X) (by rw [eX]; repeat (first | with_reducible rfl | with_reducible refine (Below.heap_setCell _ _ _ _ (by first | omega | (simp; done) | (simp; omega))).trans ?_ | with_reducible refine (heap_drew_ _ _).trans ?_ | with_reducible refine (heap_drewN_ _ _ _).trans ?_))
      replace b := b.same (X := X) (by rw [eX]; repeat (first | with_reducible rfl | with_reducible refine (Below.heap_setCell _ _ _ _ (by first | omega | (simp; done) | (simp; omega))).trans ?_ | with_reducible refine (heap_drew_ _ _).trans ?_ | with_reducible refine (heap_drewN_ _ _ _).trans ?_))
      clear eX
      go_wp2_with fail
      refine (HP.out _ (ht.kept hk)).mono ?_
      rintro e w1 ⟨rfl, hn⟩
      replace hk := hk.trans hn
      replace m := m.kept hn
      replace i := i.kept hn
      replace r := r.kept hn
      replace b := b.kept hn
      clear hn
      clear r
      replace m_l := m.lt
      replace m_0 := m.at 0 _ rfl
      replace m_f0 := m.free 0
      replace m_1 := m.at 1 _ rfl
      replace m_f1 := m.free 1
      replace i_l := i.lt
      replace i_0 := i.at 0 _ rfl
      replace i_f0 := i.free 0
      replace i_1 := i.at 1 _ rfl
      replace i_f1 := i.free 1
      replace b_l := b.lt
      replace b_0 := b.at 0 _ rfl
      replace b_f0 := b.free 0
      replace b_1 := b.at 1 _ rfl
      replace b_f1 := b.free 1
      replace b_2 := b.at 2 _ rfl
      replace b_f2 := b.free 2
      replace b_3 := b.at 3 _ rfl
      replace b_f3 := b.free 3
      go_wp2_with fail
      refine with_boxes1 ?_
      intro X hX p
      have hsz := hk.size
      replace hk := hk.trans hX
      replace m := m.kept hX
      replace i := i.kept hX
      replace b := b.kept hX
      clear hX
      replace p_l := p.lt
      replace p_0 := p.at 0 _ rfl
      replace p_1 := p.at 1 _ rfl
      replace p_2 := p.at 2 _ rfl
      replace p_3 := p.at 3 _ rfl
      refine (HB.out _ (ht.kept hk)).mono ?_
      rintro e w1 ⟨rfl, hn⟩
      replace hk := hk.trans hn
      replace m := m.kept hn
      replace i := i.kept hn
      replace b := b.kept hn
      replace p := p.kept hn
      clear hn
      replace p_l := p.lt
      replace p_0 := p.at 0 _ rfl
      replace p_1 := p.at 1 _ rfl
      replace p_2 := p.at 2 _ rfl
      replace p_3 := p.at 3 _ rfl
      clear m i b
      go_wp2_with fail
      refine with_boxes1 ?_
      intro X hX q
      have hsz := hk.size
      replace hk := hk.trans hX
      replace p := p.kept hX
      clear hX
      replace p_l := p.lt
      replace p_0 := p.at 0 _ rfl
      replace p_1 := p.at 1 _ rfl
      replace p_2 := p.at 2 _ rfl
      replace p_3 := p.at 3 _ rfl
      replace q_l := q.lt
      replace q_0 := q.at 0 _ rfl
      replace q_1 := q.at 1 _ rfl
      replace q_2 := q.at 2 _ rfl
      replace q_3 := q.at 3 _ rfl
      refine (num_any _ _).mono ?_
      rintro e w1 ⟨rfl, rfl⟩
      go_wp2_with fail
      refine (num_any _ _).mono ?_
      rintro e w1 ⟨rfl, rfl⟩
      go_wp2_with fail
      refine (num_any _ _).mono ?_
      rintro e w1 ⟨rfl, rfl⟩
      go_wp2
      go_ret
      exact ⟨rfl, hk⟩
    · skip
      have hj := HJ.out
      have HP := Lib.hid (fun wx (hx : Tab wx) => by have := phys_any 0 0 0 (1073741824 + d) 0 0 0 0 wx hx; rw [physS_no (by omega)] at this; exact this)
      have HB := Lib.hid (fun wx (hx : Tab wx) => by have := back_any 0 0 0 (1073741824 + d) 0 0 0 0 wx hx; rw [backS_no (by omega)] at this; exact this)
      replace m_l := m.lt
      replace m_0 := m.at 0 _ rfl
      replace m_f0 := m.free 0
      replace m_1 := m.at 1 _ rfl
      replace m_f1 := m.free 1
      replace i_l := i.lt
      replace i_0 := i.at 0 _ rfl
      replace i_f0 := i.free 0
      replace i_1 := i.at 1 _ rfl
      replace i_f1 := i.free 1
      replace r_l := r.lt
      replace r_0 := r.at 0 _ rfl
      replace r_f0 := r.free 0
      replace r_1 := r.at 1 _ rfl
      replace r_f1 := r.free 1
      replace r_2 := r.at 2 _ rfl
      replace r_f2 := r.free 2
      replace r_3 := r.at 3 _ rfl
      replace r_f3 := r.free 3
      replace b_l := b.lt
      replace b_0 := b.at 0 _ rfl
      replace b_f0 := b.free 0
      replace b_1 := b.at 1 _ rfl
      replace b_f1 := b.free 1
      replace b_2 := b.at 2 _ rfl
      replace b_f2 := b.free 2
      replace b_3 := b.at 3 _ rfl
      replace b_f3 := b.free 3
      go_wp2_with fail
      refine with_eq ?_
      intro X eX
      have hsz := hk.size
      replace hk := (eX ▸ (by first | ((repeat (first | with_reducible exact hk | with_reducible refine Kept.alloc ?_ _ | with_reducible refine Kept.drew ?_ | with_reducible refine Kept.drewN ?_ _ | with_reducible refine Kept.set ?_ (by first | (simp; done) | (simp; omega) | omega) _)); done) | exact hk | exact (hk.alloc _) | exact ((hk.alloc _).alloc _) | exact (((hk.alloc _).alloc _).alloc _) | exact ((((hk.alloc _).alloc _).alloc _).alloc _) | exact (((((hk.alloc _).alloc _).alloc _).alloc _).alloc _) | exact ((((((hk.alloc _).alloc _).alloc _).alloc _).alloc _).alloc _) | (repeat (first | exact hk | refine Kept.alloc ?_ _ | refine Kept.drew ?_ | refine Kept.drewN ?_ _ | refine Kept.set ?_ (by first | (simp; done) | (simp; omega) | omega) _))) : Kept w X)
      replace m := m.same (X := X) (by rw [eX]; repeat (first | with_reducible rfl | with_reducible refine (Below.heap_setCell _ _ _ _ (by first | omega | (simp; done) | (simp; omega))).trans ?_ | with_reducible refine (heap_drew_ _ _).trans ?_ | with_reducible refine (heap_drewN_ _ _ _).trans ?_))
      replace i : Own X _ _ #[.int .i64 0, .int .i64 (1073741824 + d)] := eX ▸ (((i.set 1 _)).is (by rfl))
      replace r := r.same (X := X) (by rw [eX]; repeat (first | with_reducible rfl | with_reducible refine (Below.heap_setCell _ _ _ _ (by first | omega | (simp; done) | (simp; omega))).trans ?_ | with_reducible refine (heap_drew_ _ _).trans ?_ | with_reducible refine (heap_drewN_ _ _ _).trans ?_))
      replace b := b.same (X := X) (by rw [eX]; repeat (first | with_reducible rfl | with_reducible refine (Below.heap_setCell _ _ _ _ (by first | omega | (simp; done) | (simp; omega))).trans ?_ | with_reducible refine (heap_drew_ _ _).trans ?_ | with_reducible refine (heap_drewN_ _ _ _).trans ?_))
      clear eX
      go_wp2_with fail
      refine (HP.out _ (ht.kept hk)).mono ?_
      rintro e w1 ⟨rfl, hn⟩
      replace hk := hk.trans hn
      replace m := m.kept hn
      replace i := i.kept hn
      replace r := r.kept hn
      replace b := b.kept hn
      clear hn
      clear r
      replace m_l := m.lt
      replace m_0 := m.at 0 _ rfl
      replace m_f0 := m.free 0
      replace m_1 := m.at 1 _ rfl
      replace m_f1 := m.free 1
      replace i_l := i.lt
      replace i_0 := i.at 0 _ rfl
      replace i_f0 := i.free 0
      replace i_1 := i.at 1 _ rfl
      replace i_f1 := i.free 1
      replace b_l := b.lt
      replace b_0 := b.at 0 _ rfl
      replace b_f0 := b.free 0
      replace b_1 := b.at 1 _ rfl
      replace b_f1 := b.free 1
      replace b_2 := b.at 2 _ rfl
      replace b_f2 := b.free 2
      replace b_3 := b.at 3 _ rfl
      replace b_f3 := b.free 3
      go_wp2_with fail
      refine with_boxes1 ?_
      intro X hX p
      have hsz := hk.size
      replace hk := hk.trans hX
      replace m := m.kept hX
      replace i := i.kept hX
      replace b := b.kept hX
      clear hX
      replace p_l := p.lt
      replace p_0 := p.at 0 _ rfl
      replace p_1 := p.at 1 _ rfl
      replace p_2 := p.at 2 _ rfl
      replace p_3 := p.at 3 _ rfl
      refine (HB.out _ (ht.kept hk)).mono ?_
      rintro e w1 ⟨rfl, hn⟩
      replace hk := hk.trans hn
      replace m := m.kept hn
      replace i := i.kept hn
      replace b := b.kept hn
      replace p := p.kept hn
      clear hn
      replace p_l := p.lt
      replace p_0 := p.at 0 _ rfl
      replace p_1 := p.at 1 _ rfl
      replace p_2 := p.at 2 _ rfl
      replace p_3 := p.at 3 _ rfl
      clear m i b
      go_wp2_with fail
      refine with_boxes1 ?_
      intro X hX q
      have hsz := hk.size
      replace hk := hk.trans hX
      replace p := p.kept hX
      clear hX
      replace p_l := p.lt
      replace p_0 := p.at 0 _ rfl
      replace p_1 := p.at 1 _ rfl
      replace p_2 := p.at 2 _ rfl
      replace p_3 := p.at 3 _ rfl
      replace q_l := q.lt
      replace q_0 := q.at 0 _ rfl
      replace q_1 := q.at 1 _ rfl
      replace q_2 := q.at 2 _ rfl
      replace q_3 := q.at 3 _ rfl
      refine (num_any _ _).mono ?_
      rintro e w1 ⟨rfl, rfl⟩
      go_wp2_with fail
      refine (num_any _ _).mono ?_
      rintro e w1 ⟨rfl, rfl⟩
      go_wp2_with fail
      refine (num_any _ _).mono ?_
      rintro e w1 ⟨rfl, rfl⟩
      go_wp2
      go_ret
      exact ⟨rfl, hk⟩
    · skip
      have hj := HJ.out
      have HP := Lib.hid (fun wx (hx : Tab wx) => by have := phys_any 0 0 0 0 0 0 (-d) 0 wx hx; rw [physS_no (by omega)] at this; exact this)
      have HB := Lib.hid (fun wx (hx : Tab wx) => by have := back_any 0 0 0 0 0 0 (-d) 0 wx hx; rw [backS_no (by omega)] at this; exact this)
      replace m_l := m.lt
      replace m_0 := m.at 0 _ rfl
      replace m_f0 := m.free 0
      replace m_1 := m.at 1 _ rfl
      replace m_f1 := m.free 1
      replace i_l := i.lt
      replace i_0 := i.at 0 _ rfl
      replace i_f0 := i.free 0
      replace i_1 := i.at 1 _ rfl
      replace i_f1 := i.free 1
      replace r_l := r.lt
      replace r_0 := r.at 0 _ rfl
      replace r_f0 := r.free 0
      replace r_1 := r.at 1 _ rfl
      replace r_f1 := r.free 1
      replace r_2 := r.at 2 _ rfl
      replace r_f2 := r.free 2
      replace r_3 := r.at 3 _ rfl
      replace r_f3 := r.free 3
      replace b_l := b.lt
      replace b_0 := b.at 0 _ rfl
      replace b_f0 := b.free 0
      replace b_1 := b.at 1 _ rfl
      replace b_f1 := b.free 1
      replace b_2 := b.at 2 _ rfl
      replace b_f2 := b.free 2
      replace b_3 := b.at 3 _ rfl
      replace b_f3 := b.free 3
      go_wp2_with fail
      refine with_eq ?_
      intro X eX
      have hsz := hk.size
      replace hk := (eX ▸ (by first | ((repeat (first | with_reducible exact hk | with_reducible refine Kept.alloc ?_ _ | with_reducible refine Kept.drew ?_ | with_reducible refine Kept.drewN ?_ _ | with_reducible refine Kept.set ?_ (by first | (simp; done) | (simp; omega) | omega) _)); done) | exact hk | exact (hk.alloc _) | exact ((hk.alloc _).alloc _) | exact (((hk.alloc _).alloc _).alloc _) | exact ((((hk.alloc _).alloc _).alloc _).alloc _) | exact (((((hk.alloc _).alloc _).alloc _).alloc _).alloc _) | exact ((((((hk.alloc _).alloc _).alloc _).alloc _).alloc _).alloc _) | (repeat (first | exact hk | refine Kept.alloc ?_ _ | refine Kept.drew ?_ | refine Kept.drewN ?_ _ | refine Kept.set ?_ (by first | (simp; done) | (simp; omega) | omega) _))) : Kept w X)
      replace m := m.same (X := X) (by rw [eX]; repeat (first | with_reducible rfl | with_reducible refine (Below.heap_setCell _ _ _ _ (by first | omega | (simp; done) | (simp; omega))).trans ?_ | with_reducible refine (heap_drew_ _ _).trans ?_ | with_reducible refine (heap_drewN_ _ _ _).trans ?_))
      replace i := i.same (X := X) (by rw [eX]; repeat (first | with_reducible rfl | with_reducible refine (Below.heap_setCell _ _ _ _ (by first | omega | (simp; done) | (simp; omega))).trans ?_ | with_reducible refine (heap_drew_ _ _).trans ?_ | with_reducible refine (heap_drewN_ _ _ _).trans ?_))
      replace r : Own X _ _ #[.int .i64 0, .int .i64 0, .int .i64 (-d), .int .i64 0] := eX ▸ (((r.set 2 _).other (by first | omega | (simp; done) | (simp; omega)) _).is (by rfl))
      replace b : Own X _ _ #[.int .i64 0, .int .i64 0, .int .i64 (-d), .int .i64 0] := eX ▸ (((b.other (by first | omega | (simp; done) | (simp; omega)) _).set 2 _).is (by rfl))
      clear eX
      go_wp2_with fail
      refine (HP.out _ (ht.kept hk)).mono ?_
      rintro e w1 ⟨rfl, hn⟩
      replace hk := hk.trans hn
      replace m := m.kept hn
      replace i := i.kept hn
      replace r := r.kept hn
      replace b := b.kept hn
      clear hn
      clear r
      replace m_l := m.lt
      replace m_0 := m.at 0 _ rfl
      replace m_f0 := m.free 0
      replace m_1 := m.at 1 _ rfl
      replace m_f1 := m.free 1
      replace i_l := i.lt
      replace i_0 := i.at 0 _ rfl
      replace i_f0 := i.free 0
      replace i_1 := i.at 1 _ rfl
      replace i_f1 := i.free 1
      replace b_l := b.lt
      replace b_0 := b.at 0 _ rfl
      replace b_f0 := b.free 0
      replace b_1 := b.at 1 _ rfl
      replace b_f1 := b.free 1
      replace b_2 := b.at 2 _ rfl
      replace b_f2 := b.free 2
      replace b_3 := b.at 3 _ rfl
      replace b_f3 := b.free 3
      go_wp2_with fail
      refine with_boxes1 ?_
      intro X hX p
      have hsz := hk.size
      replace hk := hk.trans hX
      replace m := m.kept hX
      replace i := i.kept hX
      replace b := b.kept hX
      clear hX
      replace p_l := p.lt
      replace p_0 := p.at 0 _ rfl
      replace p_1 := p.at 1 _ rfl
      replace p_2 := p.at 2 _ rfl
      replace p_3 := p.at 3 _ rfl
      refine (HB.out _ (ht.kept hk)).mono ?_
      rintro e w1 ⟨rfl, hn⟩
      replace hk := hk.trans hn
      replace m := m.kept hn
      replace i := i.kept hn
      replace b := b.kept hn
      replace p := p.kept hn
      clear hn
      replace p_l := p.lt
      replace p_0 := p.at 0 _ rfl
      replace p_1 := p.at 1 _ rfl
      replace p_2 := p.at 2 _ rfl
      replace p_3 := p.at 3 _ rfl
      clear m i b
      go_wp2_with fail
      refine with_boxes1 ?_
      intro X hX q
      have hsz := hk.size
      replace hk := hk.trans hX
      replace p := p.kept hX
      clear hX
      replace p_l := p.lt
      replace p_0 := p.at 0 _ rfl
      replace p_1 := p.at 1 _ rfl
      replace p_2 := p.at 2 _ rfl
      replace p_3 := p.at 3 _ rfl
      replace q_l := q.lt
      replace q_0 := q.at 0 _ rfl
      replace q_1 := q.at 1 _ rfl
      replace q_2 := q.at 2 _ rfl
      replace q_3 := q.at 3 _ rfl
      refine (num_any _ _).mono ?_
      rintro e w1 ⟨rfl, rfl⟩
      go_wp2_with fail
      refine (num_any _ _).mono ?_
      rintro e w1 ⟨rfl, rfl⟩
      go_wp2_with fail
      refine (num_any _ _).mono ?_
      rintro e w1 ⟨rfl, rfl⟩
      go_wp2
      go_ret
      exact ⟨rfl, hk⟩
    · skip
      have hj := HJ.out
      have HP := Lib.hid (fun wx (hx : Tab wx) => by have := phys_any 0 0 0 0 0 0 0 (1073741824 + d) wx hx; rw [physS_no (by omega)] at this; exact this)
      have HB := Lib.hid (fun wx (hx : Tab wx) => by have := back_any 0 0 0 0 0 0 0 (1073741824 + d) wx hx; rw [backS_no (by omega)] at this; exact this)
      replace m_l := m.lt
      replace m_0 := m.at 0 _ rfl
      replace m_f0 := m.free 0
      replace m_1 := m.at 1 _ rfl
      replace m_f1 := m.free 1
      replace i_l := i.lt
      replace i_0 := i.at 0 _ rfl
      replace i_f0 := i.free 0
      replace i_1 := i.at 1 _ rfl
      replace i_f1 := i.free 1
      replace r_l := r.lt
      replace r_0 := r.at 0 _ rfl
      replace r_f0 := r.free 0
      replace r_1 := r.at 1 _ rfl
      replace r_f1 := r.free 1
      replace r_2 := r.at 2 _ rfl
      replace r_f2 := r.free 2
      replace r_3 := r.at 3 _ rfl
      replace r_f3 := r.free 3
      replace b_l := b.lt
      replace b_0 := b.at 0 _ rfl
      replace b_f0 := b.free 0
      replace b_1 := b.at 1 _ rfl
      replace b_f1 := b.free 1
      replace b_2 := b.at 2 _ rfl
      replace b_f2 := b.free 2
      replace b_3 := b.at 3 _ rfl
      replace b_f3 := b.free 3
      go_wp2_with fail
      refine with_eq ?_
      intro X eX
      have hsz := hk.size
      replace hk := (eX ▸ (by first | ((repeat (first | with_reducible exact hk | with_reducible refine Kept.alloc ?_ _ | with_reducible refine Kept.drew ?_ | with_reducible refine Kept.drewN ?_ _ | with_reducible refine Kept.set ?_ (by first | (simp; done) | (simp; omega) | omega) _)); done) | exact hk | exact (hk.alloc _) | exact ((hk.alloc _).alloc _) | exact (((hk.alloc _).alloc _).alloc _) | exact ((((hk.alloc _).alloc _).alloc _).alloc _) | exact (((((hk.alloc _).alloc _).alloc _).alloc _).alloc _) | exact ((((((hk.alloc _).alloc _).alloc _).alloc _).alloc _).alloc _) | (repeat (first | exact hk | refine Kept.alloc ?_ _ | refine Kept.drew ?_ | refine Kept.drewN ?_ _ | refine Kept.set ?_ (by first | (simp; done) | (simp; omega) | omega) _))) : Kept w X)
      replace m := m.same (X := X) (by rw [eX]; repeat (first | with_reducible rfl | with_reducible refine (Below.heap_setCell _ _ _ _ (by first | omega | (simp; done) | (simp; omega))).trans ?_ | with_reducible refine (heap_drew_ _ _).trans ?_ | with_reducible refine (heap_drewN_ _ _ _).trans ?_))
      replace i := i.same (X := X) (by rw [eX]; repeat (first | with_reducible rfl | with_reducible refine (Below.heap_setCell _ _ _ _ (by first | omega | (simp; done) | (simp; omega))).trans ?_ | with_reducible refine (heap_drew_ _ _).trans ?_ | with_reducible refine (heap_drewN_ _ _ _).trans ?_))
      replace r : Own X _ _ #[.int .i64 0, .int .i64 0, .int .i64 0, .int .i64 (1073741824 + d)] := eX ▸ (((r.set 3 _).other (by first | omega | (simp; done) | (simp; omega)) _).is (by rfl))
      replace b : Own X _ _ #[.int .i64 0, .int .i64 0, .int .i64 0, .int .i64 (1073741824 + d)] := eX ▸ (((b.other (by first | omega | (simp; done) | (simp; omega)) _).set 3 _).is (by rfl))
      clear eX
      go_wp2_with fail
      refine (HP.out _ (ht.kept hk)).mono ?_
      rintro e w1 ⟨rfl, hn⟩
      replace hk := hk.trans hn
      replace m := m.kept hn
      replace i := i.kept hn
      replace r := r.kept hn
      replace b := b.kept hn
      clear hn
      clear r
      replace m_l := m.lt
      replace m_0 := m.at 0 _ rfl
      replace m_f0 := m.free 0
      replace m_1 := m.at 1 _ rfl
      replace m_f1 := m.free 1
      replace i_l := i.lt
      replace i_0 := i.at 0 _ rfl
      replace i_f0 := i.free 0
      replace i_1 := i.at 1 _ rfl
      replace i_f1 := i.free 1
      replace b_l := b.lt
      replace b_0 := b.at 0 _ rfl
      replace b_f0 := b.free 0
      replace b_1 := b.at 1 _ rfl
      replace b_f1 := b.free 1
      replace b_2 := b.at 2 _ rfl
      replace b_f2 := b.free 2
      replace b_3 := b.at 3 _ rfl
      replace b_f3 := b.free 3
      go_wp2_with fail
      refine with_boxes1 ?_
      intro X hX p
      have hsz := hk.size
      replace hk := hk.trans hX
      replace m := m.kept hX
      replace i := i.kept hX
      replace b := b.kept hX
      clear hX
      replace p_l := p.lt
      replace p_0 := p.at 0 _ rfl
      replace p_1 := p.at 1 _ rfl
      replace p_2 := p.at 2 _ rfl
      replace p_3 := p.at 3 _ rfl
      refine (HB.out _ (ht.kept hk)).mono ?_
      rintro e w1 ⟨rfl, hn⟩
      replace hk := hk.trans hn
      replace m := m.kept hn
      replace i := i.kept hn
      replace b := b.kept hn
      replace p := p.kept hn
      clear hn
      replace p_l := p.lt
      replace p_0 := p.at 0 _ rfl
      replace p_1 := p.at 1 _ rfl
      replace p_2 := p.at 2 _ rfl
      replace p_3 := p.at 3 _ rfl
      clear m i b
      go_wp2_with fail
      refine with_boxes1 ?_
      intro X hX q
      have hsz := hk.size
      replace hk := hk.trans hX
      replace p := p.kept hX
      clear hX
      replace p_l := p.lt
      replace p_0 := p.at 0 _ rfl
      replace p_1 := p.at 1 _ rfl
      replace p_2 := p.at 2 _ rfl
      replace p_3 := p.at 3 _ rfl
      replace q_l := q.lt
      replace q_0 := q.at 0 _ rfl
      replace q_1 := q.at 1 _ rfl
      replace q_2 := q.at 2 _ rfl
      replace q_3 := q.at 3 _ rfl
      refine (num_any _ _).mono ?_
      rintro e w1 ⟨rfl, rfl⟩
      go_wp2_with fail
      refine (num_any _ _).mono ?_
      rintro e w1 ⟨rfl, rfl⟩
      go_wp2_with fail
      refine (num_any _ _).mono ?_
      rintro e w1 ⟨rfl, rfl⟩
      go_wp2
      go_ret
      exact ⟨rfl, hk⟩
    · skip
      have hj := HJ.out
      have HP := Lib.hid (fun wx (hx : Tab wx) => by have := phys_any 0 0 0 0 (1073741824 + d) 0 0 0 wx hx; rw [physS_no (by omega)] at this; exact this)
      have HB := Lib.hid (fun wx (hx : Tab wx) => by have := back_any 0 0 0 0 (4294967296 + d) 0 0 0 wx hx; rw [backS_no (by omega)] at this; exact this)
      replace m_l := m.lt
      replace m_0 := m.at 0 _ rfl
      replace m_f0 := m.free 0
      replace m_1 := m.at 1 _ rfl
      replace m_f1 := m.free 1
      replace i_l := i.lt
      replace i_0 := i.at 0 _ rfl
      replace i_f0 := i.free 0
      replace i_1 := i.at 1 _ rfl
      replace i_f1 := i.free 1
      replace r_l := r.lt
      replace r_0 := r.at 0 _ rfl
      replace r_f0 := r.free 0
      replace r_1 := r.at 1 _ rfl
      replace r_f1 := r.free 1
      replace r_2 := r.at 2 _ rfl
      replace r_f2 := r.free 2
      replace r_3 := r.at 3 _ rfl
      replace r_f3 := r.free 3
      replace b_l := b.lt
      replace b_0 := b.at 0 _ rfl
      replace b_f0 := b.free 0
      replace b_1 := b.at 1 _ rfl
      replace b_f1 := b.free 1
      replace b_2 := b.at 2 _ rfl
      replace b_f2 := b.free 2
      replace b_3 := b.at 3 _ rfl
      replace b_f3 := b.free 3
      go_wp2_with fail
      refine with_eq ?_
      intro X eX
      have hsz := hk.size
      replace hk := (eX ▸ (by first | ((repeat (first | with_reducible exact hk | with_reducible refine Kept.alloc ?_ _ | with_reducible refine Kept.drew ?_ | with_reducible refine Kept.drewN ?_ _ | with_reducible refine Kept.set ?_ (by first | (simp; done) | (simp; omega) | omega) _)); done) | exact hk | exact (hk.alloc _) | exact ((hk.alloc _).alloc _) | exact (((hk.alloc _).alloc _).alloc _) | exact ((((hk.alloc _).alloc _).alloc _).alloc _) | exact (((((hk.alloc _).alloc _).alloc _).alloc _).alloc _) | exact ((((((hk.alloc _).alloc _).alloc _).alloc _).alloc _).alloc _) | (repeat (first | exact hk | refine Kept.alloc ?_ _ | refine Kept.drew ?_ | refine Kept.drewN ?_ _ | refine Kept.set ?_ (by first | (simp; done) | (simp; omega) | omega) _))) : Kept w X)
      replace m := m.same (X := X) (by rw [eX]; repeat (first | with_reducible rfl | with_reducible refine (Below.heap_setCell _ _ _ _ (by first | omega | (simp; done) | (simp; omega))).trans ?_ | with_reducible refine (heap_drew_ _ _).trans ?_ | with_reducible refine (heap_drewN_ _ _ _).trans ?_))
      replace i := i.same (X := X) (by rw [eX]; repeat (first | with_reducible rfl | with_reducible refine (Below.heap_setCell _ _ _ _ (by first | omega | (simp; done) | (simp; omega))).trans ?_ | with_reducible refine (heap_drew_ _ _).trans ?_ | with_reducible refine (heap_drewN_ _ _ _).trans ?_))
      replace r : Own X _ _ #[.int .i64 (1073741824 + d), .int .i64 0, .int .i64 0, .int .i64 0] := eX ▸ (((r.set 0 _).other (by first | omega | (simp; done) | (simp; omega)) _).is (by rfl))
      replace b : Own X _ _ #[.int .i64 (4294967296 + d), .int .i64 0, .int .i64 0, .int .i64 0] := eX ▸ (((b.other (by first | omega | (simp; done) | (simp; omega)) _).set 0 _).is (by rfl))
      clear eX
      go_wp2_with fail
      refine (HP.out _ (ht.kept hk)).mono ?_
      rintro e w1 ⟨rfl, hn⟩
      replace hk := hk.trans hn
      replace m := m.kept hn
      replace i := i.kept hn
      replace r := r.kept hn
      replace b := b.kept hn
      clear hn
      clear r
      replace m_l := m.lt
      replace m_0 := m.at 0 _ rfl
      replace m_f0 := m.free 0
      replace m_1 := m.at 1 _ rfl
      replace m_f1 := m.free 1
      replace i_l := i.lt
      replace i_0 := i.at 0 _ rfl
      replace i_f0 := i.free 0
      replace i_1 := i.at 1 _ rfl
      replace i_f1 := i.free 1
      replace b_l := b.lt
      replace b_0 := b.at 0 _ rfl
      replace b_f0 := b.free 0
      replace b_1 := b.at 1 _ rfl
      replace b_f1 := b.free 1
      replace b_2 := b.at 2 _ rfl
      replace b_f2 := b.free 2
      replace b_3 := b.at 3 _ rfl
      replace b_f3 := b.free 3
      go_wp2_with fail
      refine with_boxes1 ?_
      intro X hX p
      have hsz := hk.size
      replace hk := hk.trans hX
      replace m := m.kept hX
      replace i := i.kept hX
      replace b := b.kept hX
      clear hX
      replace p_l := p.lt
      replace p_0 := p.at 0 _ rfl
      replace p_1 := p.at 1 _ rfl
      replace p_2 := p.at 2 _ rfl
      replace p_3 := p.at 3 _ rfl
      refine (HB.out _ (ht.kept hk)).mono ?_
      rintro e w1 ⟨rfl, hn⟩
      replace hk := hk.trans hn
      replace m := m.kept hn
      replace i := i.kept hn
      replace b := b.kept hn
      replace p := p.kept hn
      clear hn
      replace p_l := p.lt
      replace p_0 := p.at 0 _ rfl
      replace p_1 := p.at 1 _ rfl
      replace p_2 := p.at 2 _ rfl
      replace p_3 := p.at 3 _ rfl
      clear m i b
      go_wp2_with fail
      refine with_boxes1 ?_
      intro X hX q
      have hsz := hk.size
      replace hk := hk.trans hX
      replace p := p.kept hX
      clear hX
      replace p_l := p.lt
      replace p_0 := p.at 0 _ rfl
      replace p_1 := p.at 1 _ rfl
      replace p_2 := p.at 2 _ rfl
      replace p_3 := p.at 3 _ rfl
      replace q_l := q.lt
      replace q_0 := q.at 0 _ rfl
      replace q_1 := q.at 1 _ rfl
      replace q_2 := q.at 2 _ rfl
      replace q_3 := q.at 3 _ rfl
      refine (num_any _ _).mono ?_
      rintro e w1 ⟨rfl, rfl⟩
      go_wp2_with fail
      refine (num_any _ _).mono ?_
      rintro e w1 ⟨rfl, rfl⟩
      go_wp2_with fail
      refine (num_any _ _).mono ?_
      rintro e w1 ⟨rfl, rfl⟩
      go_wp2
      go_ret
      exact ⟨rfl, hk⟩
    · skip
      have hj := HJ.out
      have HP := Lib.hid (fun wx (hx : Tab wx) => by have := phys_any 0 0 0 0 0 (-(1073741824 + d)) 0 0 wx hx; rw [physS_no (by omega)] at this; exact this)
      have HB := Lib.hid (fun wx (hx : Tab wx) => by have := back_any 0 0 0 0 0 (-4294967296 - d) 0 0 wx hx; rw [backS_no (by omega)] at this; exact this)
      replace m_l := m.lt
      replace m_0 := m.at 0 _ rfl
      replace m_f0 := m.free 0
      replace m_1 := m.at 1 _ rfl
      replace m_f1 := m.free 1
      replace i_l := i.lt
      replace i_0 := i.at 0 _ rfl
      replace i_f0 := i.free 0
      replace i_1 := i.at 1 _ rfl
      replace i_f1 := i.free 1
      replace r_l := r.lt
      replace r_0 := r.at 0 _ rfl
      replace r_f0 := r.free 0
      replace r_1 := r.at 1 _ rfl
      replace r_f1 := r.free 1
      replace r_2 := r.at 2 _ rfl
      replace r_f2 := r.free 2
      replace r_3 := r.at 3 _ rfl
      replace r_f3 := r.free 3
      replace b_l := b.lt
      replace b_0 := b.at 0 _ rfl
      replace b_f0 := b.free 0
      replace b_1 := b.at 1 _ rfl
      replace b_f1 := b.free 1
      replace b_2 := b.at 2 _ rfl
      replace b_f2 := b.free 2
      replace b_3 := b.at 3 _ rfl
      replace b_f3 := b.free 3
      go_wp2_with fail
      refine with_eq ?_
      intro X eX
      have hsz := hk.size
      replace hk := (eX ▸ (by first | ((repeat (first | with_reducible exact hk | with_reducible refine Kept.alloc ?_ _ | with_reducible refine Kept.drew ?_ | with_reducible refine Kept.drewN ?_ _ | with_reducible refine Kept.set ?_ (by first | (simp; done) | (simp; omega) | omega) _)); done) | exact hk | exact (hk.alloc _) | exact ((hk.alloc _).alloc _) | exact (((hk.alloc _).alloc _).alloc _) | exact ((((hk.alloc _).alloc _).alloc _).alloc _) | exact (((((hk.alloc _).alloc _).alloc _).alloc _).alloc _) | exact ((((((hk.alloc _).alloc _).alloc _).alloc _).alloc _).alloc _) | (repeat (first | exact hk | refine Kept.alloc ?_ _ | refine Kept.drew ?_ | refine Kept.drewN ?_ _ | refine Kept.set ?_ (by first | (simp; done) | (simp; omega) | omega) _))) : Kept w X)
      replace m := m.same (X := X) (by rw [eX]; repeat (first | with_reducible rfl | with_reducible refine (Below.heap_setCell _ _ _ _ (by first | omega | (simp; done) | (simp; omega))).trans ?_ | with_reducible refine (heap_drew_ _ _).trans ?_ | with_reducible refine (heap_drewN_ _ _ _).trans ?_))
      replace i := i.same (X := X) (by rw [eX]; repeat (first | with_reducible rfl | with_reducible refine (Below.heap_setCell _ _ _ _ (by first | omega | (simp; done) | (simp; omega))).trans ?_ | with_reducible refine (heap_drew_ _ _).trans ?_ | with_reducible refine (heap_drewN_ _ _ _).trans ?_))
      replace r : Own X _ _ #[.int .i64 0, .int .i64 (-(1073741824 + d)), .int .i64 0, .int .i64 0] := eX ▸ (((r.set 1 _).other (by first | omega | (simp; done) | (simp; omega)) _).is (by rfl))
      replace b : Own X _ _ #[.int .i64 0, .int .i64 (-4294967296 - d), .int .i64 0, .int .i64 0] := eX ▸ (((b.other (by first | omega | (simp; done) | (simp; omega)) _).set 1 _).is (by rfl))
      clear eX
      go_wp2_with fail
      refine (HP.out _ (ht.kept hk)).mono ?_
      rintro e w1 ⟨rfl, hn⟩
      replace hk := hk.trans hn
      replace m := m.kept hn
      replace i := i.kept hn
      replace r := r.kept hn
      replace b := b.kept hn
      clear hn
      clear r
      replace m_l := m.lt
      replace m_0 := m.at 0 _ rfl
      replace m_f0 := m.free 0
      replace m_1 := m.at 1 _ rfl
      replace m_f1 := m.free 1
      replace i_l := i.lt
      replace i_0 := i.at 0 _ rfl
      replace i_f0 := i.free 0
      replace i_1 := i.at 1 _ rfl
      replace i_f1 := i.free 1
      replace b_l := b.lt
      replace b_0 := b.at 0 _ rfl
      replace b_f0 := b.free 0
      replace b_1 := b.at 1 _ rfl
      replace b_f1 := b.free 1
      replace b_2 := b.at 2 _ rfl
      replace b_f2 := b.free 2
      replace b_3 := b.at 3 _ rfl
      replace b_f3 := b.free 3
      go_wp2_with fail
      refine with_boxes1 ?_
      intro X hX p
      have hsz := hk.size
      replace hk := hk.trans hX
      replace m := m.kept hX
      replace i := i.kept hX
      replace b := b.kept hX
      clear hX
      replace p_l := p.lt
      replace p_0 := p.at 0 _ rfl
      replace p_1 := p.at 1 _ rfl
      replace p_2 := p.at 2 _ rfl
      replace p_3 := p.at 3 _ rfl
      refine (HB.out _ (ht.kept hk)).mono ?_
      rintro e w1 ⟨rfl, hn⟩
      replace hk := hk.trans hn
      replace m := m.kept hn
      replace i := i.kept hn
      replace b := b.kept hn
      replace p := p.kept hn
      clear hn
      replace p_l := p.lt
      replace p_0 := p.at 0 _ rfl
      replace p_1 := p.at 1 _ rfl
      replace p_2 := p.at 2 _ rfl
      replace p_3 := p.at 3 _ rfl
      clear m i b
      go_wp2_with fail
      refine with_boxes1 ?_
      intro X hX q
      have hsz := hk.size
      replace hk := hk.trans hX
      replace p := p.kept hX
      clear hX
      replace p_l := p.lt
      replace p_0 := p.at 0 _ rfl
      replace p_1 := p.at 1 _ rfl
      replace p_2 := p.at 2 _ rfl
      replace p_3 := p.at 3 _ rfl
      replace q_l := q.lt
      replace q_0 := q.at 0 _ rfl
      replace q_1 := q.at 1 _ rfl
      replace q_2 := q.at 2 _ rfl
      replace q_3 := q.at 3 _ rfl
      refine (num_any _ _).mono ?_
      rintro e w1 ⟨rfl, rfl⟩
      go_wp2_with fail
      refine (num_any _ _).mono ?_
      rintro e w1 ⟨rfl, rfl⟩
      go_wp2_with fail
      refine (num_any _ _).mono ?_
      rintro e w1 ⟨rfl, rfl⟩
      go_wp2
      go_ret
      exact ⟨rfl, hk⟩
    · skip
      have hj := HJ.out
      have HP := Lib.hid (fun wx (hx : Tab wx) => by have := phys_any 0 0 0 0 0 0 (1073741824 + d) 0 wx hx; rw [physS_no (by omega)] at this; exact this)
      have HB := Lib.hid (fun wx (hx : Tab wx) => by have := back_any 0 0 0 0 0 0 (1073741824 + d) 0 wx hx; rw [backS_no (by omega)] at this; exact this)
      replace m_l := m.lt
      replace m_0 := m.at 0 _ rfl
      replace m_f0 := m.free 0
      replace m_1 := m.at 1 _ rfl
      replace m_f1 := m.free 1
      replace i_l := i.lt
      replace i_0 := i.at 0 _ rfl
      replace i_f0 := i.free 0
      replace i_1 := i.at 1 _ rfl
      replace i_f1 := i.free 1
      replace r_l := r.lt
      replace r_0 := r.at 0 _ rfl
      replace r_f0 := r.free 0
      replace r_1 := r.at 1 _ rfl
      replace r_f1 := r.free 1
      replace r_2 := r.at 2 _ rfl
      replace r_f2 := r.free 2
      replace r_3 := r.at 3 _ rfl
      replace r_f3 := r.free 3
      replace b_l := b.lt
      replace b_0 := b.at 0 _ rfl
      replace b_f0 := b.free 0
      replace b_1 := b.at 1 _ rfl
      replace b_f1 := b.free 1
      replace b_2 := b.at 2 _ rfl
      replace b_f2 := b.free 2
      replace b_3 := b.at 3 _ rfl
      replace b_f3 := b.free 3
      go_wp2_with fail
      refine with_eq ?_
      intro X eX
      have hsz := hk.size
      replace hk := (eX ▸ (by first | ((repeat (first | with_reducible exact hk | with_reducible refine Kept.alloc ?_ _ | with_reducible refine Kept.drew ?_ | with_reducible refine Kept.drewN ?_ _ | with_reducible refine Kept.set ?_ (by first | (simp; done) | (simp; omega) | omega) _)); done) | exact hk | exact (hk.alloc _) | exact ((hk.alloc _).alloc _) | exact (((hk.alloc _).alloc _).alloc _) | exact ((((hk.alloc _).alloc _).alloc _).alloc _) | exact (((((hk.alloc _).alloc _).alloc _).alloc _).alloc _) | exact ((((((hk.alloc _).alloc _).alloc _).alloc _).alloc _).alloc _) | (repeat (first | exact hk | refine Kept.alloc ?_ _ | refine Kept.drew ?_ | refine Kept.drewN ?_ _ | refine Kept.set ?_ (by first | (simp; done) | (simp; omega) | omega) _))) : Kept w X)
      replace m := m.same (X := X) (by rw [eX]; repeat (first | with_reducible rfl | with_reducible refine (Below.heap_setCell _ _ _ _ (by first | omega | (simp; done) | (simp; omega))).trans ?_ | with_reducible refine (heap_drew_ _ _).trans ?_ | with_reducible refine (heap_drewN_ _ _ _).trans ?_))
      replace i := i.same (X := X) (by rw [eX]; repeat (first | with_reducible rfl | with_reducible refine (Below.heap_setCell _ _ _ _ (by first | omega | (simp; done) | (simp; omega))).trans ?_ | with_reducible refine (heap_drew_ _ _).trans ?_ | with_reducible refine (heap_drewN_ _ _ _).trans ?_))
      replace r : Own X _ _ #[.int .i64 0, .int .i64 0, .int .i64 (1073741824 + d), .int .i64 0] := eX ▸ (((r.set 2 _).other (by first | omega | (simp; done) | (simp; omega)) _).is (by rfl))
      replace b : Own X _ _ #[.int .i64 0, .int .i64 0, .int .i64 (1073741824 + d), .int .i64 0] := eX ▸ (((b.other (by first | omega | (simp; done) | (simp; omega)) _).set 2 _).is (by rfl))
      clear eX
      go_wp2_with fail
      refine (HP.out _ (ht.kept hk)).mono ?_
      rintro e w1 ⟨rfl, hn⟩
      replace hk := hk.trans hn
      replace m := m.kept hn
      replace i := i.kept hn
      replace r := r.kept hn
      replace b := b.kept hn
      clear hn
      clear r
      replace m_l := m.lt
      replace m_0 := m.at 0 _ rfl
      replace m_f0 := m.free 0
      replace m_1 := m.at 1 _ rfl
      replace m_f1 := m.free 1
      replace i_l := i.lt
      replace i_0 := i.at 0 _ rfl
      replace i_f0 := i.free 0
      replace i_1 := i.at 1 _ rfl
      replace i_f1 := i.free 1
      replace b_l := b.lt
      replace b_0 := b.at 0 _ rfl
      replace b_f0 := b.free 0
      replace b_1 := b.at 1 _ rfl
      replace b_f1 := b.free 1
      replace b_2 := b.at 2 _ rfl
      replace b_f2 := b.free 2
      replace b_3 := b.at 3 _ rfl
      replace b_f3 := b.free 3
      go_wp2_with fail
      refine with_boxes1 ?_
      intro X hX p
      have hsz := hk.size
      replace hk := hk.trans hX
      replace m := m.kept hX
      replace i := i.kept hX
      replace b := b.kept hX
      clear hX
      replace p_l := p.lt
      replace p_0 := p.at 0 _ rfl
      replace p_1 := p.at 1 _ rfl
      replace p_2 := p.at 2 _ rfl
      replace p_3 := p.at 3 _ rfl
      refine (HB.out _ (ht.kept hk)).mono ?_
      rintro e w1 ⟨rfl, hn⟩
      replace hk := hk.trans hn
      replace m := m.kept hn
      replace i := i.kept hn
      replace b := b.kept hn
      replace p := p.kept hn
      clear hn
      replace p_l := p.lt
      replace p_0 := p.at 0 _ rfl
      replace p_1 := p.at 1 _ rfl
      replace p_2 := p.at 2 _ rfl
      replace p_3 := p.at 3 _ rfl
      clear m i b
      go_wp2_with fail
      refine with_boxes1 ?_
      intro X hX q
      have hsz := hk.size
      replace hk := hk.trans hX
      replace p := p.kept hX
      clear hX
      replace p_l := p.lt
      replace p_0 := p.at 0 _ rfl
      replace p_1 := p.at 1 _ rfl
      replace p_2 := p.at 2 _ rfl
      replace p_3 := p.at 3 _ rfl
      replace q_l := q.lt
      replace q_0 := q.at 0 _ rfl
      replace q_1 := q.at 1 _ rfl
      replace q_2 := q.at 2 _ rfl
      replace q_3 := q.at 3 _ rfl
      refine (num_any _ _).mono ?_
      rintro e w1 ⟨rfl, rfl⟩
      go_wp2_with fail
      refine (num_any _ _).mono ?_
      rintro e w1 ⟨rfl, rfl⟩
      go_wp2_with fail
      refine (num_any _ _).mono ?_
      rintro e w1 ⟨rfl, rfl⟩
      go_wp2
      go_ret
      exact ⟨rfl, hk⟩
    · skip
      have hj := HJ.out
      have HP := Lib.hid (fun wx (hx : Tab wx) => by have := phys_any 0 (1 + d) 0 0 0 0 0 0 wx hx; rw [physS_no (by omega)] at this; exact this)
      have HB := Lib.hid (fun wx (hx : Tab wx) => by have := back_any 0 (1 + d) 0 0 0 0 0 0 wx hx; rw [backS_no (by omega)] at this; exact this)
      replace m_l := m.lt
      replace m_0 := m.at 0 _ rfl
      replace m_f0 := m.free 0
      replace m_1 := m.at 1 _ rfl
      replace m_f1 := m.free 1
      replace i_l := i.lt
      replace i_0 := i.at 0 _ rfl
      replace i_f0 := i.free 0
      replace i_1 := i.at 1 _ rfl
      replace i_f1 := i.free 1
      replace r_l := r.lt
      replace r_0 := r.at 0 _ rfl
      replace r_f0 := r.free 0
      replace r_1 := r.at 1 _ rfl
      replace r_f1 := r.free 1
      replace r_2 := r.at 2 _ rfl
      replace r_f2 := r.free 2
      replace r_3 := r.at 3 _ rfl
      replace r_f3 := r.free 3
      replace b_l := b.lt
      replace b_0 := b.at 0 _ rfl
      replace b_f0 := b.free 0
      replace b_1 := b.at 1 _ rfl
      replace b_f1 := b.free 1
      replace b_2 := b.at 2 _ rfl
      replace b_f2 := b.free 2
      replace b_3 := b.at 3 _ rfl
      replace b_f3 := b.free 3
      go_wp2_with fail
      refine with_eq ?_
      intro X eX
      have hsz := hk.size
      replace hk := (eX ▸ (by first | ((repeat (first | with_reducible exact hk | with_reducible refine Kept.alloc ?_ _ | with_reducible refine Kept.drew ?_ | with_reducible refine Kept.drewN ?_ _ | with_reducible refine Kept.set ?_ (by first | (simp; done) | (simp; omega) | omega) _)); done) | exact hk | exact (hk.alloc _) | exact ((hk.alloc _).alloc _) | exact (((hk.alloc _).alloc _).alloc _) | exact ((((hk.alloc _).alloc _).alloc _).alloc _) | exact (((((hk.alloc _).alloc _).alloc _).alloc _).alloc _) | exact ((((((hk.alloc _).alloc _).alloc _).alloc _).alloc _).alloc _) | (repeat (first | exact hk | refine Kept.alloc ?_ _ | refine Kept.drew ?_ | refine Kept.drewN ?_ _ | refine Kept.set ?_ (by first | (simp; done) | (simp; omega) | omega) _))) : Kept w X)
      replace m : Own X _ _ #[.int .i64 0, .int .i64 (1 + d)] := eX ▸ (((m.set 1 _)).is (by rfl))
      replace i := i.same (X := X) (by rw [eX]; repeat (first | with_reducible rfl | with_reducible refine (Below.heap_setCell _ _ _ _ (by first | omega | (simp; done) | (simp; omega))).trans ?_ | with_reducible refine (heap_drew_ _ _).trans ?_ | with_reducible refine (heap_drewN_ _ _ _).trans ?_))
      replace r := r.same (X := X) (by rw [eX]; repeat (first | with_reducible rfl | with_reducible refine (Below.heap_setCell _ _ _ _ (by first | omega | (simp; done) | (simp; omega))).trans ?_ | with_reducible refine (heap_drew_ _ _).trans ?_ | with_reducible refine (heap_drewN_ _ _ _).trans ?_))
      replace b := b.same (X := X) (by rw [eX]; repeat (first | with_reducible rfl | with_reducible refine (Below.heap_setCell _ _ _ _ (by first | omega | (simp; done) | (simp; omega))).trans ?_ | with_reducible refine (heap_drew_ _ _).trans ?_ | with_reducible refine (heap_drewN_ _ _ _).trans ?_))
      clear eX
      go_wp2_with fail
      refine (HP.out _ (ht.kept hk)).mono ?_
      rintro e w1 ⟨rfl, hn⟩
      replace hk := hk.trans hn
      replace m := m.kept hn
      replace i := i.kept hn
      replace r := r.kept hn
      replace b := b.kept hn
      clear hn
      clear r
      replace m_l := m.lt
      replace m_0 := m.at 0 _ rfl
      replace m_f0 := m.free 0
      replace m_1 := m.at 1 _ rfl
      replace m_f1 := m.free 1
      replace i_l := i.lt
      replace i_0 := i.at 0 _ rfl
      replace i_f0 := i.free 0
      replace i_1 := i.at 1 _ rfl
      replace i_f1 := i.free 1
      replace b_l := b.lt
      replace b_0 := b.at 0 _ rfl
      replace b_f0 := b.free 0
      replace b_1 := b.at 1 _ rfl
      replace b_f1 := b.free 1
      replace b_2 := b.at 2 _ rfl
      replace b_f2 := b.free 2
      replace b_3 := b.at 3 _ rfl
      replace b_f3 := b.free 3
      go_wp2_with fail
      refine with_boxes1 ?_
      intro X hX p
      have hsz := hk.size
      replace hk := hk.trans hX
      replace m := m.kept hX
      replace i := i.kept hX
      replace b := b.kept hX
      clear hX
      replace p_l := p.lt
      replace p_0 := p.at 0 _ rfl
      replace p_1 := p.at 1 _ rfl
      replace p_2 := p.at 2 _ rfl
      replace p_3 := p.at 3 _ rfl
      refine (HB.out _ (ht.kept hk)).mono ?_
      rintro e w1 ⟨rfl, hn⟩
      replace hk := hk.trans hn
      replace m := m.kept hn
      replace i := i.kept hn
      replace b := b.kept hn
      replace p := p.kept hn
      clear hn
      replace p_l := p.lt
      replace p_0 := p.at 0 _ rfl
      replace p_1 := p.at 1 _ rfl
      replace p_2 := p.at 2 _ rfl
      replace p_3 := p.at 3 _ rfl
      clear m i b
      go_wp2_with fail
      refine with_boxes1 ?_
      intro X hX q
      have hsz := hk.size
      replace hk := hk.trans hX
      replace p := p.kept hX
      clear hX
      replace p_l := p.lt
      replace p_0 := p.at 0 _ rfl
      replace p_1 := p.at 1 _ rfl
      replace p_2 := p.at 2 _ rfl
      replace p_3 := p.at 3 _ rfl
      replace q_l := q.lt
      replace q_0 := q.at 0 _ rfl
      replace q_1 := q.at 1 _ rfl
      replace q_2 := q.at 2 _ rfl
      replace q_3 := q.at 3 _ rfl
      refine (num_any _ _).mono ?_
      rintro e w1 ⟨rfl, rfl⟩
      go_wp2_with fail
      refine (num_any _ _).mono ?_
      rintro e w1 ⟨rfl, rfl⟩
      go_wp2_with fail
      refine (num_any _ _).mono ?_
      rintro e w1 ⟨rfl, rfl⟩
      go_wp2
      go_ret
      exact ⟨rfl, hk⟩
end Go.Proofs.YtbjkphelkfeliaaDoor
