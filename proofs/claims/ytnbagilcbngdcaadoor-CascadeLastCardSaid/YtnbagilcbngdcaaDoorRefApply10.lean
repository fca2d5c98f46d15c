/- Layer 10: what declarations come to, by the document. -/
import Derived.Test.YtnbagilcbngdcaaDoorApply10B
import Derived.Deep.RegionHeld3
namespace Go.Proofs.YtnbagilcbngdcaaDoor
open Go.RowKit
set_option linter.unusedSimpArgs false
set_option linter.unusedVariables false
set_option maxHeartbeats 8000000
set_option maxRecDepth 20000
theorem refModeMay10_is (wr di : Int) (b : Bool) (w : World) (h : modeMayB wr di = b) :
    Calls Tryd.prog 39 #[modeV wr di] w fun e w' => e = .returned (.bool b) ∧ Kept w w' := h ▸ refModeMay_any wr di w
theorem refStyleMay10_is (s : Sty) (b : Bool) (w : World) (h : mayS s = b) :
    Calls Tryd.prog 21 #[s.V] w fun e w' => e = .returned (.bool b) ∧ Kept w w' := by
  have := refStyleMay_any s w
  rwa [h] at this
theorem held5 {w W X : World} {p0 p1 p2 : Addr} {v0 v1 v2 : Value} (h : Kept w W ∧ W.cell? p0 = some v0 ∧ W.cell? p1 = some v1 ∧ W.cell? p2 = some v2) (k : Kept W X) :
    Kept w X ∧ X.cell? p0 = some v0 ∧ X.cell? p1 = some v1 ∧ X.cell? p2 = some v2 := by
  obtain ⟨h, h0, h1, h2⟩ := h
  exact ⟨h.trans k, (k.cell (World.block_lt_of_cell? _ _ h0)).trans h0, (k.cell (World.block_lt_of_cell? _ _ h1)).trans h1, (k.cell (World.block_lt_of_cell? _ _ h2)).trans h2⟩
theorem refApply_bad (wm di : Int) (o : Option Addr) (n cap : Nat) (w : World) (hb : modeMayB wm di = false ∨ 16 < n) :
    Calls Tryd.prog 19 #[modeV wm di, .slice o n cap] w fun e w' => e = .returned (.tuple #[zeroS.V, .int .i64 1000]) ∧ Kept w w' := by
  cases hm : modeMayB wm di with
  | false =>
    have HM := Lib.hid (fun wx => refModeMay10_is wm di false wx hm)
    clear hm hb
    have hk : Kept w w := Kept.refl w
    go_enter Tryd.func19, Tryd.ntmps19
    go_wp2_with fail
    refine with_boxes2 ?_
    intro X hX m r
    have hsz := hk.size
    replace hk := hk.trans hX
    clear hX
    replace m_l := m.lt
    replace m_0 := m.at 0 _ rfl
    replace m_1 := m.at 1 _ rfl
    refine (HM.out _).mono ?_
    rintro e w1 ⟨rfl, hn⟩
    replace hk := hk.trans hn
    replace m := m.kept hn
    replace r := r.kept hn
    clear hn
    replace m_l := m.lt
    replace m_0 := m.at 0 _ rfl
    replace m_1 := m.at 1 _ rfl
    go_upto_region 2 with fail
    go_wp2_with (refine here_store 42 _ _ rfl ?_; refine wpList_store_own rfl 42 _ _ rfl _ _ rfl rfl r (by rfl) (by kernel_rfl) (by rfl) ?_; intro X oX hoX hkX; replace hk := hkX _ hk (by first | omega | (simp; omega)); replace r := oX; replace m := m.same (hoX _ (by first | omega | (simp; omega))); clear oX hoX hkX; replace m_l := m.lt; replace m_0 := m.at 0 _ rfl; replace m_1 := m.at 1 _ rfl)
    exact bodyPost_ret (results_own_tmp 42 _ Tryd.results19 rfl r Tryd.underlying42 rfl (by kernel_rfl)) rfl ⟨rfl, hk⟩
  | true =>
    have HM := Lib.hid (fun wx => refModeMay10_is wm di true wx hm)
    have h16 : (16 : Int) < (n : Int) := by
      rcases hb with h | h
      · rw [hm] at h; cases h
      · omega
    clear hm hb
    have hk : Kept w w := Kept.refl w
    go_enter Tryd.func19, Tryd.ntmps19
    go_wp2_with fail
    refine with_boxes2 ?_
    intro X hX m r
    have hsz := hk.size
    replace hk := hk.trans hX
    clear hX
    replace m_l := m.lt
    replace m_0 := m.at 0 _ rfl
    replace m_1 := m.at 1 _ rfl
    refine (HM.out _).mono ?_
    rintro e w1 ⟨rfl, hn⟩
    replace hk := hk.trans hn
    replace m := m.kept hn
    replace r := r.kept hn
    clear hn
    replace m_l := m.lt
    replace m_0 := m.at 0 _ rfl
    replace m_1 := m.at 1 _ rfl
    go_upto_region 2 with fail
    go_wp2_with (refine here_store 42 _ _ rfl ?_; refine wpList_store_own rfl 42 _ _ rfl _ _ rfl rfl r (by rfl) (by kernel_rfl) (by rfl) ?_; intro X oX hoX hkX; replace hk := hkX _ hk (by first | omega | (simp; omega)); replace r := oX; replace m := m.same (hoX _ (by first | omega | (simp; omega))); clear oX hoX hkX; replace m_l := m.lt; replace m_0 := m.at 0 _ rfl; replace m_1 := m.at 1 _ rfl)
    exact bodyPost_ret (results_own_tmp 42 _ Tryd.results19 rfl r Tryd.underlying42 rfl (by kernel_rfl)) rfl ⟨rfl, hk⟩
theorem refApply_ok (wm di : Int) (o : Option Addr) (n cap : Nat) (P : Nat → Int) (T : Nat → ByteArray) (w : World) (hv : RV 2 w (.slice o n cap) n (declC P T)) (hm : modeMayB wm di = true) (hn16 : n ≤ 16) (hT : ∀ i, i < n → (T i).size ≤ 140737488355328) :
    Calls Tryd.prog 19 #[modeV wm di, .slice o n cap] w fun e w' => e = .returned (.tuple #[(applyS wm di n P T).1.V, .int .i64 (applyS wm di n P T).2]) ∧ Kept w w' := by
  have HM := Lib.hid (fun wx => refModeMay10_is wm di true wx hm)
  have HNO := Lib.hid (fun k (hk : k < n) (hb : inB 0 28 (P k) = false) => (show applyS wm di n P T = (zeroS, 1000) from if_neg (by unfold declsB; rw [propsB_no hk hb]; simp)))
  have HYES := Lib.hid (fun (hb : propsB P n = true) => (show applyS wm di n P T = (appS wm di P T n, 0) from if_pos (by unfold declsB; rw [hm, decide_eq_true hn16, hb]; rfl)))
  have HDI := Lib.hid (show di = 0 ∨ di = 1 by have := modeMayB_true.1 hm; omega)
  have HG := Lib.hid (fun (p : Int) (hb : inB 0 28 p = true) => map_logical wm di p hm hb)
  have HT := Lib.hid hT
  have HV := Lib.hid hv
  have h16 : ¬ (16 : Int) < (n : Int) := by omega
  clear hm hT hv
  have hk : Kept w w := Kept.refl w
  go_enter Tryd.func19, Tryd.ntmps19
  go_wp2_with fail
  refine with_boxes2 ?_
  intro X hX m r
  have hsz := hk.size
  replace hk := hk.trans hX
  clear hX
  replace m_l := m.lt
  replace m_0 := m.at 0 _ rfl
  replace m_1 := m.at 1 _ rfl
  refine (HM.out _).mono ?_
  rintro e w1 ⟨rfl, hn⟩
  replace hk := hk.trans hn
  replace m := m.kept hn
  replace r := r.kept hn
  clear hn
  replace m_l := m.lt
  replace m_0 := m.at 0 _ rfl
  replace m_1 := m.at 1 _ rfl
  go_wp2_with fail
  refine (newStyle_any _).mono ?_
  rintro e w1 ⟨rfl, hn⟩
  replace hk := hk.trans hn
  replace m := m.kept hn
  replace r := r.kept hn
  clear hn
  replace m_l := m.lt
  replace m_0 := m.at 0 _ rfl
  replace m_1 := m.at 1 _ rfl
  obtain ⟨A, hA⟩ : ∃ z, w1.heap.size = z := ⟨_, rfl⟩
  have HA := Lib.hid hA
  clear hA h16
  have r_l := r.lt
  go_wp2_with (first | (refine here_store 42 _ _ rfl ?_; refine wpList_store_own rfl 42 _ _ rfl _ _ rfl rfl (Own.new _ _ _) (by rfl) (by kernel_rfl) (by rfl) ?_; intro X st hoX hkX; have hsz := hk.size; replace hk := hkX _ (hk.alloc _) (by first | omega | (simp; omega)); have m_l := m.lt; replace m := (m.alloc _).same (hoX _ (by first | omega | (simp; omega))); have r_l := r.lt; replace r := (r.alloc _).same (hoX _ (by first | omega | (simp; omega))); clear hoX hkX; replace m_l := m.lt; replace m_0 := m.at 0 _ rfl; replace m_1 := m.at 1 _ rfl))
  have st2 := HA.out ▸ st
  clear st
  have st := st2
  clear st2
  rw [HA.out]
  have hrA : w.heap.size + 1 < A := by rw [← HA.out]; exact r_l
  clear r_l
  go_loopw [7] (fun i wx => ∃ k : Nat, k ≤ n ∧ i = .int .i64 k ∧ Kept w wx ∧ Own wx w.heap.size 38 #[.int .i64 wm, .int .i64 di] ∧ Own wx (w.heap.size + 1) 42 zeroS.C ∧ Own wx A 42 (appS wm di P T k).C ∧ propsB P k = true) (fun i _ => n - (intOf i).toNat)
  case atStart => exact ⟨0, Nat.zero_le _, rfl, hk, m, r, st, rfl⟩
  case round =>
    clear hk m r st m_l m_0 m_1
    obtain ⟨k, hkn, rfl, hk, m, r, st, hpb⟩ := hrel
    have HPBk := Lib.hid hpb
    clear hpb
    have hsz2 := hk.size
    have m_l := m.lt
    have r_l0 := r.lt
    have st_l0 := st.lt
    by_cases hlt : k < n
    · have hi1 : (k : Int) < (n : Int) := by omega
      obtain ⟨b, off, rfl, hle, hrow⟩ := (HV.out.kept hk).row (by omega)
      have c0 : wr.cell? ⟨b, off + k * 2, none⟩ = some (.int .i64 (P k)) := hrow k 0 hlt (by decide)
      have c1 : wr.cell? ⟨b, off + k * 2 + 1, none⟩ = some (.string (T k)) := hrow k 1 hlt (by decide)
      clear hrow
      have hTk := HT.out k hlt
      have hnok := HNO.out k hlt
      have HSTEP := Lib.hid (show appS wm di P T (k + 1) = stepS wm di (appS wm di P T k) (P k) (T k) from rfl)
      have HPB := Lib.hid (fun (hb : inB 0 28 (P k) = true) => (show propsB P (k + 1) = true by unfold propsB; rw [HPBk.out, hb]; rfl))
      obtain ⟨s, hs⟩ : ∃ z, appS wm di P T k = z := ⟨_, rfl⟩
      rw [hs] at st HSTEP
      clear hs
      obtain ⟨q, hq⟩ : ∃ z, P k = z := ⟨_, rfl⟩
      rw [hq] at c0 HSTEP hnok HPB
      clear hq
      obtain ⟨v, hvk⟩ : ∃ z, T k = z := ⟨_, rfl⟩
      rw [hvk] at c1 hTk HSTEP
      clear hvk
      have c2 := m.at 0 _ rfl
      have c3 := m.at 1 _ rfl
      go_upto_region 7 with fail
      have hS := held5 ⟨Kept.refl wr, c2, c3, c0⟩ (Kept.refl _).drew
      go_region_held3 (fun W => Kept wr W ∧ W.cell? ⟨w.heap.size, 0, none⟩ = some (.int .i64 wm) ∧ W.cell? ⟨w.heap.size, 1, none⟩ = some (.int .i64 di) ∧ W.cell? ⟨b, off + k * 2, none⟩ = some (.int .i64 q))
        (first | exact hS | assumption | exact held5 ‹Kept wr _ ∧ _› hn)
        (first
          | (go_at_call 40; (with_reducible refine (refMapProp_any wm di q _).mono ?_); rintro e w3 ⟨rfl, hn⟩))
      have hq := (‹Kept wr _ ∧ _›).1
      clear hS hn c0 c2 c3
      replace c1 := (hq.cell (World.block_lt_of_cell? _ _ c1)).trans c1
      replace hk := hk.trans hq
      replace m := m.kept hq
      replace r := r.kept hq
      replace st := st.kept hq
      cases hb28 : inB 0 28 q with
      | false =>
        have hE := Lib.hid (hnok hb28)
        have e : mapS wm di q = (0, 900) := if_neg (by rw [hb28]; simp)
        rw [e]
        clear hnok hb28 e HPB
        go_upto_region 9 with fail
        go_wp2_with (refine here_store 42 _ _ rfl ?_; refine wpList_store_own rfl 42 _ _ rfl _ _ rfl rfl r (by rfl) (by kernel_rfl) (by rfl) ?_; intro X oX hoX hkX; replace hk := hkX _ hk (by first | omega | (simp; omega)); replace r := oX; clear oX hoX hkX)
        exact bodyPost_ret (results_own_tmp 42 _ Tryd.results19 rfl r Tryd.underlying42 rfl (by kernel_rfl)) rfl ⟨by rw [hE.out]; rfl, hk⟩
      | true =>
        replace HPB := Lib.hid (HPB.out hb28)
        have hlog := HG.out q hb28
        obtain ⟨p, hmp⟩ : ∃ z, (mapS wm di q).1 = z := ⟨_, rfl⟩
        rw [hmp] at hlog
        have hmq : mapS wm di q = (p, 0) := Prod.ext hmp hlog.2
        have HSET := Lib.hid (fun wx => refSet_any s wm di p v wx hTk hlog.1 HDI.out)
        have HMQ := Lib.hid hmq
        rw [hmq]
        clear hmp hmq hlog hTk hb28 hnok
        go_upto_region 10 with fail
        refine wp_region_held_drew (S := fun W => Kept w3 W) (by kernel_rfl) ((Kept.refl w3).drew) (fun hS => ?_)
        refine' wpAnyH_take (i := 1) rfl (by kernel_rfl) (by kernel_rfl) (by kernel_rfl) (fun _ _ _ h => h) (yieldsIf_load_own (by rfl) 42 _ rfl _ rfl (fun W h => st.kept h) _ Tryd.underlying42 rfl (by kernel_rfl)) (by assumption) ?_
        simp only [Act.put, List.getElem_toArray, List.getElem_cons_zero, List.getElem_cons_succ, List.setIfInBounds_toArray, List.set_cons_zero, List.set_cons_succ]
        refine wpAnyH_take (i := 0) (v := ?_) rfl (by kernel_rfl) (by kernel_rfl) (by kernel_rfl) (fun _ _ _ h => h) (Or.inl ⟨by rfl, ?_⟩) (by assumption) ?_
        rotate_left
        · intro W hSW; (try dsimp only at hSW); have a0 := (m.kept hSW).at 0 _ rfl; have a1 := (m.kept hSW).at 1 _ rfl; go_simp; (first | done | with_reducible rfl)
        simp only [Act.put, List.getElem_toArray, List.getElem_cons_zero, List.getElem_cons_succ, List.setIfInBounds_toArray, List.set_cons_zero, List.set_cons_succ]
        refine wpAnyH_take (i := 2) (v := ?_) rfl (by kernel_rfl) (by kernel_rfl) (by kernel_rfl) (fun _ _ _ h => h) (Or.inl ⟨by rfl, ?_⟩) (by assumption) ?_
        rotate_left
        · intro W hSW; (try dsimp only at hSW); go_simp; (first | done | with_reducible rfl)
        simp only [Act.put, List.getElem_toArray, List.getElem_cons_zero, List.getElem_cons_succ, List.setIfInBounds_toArray, List.set_cons_zero, List.set_cons_succ]
        refine wpAnyH_take (i := 3) (v := ?_) rfl (by kernel_rfl) (by kernel_rfl) (by kernel_rfl) (fun _ _ _ h => h) (Or.inl ⟨by rfl, ?_⟩) (by assumption) ?_
        rotate_left
        · intro W hSW; (try dsimp only at hSW); go_simp; (first | done | with_reducible rfl)
        simp only [Act.put, List.getElem_toArray, List.getElem_cons_zero, List.getElem_cons_succ, List.setIfInBounds_toArray, List.set_cons_zero, List.set_cons_succ]
        refine wpAnyH_take (i := 4) (v := ?_) rfl (by kernel_rfl) (by kernel_rfl) (by kernel_rfl) (fun _ _ _ h => h) (Or.inl ⟨by rfl, ?_⟩) (by assumption) ?_
        rotate_left
        · intro W hSW; (try dsimp only at hSW); go_simp; (first | done | with_reducible rfl)
        simp only [Act.put, List.getElem_toArray, List.getElem_cons_zero, List.getElem_cons_succ, List.setIfInBounds_toArray, List.set_cons_zero, List.set_cons_succ]
        refine wpAnyH_take (i := 5) (v := ?_) rfl (by kernel_rfl) (by kernel_rfl) (by kernel_rfl) (fun _ _ _ h => h) (Or.inl ⟨by rfl, ?_⟩) (by assumption) ?_
        rotate_left
        · intro W hSW; (try dsimp only at hSW); go_simp; (first | done | with_reducible rfl)
        simp only [Act.put, List.getElem_toArray, List.getElem_cons_zero, List.getElem_cons_succ, List.setIfInBounds_toArray, List.set_cons_zero, List.set_cons_succ]
        refine wpAnyH_take (i := 6) (v := ?_) rfl (by kernel_rfl) (by kernel_rfl) (by kernel_rfl) (fun _ _ _ h => h) (Or.inl ⟨by rfl, ?_⟩) (by assumption) ?_
        rotate_left
        · intro W hSW; (try dsimp only at hSW); go_simp; (first | done | with_reducible rfl)
        simp only [Act.put, List.getElem_toArray, List.getElem_cons_zero, List.getElem_cons_succ, List.setIfInBounds_toArray, List.set_cons_zero, List.set_cons_succ]
        refine wpAnyH_take (i := 7) (v := ?_) rfl (by kernel_rfl) (by kernel_rfl) (by kernel_rfl) (fun _ _ _ h => h) (Or.inl ⟨by rfl, ?_⟩) (by assumption) ?_
        rotate_left
        · intro W hSW; (try dsimp only at hSW); have a0 := (Kept.cell hSW (World.block_lt_of_cell? _ _ c1)).trans c1; go_simp; (first | done | with_reducible rfl)
        simp only [Act.put, List.getElem_toArray, List.getElem_cons_zero, List.getElem_cons_succ, List.setIfInBounds_toArray, List.set_cons_zero, List.set_cons_succ]
        refine wpAnyH_ready (rs := [8, 12]) (by kernel_rfl) (by simp) ?_
        refine (AllReadyH.cons rfl (fun K hK => ?_) (AllReadyH.cons rfl (fun K hK => ?_) AllReadyH.nil))
        · go_simp
          refine (HSET.out _).mono ?_
          rintro e w4 ⟨t, ok, rfl, hset, hn⟩
          have hle4 := hS.size
          have hle5 := hn.size
          have hS0 := hS.trans hn
          have hle6 := hS0.size
          refine hK.out _ _ hS0 (fun hS2 => ?_)
          clear hS0 hn
          clear hS hK
          have hS := hS2
          clear hS2
          try simp only [Act.put, List.getElem_toArray, List.getElem_cons_zero, List.getElem_cons_succ, List.setIfInBounds_toArray, List.set_cons_zero, List.set_cons_succ]
          refine wpAnyH_take (i := 9) (v := ?_) rfl (by kernel_rfl) (by kernel_rfl) (by kernel_rfl) (fun _ _ _ h => h) (Or.inl ⟨by rfl, ?_⟩) (by assumption) ?_
          rotate_left
          · intro W hSW; (try dsimp only at hSW); go_simp; (first | done | with_reducible rfl)
          simp only [Act.put, List.getElem_toArray, List.getElem_cons_zero, List.getElem_cons_succ, List.setIfInBounds_toArray, List.set_cons_zero, List.set_cons_succ]
          refine wpAnyH_take (i := 10) (v := ?_) rfl (by kernel_rfl) (by kernel_rfl) (by kernel_rfl) (fun _ _ _ h => h) (Or.inl ⟨by rfl, ?_⟩) (by assumption) ?_
          rotate_left
          · intro W hSW; (try dsimp only at hSW); go_simp; (first | done | with_reducible rfl)
          simp only [Act.put, List.getElem_toArray, List.getElem_cons_zero, List.getElem_cons_succ, List.setIfInBounds_toArray, List.set_cons_zero, List.set_cons_succ]
          refine wpAnyH_take (i := 11) (v := ?_) rfl (by kernel_rfl) (by kernel_rfl) (by kernel_rfl) (fun _ _ _ h => h) (Or.inl ⟨by rfl, ?_⟩) (by assumption) ?_
          rotate_left
          · intro W hSW; (try dsimp only at hSW); go_simp; (first | done | with_reducible rfl)
          simp only [Act.put, List.getElem_toArray, List.getElem_cons_zero, List.getElem_cons_succ, List.setIfInBounds_toArray, List.set_cons_zero, List.set_cons_succ]
          refine wpAnyH_ready (rs := [12]) (by kernel_rfl) (by simp) ?_
          refine (AllReadyH.cons rfl (fun K hK => ?_) AllReadyH.nil)
          go_simp
          refine hK.out _ _ (hS.alloc _) (fun hS2 => ?_)
          clear hS hK
          have hS := hS2
          clear hS2
          try simp only [Act.put, List.getElem_toArray, List.getElem_cons_zero, List.getElem_cons_succ, List.setIfInBounds_toArray, List.set_cons_zero, List.set_cons_succ]
          have nb := Own.new w4 zeroS.C 42
          refine wpAnyH_ready (rs := [13]) (by kernel_rfl) (by simp) ?_
          refine (AllReadyH.cons rfl (fun K hK => ?_) AllReadyH.nil)
          refine wp_put_own (by rfl) 42 _ _ rfl _ (Sty.C t) rfl rfl nb rfl (by kernel_rfl) (by rfl) ?_
          intro X2 nx hoX hkX
          refine hK.out _ _ (hkX _ hS (by omega)) (fun hS2 => ?_)
          clear hoX hkX
          clear hS hK
          have hS := hS2
          clear hS2
          try simp only [Act.put, List.getElem_toArray, List.getElem_cons_zero, List.getElem_cons_succ, List.setIfInBounds_toArray, List.set_cons_zero, List.set_cons_succ]
          refine wpAnyH_take (i := 14) (v := ?_) rfl (by kernel_rfl) (by kernel_rfl) (by kernel_rfl) (fun _ _ _ h => h) (Or.inl ⟨by rfl, ?_⟩) (by assumption) ?_
          rotate_left
          · intro W hSW; (try dsimp only at hSW); go_simp; (first | done | with_reducible rfl)
          simp only [Act.put, List.getElem_toArray, List.getElem_cons_zero, List.getElem_cons_succ, List.setIfInBounds_toArray, List.set_cons_zero, List.set_cons_succ]
          refine wpAnyH_done (by kernel_rfl) ?_ _
          clear nb
          have hw3 := set_ways HMQ.out hset
          have HW := Lib.hid hw3
          clear hset hw3
          have hk2 := hk.trans hS
          have m2 := m.kept hS
          have r2 := r.kept hS
          have st2 := st.kept hS
          have st2_l := st2.lt
          rcases HW.out with ⟨rfl, he⟩ | ⟨rfl, hb, he⟩ | ⟨rfl, hb, he⟩
          · have HE := Lib.hid he
            clear he HW
            go_wp2
            exact ⟨⟨k + 1, by omega, by first | rfl | go_num, hk2, m2, r2, by rw [HSTEP.out, HE.out]; exact st2, HPB.out⟩, by first | (simp [intOf]; done) | (simp [intOf]; omega)⟩
          · have HE := Lib.hid he
            have HB := Lib.hid (fun wx => refStyleMay10_is t false wx hb)
            clear he hb HW
            go_wp2_with (refine here_load 42 _ rfl ?_; refine wpList_load_own_if 42 _ rfl (by rfl) _ rfl nx _ Tryd.underlying42 rfl (by kernel_rfl) ?_)
            refine (HB.out _).mono ?_
            rintro e w5 ⟨rfl, hn5⟩
            replace hk2 := hk2.trans hn5
            replace m2 := m2.kept hn5
            replace r2 := r2.kept hn5
            replace st2 := st2.kept hn5
            go_wp2
            exact ⟨⟨k + 1, by omega, by first | rfl | go_num, hk2, m2, r2, by rw [HSTEP.out, HE.out]; exact st2, HPB.out⟩, by first | (simp [intOf]; done) | (simp [intOf]; omega)⟩
          · have HE := Lib.hid he
            have HB := Lib.hid (fun wx => refStyleMay10_is t true wx hb)
            clear he hb HW
            go_wp2_with (refine here_load 42 _ rfl ?_; refine wpList_load_own_if 42 _ rfl (by rfl) _ rfl nx _ Tryd.underlying42 rfl (by kernel_rfl) ?_)
            refine (HB.out _).mono ?_
            rintro e w5 ⟨rfl, hn5⟩
            replace hk2 := hk2.trans hn5
            replace m2 := m2.kept hn5
            replace r2 := r2.kept hn5
            replace st2 := st2.kept hn5
            replace nx := nx.kept hn5
            go_wp2_with (first | (refine here_load 42 _ rfl ?_; refine wpList_load_own rfl 42 _ rfl _ rfl nx _ Tryd.underlying42 rfl (by kernel_rfl) ?_) | (refine here_store 42 _ _ rfl ?_; refine wpList_store_own rfl 42 _ _ rfl _ _ rfl rfl st2 (by rfl) (by kernel_rfl) (by rfl) ?_; intro X6 oX hoX hkX; replace hk2 := hkX _ hk2 (by omega); replace m2 := m2.same (hoX _ (by omega)); replace r2 := r2.same (hoX _ (by omega)); replace st2 := oX; clear oX hoX hkX))
            exact ⟨⟨k + 1, by omega, by first | rfl | go_num, hk2, m2, r2, by rw [HSTEP.out, HE.out]; exact st2, HPB.out⟩, by first | (simp [intOf]; done) | (simp [intOf]; omega)⟩
        · go_simp
          refine hK.out _ _ (hS.alloc _) (fun hS2 => ?_)
          clear hS hK
          have hS := hS2
          clear hS2
          try simp only [Act.put, List.getElem_toArray, List.getElem_cons_zero, List.getElem_cons_succ, List.setIfInBounds_toArray, List.set_cons_zero, List.set_cons_succ]
          have nb := Own.new w3.drew zeroS.C 42
          refine wpAnyH_ready (rs := [8]) (by kernel_rfl) (by simp) ?_
          refine (AllReadyH.cons rfl (fun K hK => ?_) AllReadyH.nil)
          go_simp
          refine (HSET.out _).mono ?_
          rintro e w4 ⟨t, ok, rfl, hset, hn⟩
          have hle4 := hS.size
          replace nb := nb.kept hn
          refine hK.out _ _ (hS.trans hn) (fun hS2 => ?_)
          clear hn
          clear hS hK
          have hS := hS2
          clear hS2
          try simp only [Act.put, List.getElem_toArray, List.getElem_cons_zero, List.getElem_cons_succ, List.setIfInBounds_toArray, List.set_cons_zero, List.set_cons_succ]
          refine wpAnyH_take (i := 9) (v := ?_) rfl (by kernel_rfl) (by kernel_rfl) (by kernel_rfl) (fun _ _ _ h => h) (Or.inl ⟨by rfl, ?_⟩) (by assumption) ?_
          rotate_left
          · intro W hSW; (try dsimp only at hSW); go_simp; (first | done | with_reducible rfl)
          simp only [Act.put, List.getElem_toArray, List.getElem_cons_zero, List.getElem_cons_succ, List.setIfInBounds_toArray, List.set_cons_zero, List.set_cons_succ]
          refine wpAnyH_take (i := 10) (v := ?_) rfl (by kernel_rfl) (by kernel_rfl) (by kernel_rfl) (fun _ _ _ h => h) (Or.inl ⟨by rfl, ?_⟩) (by assumption) ?_
          rotate_left
          · intro W hSW; (try dsimp only at hSW); go_simp; (first | done | with_reducible rfl)
          simp only [Act.put, List.getElem_toArray, List.getElem_cons_zero, List.getElem_cons_succ, List.setIfInBounds_toArray, List.set_cons_zero, List.set_cons_succ]
          refine wpAnyH_take (i := 11) (v := ?_) rfl (by kernel_rfl) (by kernel_rfl) (by kernel_rfl) (fun _ _ _ h => h) (Or.inl ⟨by rfl, ?_⟩) (by assumption) ?_
          rotate_left
          · intro W hSW; (try dsimp only at hSW); go_simp; (first | done | with_reducible rfl)
          simp only [Act.put, List.getElem_toArray, List.getElem_cons_zero, List.getElem_cons_succ, List.setIfInBounds_toArray, List.set_cons_zero, List.set_cons_succ]
          refine wpAnyH_ready (rs := [13]) (by kernel_rfl) (by simp) ?_
          refine (AllReadyH.cons rfl (fun K hK => ?_) AllReadyH.nil)
          refine wp_put_own (by rfl) 42 _ _ rfl _ (Sty.C t) rfl rfl nb rfl (by kernel_rfl) (by rfl) ?_
          intro X2 nx hoX hkX
          refine hK.out _ _ (hkX _ hS (Nat.le_refl _)) (fun hS2 => ?_)
          clear hoX hkX
          clear hS hK
          have hS := hS2
          clear hS2
          try simp only [Act.put, List.getElem_toArray, List.getElem_cons_zero, List.getElem_cons_succ, List.setIfInBounds_toArray, List.set_cons_zero, List.set_cons_succ]
          refine wpAnyH_take (i := 14) (v := ?_) rfl (by kernel_rfl) (by kernel_rfl) (by kernel_rfl) (fun _ _ _ h => h) (Or.inl ⟨by rfl, ?_⟩) (by assumption) ?_
          rotate_left
          · intro W hSW; (try dsimp only at hSW); go_simp; (first | done | with_reducible rfl)
          simp only [Act.put, List.getElem_toArray, List.getElem_cons_zero, List.getElem_cons_succ, List.setIfInBounds_toArray, List.set_cons_zero, List.set_cons_succ]
          refine wpAnyH_done (by kernel_rfl) ?_ _
          clear nb
          have hw3 := set_ways HMQ.out hset
          have HW := Lib.hid hw3
          clear hset hw3
          have hk2 := hk.trans hS
          have m2 := m.kept hS
          have r2 := r.kept hS
          have st2 := st.kept hS
          have st2_l := st2.lt
          rcases HW.out with ⟨rfl, he⟩ | ⟨rfl, hb, he⟩ | ⟨rfl, hb, he⟩
          · have HE := Lib.hid he
            clear he HW
            go_wp2
            exact ⟨⟨k + 1, by omega, by first | rfl | go_num, hk2, m2, r2, by rw [HSTEP.out, HE.out]; exact st2, HPB.out⟩, by first | (simp [intOf]; done) | (simp [intOf]; omega)⟩
          · have HE := Lib.hid he
            have HB := Lib.hid (fun wx => refStyleMay10_is t false wx hb)
            clear he hb HW
            go_wp2_with (refine here_load 42 _ rfl ?_; refine wpList_load_own_if 42 _ rfl (by rfl) _ rfl nx _ Tryd.underlying42 rfl (by kernel_rfl) ?_)
            refine (HB.out _).mono ?_
            rintro e w5 ⟨rfl, hn5⟩
            replace hk2 := hk2.trans hn5
            replace m2 := m2.kept hn5
            replace r2 := r2.kept hn5
            replace st2 := st2.kept hn5
            go_wp2
            exact ⟨⟨k + 1, by omega, by first | rfl | go_num, hk2, m2, r2, by rw [HSTEP.out, HE.out]; exact st2, HPB.out⟩, by first | (simp [intOf]; done) | (simp [intOf]; omega)⟩
          · have HE := Lib.hid he
            have HB := Lib.hid (fun wx => refStyleMay10_is t true wx hb)
            clear he hb HW
            go_wp2_with (refine here_load 42 _ rfl ?_; refine wpList_load_own_if 42 _ rfl (by rfl) _ rfl nx _ Tryd.underlying42 rfl (by kernel_rfl) ?_)
            refine (HB.out _).mono ?_
            rintro e w5 ⟨rfl, hn5⟩
            replace hk2 := hk2.trans hn5
            replace m2 := m2.kept hn5
            replace r2 := r2.kept hn5
            replace st2 := st2.kept hn5
            replace nx := nx.kept hn5
            go_wp2_with (first | (refine here_load 42 _ rfl ?_; refine wpList_load_own rfl 42 _ rfl _ rfl nx _ Tryd.underlying42 rfl (by kernel_rfl) ?_) | (refine here_store 42 _ _ rfl ?_; refine wpList_store_own rfl 42 _ _ rfl _ _ rfl rfl st2 (by rfl) (by kernel_rfl) (by rfl) ?_; intro X6 oX hoX hkX; replace hk2 := hkX _ hk2 (by omega); replace m2 := m2.same (hoX _ (by omega)); replace r2 := r2.same (hoX _ (by omega)); replace st2 := oX; clear oX hoX hkX))
            exact ⟨⟨k + 1, by omega, by first | rfl | go_num, hk2, m2, r2, by rw [HSTEP.out, HE.out]; exact st2, HPB.out⟩, by first | (simp [intOf]; done) | (simp [intOf]; omega)⟩
    · obtain rfl : k = n := by omega
      obtain ⟨s, hs⟩ : ∃ z, appS wm di P T k = z := ⟨_, rfl⟩
      rw [hs] at st
      have HS := Lib.hid (show applyS wm di k P T = (s, 0) by rw [HYES.out HPBk.out, hs])
      clear hs
      go_upto_region 13 with fail
      have q1 : (Sty.C s).size = zeroS.C.size := rfl
      have q2 : (Tryd.prog.info? 42).map (·.size) = some (Sty.C s).size := by kernel_rfl
      have q3 : (Sty.C s).toList.all (fun v => v.oneCell') = true := by rfl
      have r2 := Lib.hid r
      go_wp2_with (first | (refine here_load 42 _ rfl ?_; refine wpList_load_own rfl 42 _ rfl _ rfl st _ Tryd.underlying42 rfl (by kernel_rfl) ?_) | (refine here_store 42 _ _ rfl ?_; refine wpList_store_own rfl 42 _ _ rfl _ _ rfl rfl r2 q1 q2 q3 ?_; intro X oX hoX hkX))
      replace hk := hkX _ hk (by omega)
      exact bodyPost_ret (results_own_tmp 42 _ Tryd.results19 rfl oX Tryd.underlying42 rfl (by kernel_rfl)) rfl ⟨by rw [HS.out]; rfl, hk⟩
end Go.Proofs.YtnbagilcbngdcaaDoor
