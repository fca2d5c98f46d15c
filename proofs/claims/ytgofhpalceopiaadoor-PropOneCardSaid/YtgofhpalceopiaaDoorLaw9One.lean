/- Layer 9: each name is one property's; of each mode the edges are mapped to all sides. -/
import Derived.Test.YtgofhpalceopiaaDoorAwake9
import Derived.Test.YtgofhpalceopiaaDoorRefMode
namespace Go.Proofs.YtgofhpalceopiaaDoor
open Go.RowKit
set_option linter.unusedSimpArgs false
set_option linter.unusedVariables false
theorem propOf_name : ∀ k : Nat, k < 29 → propOf (nameS k) = ((k : Int), 0) := by decide +kernel
theorem map_twice (wm di : Int) (hw : 0 ≤ wm ∧ wm ≤ 2) (hd : 0 ≤ di ∧ di ≤ 1) : ∀ k : Nat, k < 29 → ∃ q : Nat, q < 29 ∧ mapS wm di (k : Int) = ((q : Int), 0) ∧ mapS wm di (q : Int) = ((q : Int), 0) := by
  have key : ∀ a : Fin 3, ∀ b : Fin 2, ∀ k : Fin 29, mapS (a.val : Int) (b.val : Int) (k.val : Int) = (((mapS (a.val : Int) (b.val : Int) (k.val : Int)).1.toNat : Int), 0) ∧ (mapS (a.val : Int) (b.val : Int) (k.val : Int)).1.toNat < 29 ∧ mapS (a.val : Int) (b.val : Int) ((mapS (a.val : Int) (b.val : Int) (k.val : Int)).1.toNat : Int) = (((mapS (a.val : Int) (b.val : Int) (k.val : Int)).1.toNat : Int), 0) := by decide +kernel
  intro k hk
  obtain ⟨a, rfl⟩ : ∃ a : Nat, wm = (a : Int) := ⟨wm.toNat, by omega⟩
  obtain ⟨b, rfl⟩ : ∃ b : Nat, di = (b : Int) := ⟨di.toNat, by omega⟩
  have h := key ⟨a, by omega⟩ ⟨b, by omega⟩ ⟨k, hk⟩
  exact ⟨_, h.2.1, h.1, h.2.2⟩
/-- how many of the first k are mapped to q -/
def cntQ (wm di : Int) : Nat → Nat → Nat
  | 0, _ => 0
  | k + 1, q => cntQ wm di k q + (if (mapS wm di (k : Int)).1 = (q : Int) then 1 else 0)
theorem cntQ_le (wm di : Int) (k q : Nat) : cntQ wm di k q ≤ k := by
  induction k with
  | zero => exact Nat.le_refl _
  | succ k ih => unfold cntQ; split <;> omega
theorem cntQ_end (wm di : Int) (hw : 0 ≤ wm ∧ wm ≤ 2) (hd : 0 ≤ di ∧ di ≤ 1) : (∀ i : Nat, i < 4 → cntQ wm di 29 (6 + i) = 2 ∧ cntQ wm di 29 (14 + i) = 2) ∧ cntQ wm di 29 0 = 2 ∧ cntQ wm di 29 1 = 2 := by
  have key : ∀ a : Fin 3, ∀ b : Fin 2, (∀ i : Nat, i < 4 → cntQ (a.val : Int) (b.val : Int) 29 (6 + i) = 2 ∧ cntQ (a.val : Int) (b.val : Int) 29 (14 + i) = 2) ∧ cntQ (a.val : Int) (b.val : Int) 29 0 = 2 ∧ cntQ (a.val : Int) (b.val : Int) 29 1 = 2 := by decide +kernel
  obtain ⟨a, rfl⟩ : ∃ a : Nat, wm = (a : Int) := ⟨wm.toNat, by omega⟩
  obtain ⟨b, rfl⟩ : ∃ b : Nat, di = (b : Int) := ⟨di.toNat, by omega⟩
  exact key ⟨a, by omega⟩ ⟨b, by omega⟩
def cntA (wm di : Int) (k : Nat) : Array Value := ((List.range 64).map fun q => Value.int .i64 (cntQ wm di k q : Int)).toArray
theorem cntA_at (wm di : Int) (k q : Nat) (h : q < 64) : (cntA wm di k)[q]? = some (.int .i64 (cntQ wm di k q : Int)) := by simp [cntA, h]
theorem cntA_set (wm di : Int) (k q : Nat) (h : q < 64) (hq : (mapS wm di (k : Int)).1 = (q : Int)) : (cntA wm di k).setIfInBounds q (.int .i64 ((cntQ wm di k q : Int) + 1)) = cntA wm di (k + 1) := by
  apply Array.ext_getElem?
  intro j
  by_cases hj : j < 64
  · rw [cntA_at _ _ _ _ hj]
    by_cases hjq : q = j
    · subst hjq
      rw [Array.getElem?_setIfInBounds_self_of_lt (by simp [cntA]; exact h)]
      show some (Value.int .i64 _) = some (Value.int .i64 ((cntQ wm di k q + (if (mapS wm di (k : Int)).1 = (q : Int) then 1 else 0) : Nat) : Int))
      rw [if_pos hq]; rfl
    · rw [Array.getElem?_setIfInBounds_ne hjq, cntA_at _ _ _ _ hj]
      show some (Value.int .i64 _) = some (Value.int .i64 ((cntQ wm di k j + (if (mapS wm di (k : Int)).1 = (j : Int) then 1 else 0) : Nat) : Int))
      rw [if_neg (by rw [hq]; omega)]; rfl
  · rw [Array.getElem?_eq_none (by simp [cntA]; omega), Array.getElem?_eq_none (by simp [cntA]; omega)]
set_option maxRecDepth 20000 in
set_option maxHeartbeats 4000000 in
theorem propOne_walk (wm di : Int) (w : World) (ht : TabN w) :
    Calls Tryd.prog 4 #[modeV wm di] w fun e w' => e = .returned (.bool true) ∧ Kept w w' := by
  have hk : Kept w w := Kept.refl w
  go_enter Tryd.func4, Tryd.ntmps4
  go_wp2_with fail
  refine with_boxes1 ?_
  intro X hX m
  have hsz := hk.size
  replace hk := hk.trans hX
  clear hX
  replace m_l := m.lt
  replace m_0 := m.at 0 _ rfl
  replace m_1 := m.at 1 _ rfl
  refine (awake9_any _ (ht.kept hk)).mono ?_
  rintro e w1 ⟨rfl, hn⟩
  replace hk := hk.trans hn
  replace m := m.kept hn
  clear hn
  replace m_l := m.lt
  replace m_0 := m.at 0 _ rfl
  replace m_1 := m.at 1 _ rfl
  go_wp2
  obtain ⟨g, hg⟩ : ∃ g : Nat, w.heap.size = g := ⟨_, rfl⟩
  rw [hg] at m ⊢
  have hgw := Lib.hid hg
  clear hg
  go_loopw [3] (fun i wx => ∃ k : Nat, k ≤ 29 ∧ i = .int .i64 k ∧ Kept w wx ∧ Own wx g 23 #[.int .i64 wm, .int .i64 di]) (fun i _ => 29 - (intOf i).toNat)
  case atStart => exact ⟨0, Nat.zero_le _, rfl, hk, m⟩
  case round =>
    clear hk m
    obtain ⟨k, hk9, rfl, hk, m⟩ := hrel
    by_cases hlt : k < 29
    · have e1 := propOf_name k hlt
      have hl2 : (k : Int) ≤ 28 := by omega
      go_wp2_with fail
      refine (propName_at k hlt _ (ht.kept hk)).mono ?_
      rintro e w1 ⟨rfl, hn⟩
      replace hk := hk.trans hn
      replace m := m.kept hn
      clear hn
      go_wp2_with fail
      refine (propParse_any _ _ (ht.kept hk)).mono ?_
      rintro e w1 ⟨rfl, hn⟩
      replace hk := hk.trans hn
      replace m := m.kept hn
      clear hn
      go_wp2_with (first
        | (go_at_call 14; refine (num_any _ _).mono ?_; rintro e w1 ⟨rfl, rfl⟩)
        | fail)
      go_roundw
      case rel => exact ⟨k + 1, by omega, by go_num, hk, m⟩
      case measure => simp [intOf]; omega
    · obtain rfl : k = 29 := by omega
      have c0 := m.at 0 _ rfl
      have c1 := m.at 1 _ rfl
      have cl := m.lt
      cases h : modeMayB wm di
      · have e1 : mapS wm di 0 = (0, 900) := if_neg (by simp [h])
        go_wp2_with fail
        refine (refModeMay_any _ _ _).mono ?_
        rintro e w1 ⟨rfl, hn⟩
        replace hk := hk.trans hn
        replace m := m.kept hn
        clear hn c0 c1 cl
        have c0 := m.at 0 _ rfl
        have c1 := m.at 1 _ rfl
        have cl := m.lt
        go_wp2_with fail
        refine (propMap_any _ _ _ _ (ht.kept hk).tab).mono ?_
        rintro e w1 ⟨rfl, hn⟩
        replace hk := hk.trans hn
        clear hn
        go_wp2_with (first
          | (go_at_call 14; refine (num_any _ _).mono ?_; rintro e w1 ⟨rfl, rfl⟩)
          | fail)
        go_ret
        exact ⟨rfl, hk⟩
      · obtain ⟨hw, hd⟩ := modeMayB_true.1 h
        have HW := Lib.hid (And.intro hw hd)
        clear hw hd
        go_wp2_with fail
        refine (refModeMay_any _ _ _).mono ?_
        rintro e w1 ⟨rfl, hn⟩
        replace hk := hk.trans hn
        replace m := m.kept hn
        clear hn c0 c1 cl
        go_wp2
        obtain ⟨b, hb⟩ : ∃ b : Nat, w1.heap.size = b := ⟨_, rfl⟩
        have hgb : g < b := by rw [← hb]; exact m.lt
        have hwb : w.heap.size ≤ b := by rw [← hb]; exact hk.size
        have ho : Own _ w1.heap.size 39 (cntA wm di 0) := (Own.new w1 _ _).is (by rfl)
        rw [hb] at ho ⊢
        go_loopw [11] (fun i wx => ∃ k : Nat, k ≤ 29 ∧ i = .int .i64 k ∧ Kept w wx ∧ Own wx g 23 #[.int .i64 wm, .int .i64 di] ∧ Own wx b 39 (cntA wm di k)) (fun i _ => 29 - (intOf i).toNat)
        case atStart => exact ⟨0, Nat.zero_le _, rfl, hk.alloc _, m.alloc _, ho⟩
        case round =>
          clear hk m ho hb
          obtain ⟨k, hk9, rfl, hk, m, ho⟩ := hrel
          have c0 := m.at 0 _ rfl
          have c1 := m.at 1 _ rfl
          have cl := m.lt
          by_cases hlt : k < 29
          · obtain ⟨q, hq, f1, f2⟩ := map_twice wm di HW.out.1 HW.out.2 k hlt
            have hl2 : (k : Int) ≤ 28 := by omega
            have hq2 : (q : Int) ≤ 28 := by omega
            have hcn := cntQ_le wm di k q
            have H3 := Lib.hid (cntA_set wm di k q (by omega) (by rw [f1]))
            have HQ := Lib.hid (cntA_at wm di k q (by omega))
            go_wp2_with fail
            refine (propMap_any _ _ _ _ (ht.kept hk).tab).mono ?_
            rintro e w1 ⟨rfl, hn⟩
            replace hk := hk.trans hn
            replace m := m.kept hn
            replace ho := ho.kept hn
            clear hn c0 c1 cl
            have c0 := m.at 0 _ rfl
            have c1 := m.at 1 _ rfl
            have cl := m.lt
            go_wp2_with fail
            refine (propMap_any _ _ _ _ (ht.kept hk).tab).mono ?_
            rintro e w1 ⟨rfl, hn⟩
            replace hk := hk.trans hn
            replace m := m.kept hn
            replace ho := ho.kept hn
            clear hn c0 c1 cl
            have c0 := m.at 0 _ rfl
            have c1 := m.at 1 _ rfl
            have cl := m.lt
            have d0 : w1.cell? ⟨b, q, none⟩ = some (.int .i64 (cntQ wm di k q : Int)) := (ho.cell q).trans HQ.out
            have d1 := ho.free q
            have d2 := ho.lt
            have hbq : g ≠ b := by omega
            obtain ⟨n, hn⟩ : ∃ n : Nat, cntQ wm di k q = n := ⟨_, rfl⟩
            rw [hn] at d0 hcn
            have HN := Lib.hid hn
            clear hn f1
            have hq64 : q < 64 := by omega
            have H := Lib.hid (And.intro m ho)
            go_wp2_with (first
              | (go_at_call 14; refine (num_any _ _).mono ?_; rintro e w1 ⟨rfl, rfl⟩)
              | fail)
            go_roundw
            case rel => exact ⟨k + 1, by omega, by go_num, hk.set hwb _, H.out.1.other hbq _, (H.out.2.set q _).is (by rw [← H3.out, HN.out])⟩
            case measure => simp [intOf]; omega
          · obtain rfl : k = 29 := by omega
            obtain ⟨k1, k2, k3⟩ := cntQ_end wm di HW.out.1 HW.out.2
            have dl := ho.lt
            have x0 : wr.cell? ⟨b, 0, none⟩ = some (.int .i64 2) := (ho.cell 0).trans ((cntA_at wm di 29 0 (by decide)).trans (by rw [k2]; rfl))
            have x1 : wr.cell? ⟨b, 1, none⟩ = some (.int .i64 2) := (ho.cell 1).trans ((cntA_at wm di 29 1 (by decide)).trans (by rw [k3]; rfl))
            have xa : ∀ i : Nat, i < 4 → wr.cell? ⟨b, 6 + i, none⟩ = some (.int .i64 2) := fun i hi => (ho.cell (6 + i)).trans ((cntA_at wm di 29 (6 + i) (by omega)).trans (by rw [(k1 i hi).1]; rfl))
            have xb : ∀ i : Nat, i < 4 → wr.cell? ⟨b, 14 + i, none⟩ = some (.int .i64 2) := fun i hi => (ho.cell (14 + i)).trans ((cntA_at wm di 29 (14 + i) (by omega)).trans (by rw [(k1 i hi).2]; rfl))
            have XA := Lib.hid xa
            have XB := Lib.hid xb
            clear k1 k2 k3 xa xb
            go_wp2
            go_loop [16] (fun i => ∃ t : Nat, t ≤ 4 ∧ i = .int .i64 t) (fun i => 4 - (intOf i).toNat)
            case atStart => exact ⟨0, Nat.zero_le _, rfl⟩
            case round =>
              obtain ⟨t, ht4, rfl⟩ := hrel
              rcases (by omega : t = 0 ∨ t = 1 ∨ t = 2 ∨ t = 3 ∨ t = 4) with rfl | rfl | rfl | rfl | rfl
              · have y0 : wr.cell? ⟨b, 6, none⟩ = _ := XA.out 0 (by decide)
                have y1 : wr.cell? ⟨b, 14, none⟩ = _ := XB.out 0 (by decide)
                go_wp2
                go_round
                case rel => exact ⟨1, by decide, rfl⟩
                case measure => simp [intOf]
              · have y0 : wr.cell? ⟨b, 7, none⟩ = _ := XA.out 1 (by decide)
                have y1 : wr.cell? ⟨b, 15, none⟩ = _ := XB.out 1 (by decide)
                go_wp2
                go_round
                case rel => exact ⟨2, by decide, rfl⟩
                case measure => simp [intOf]
              · have y0 : wr.cell? ⟨b, 8, none⟩ = _ := XA.out 2 (by decide)
                have y1 : wr.cell? ⟨b, 16, none⟩ = _ := XB.out 2 (by decide)
                go_wp2
                go_round
                case rel => exact ⟨3, by decide, rfl⟩
                case measure => simp [intOf]
              · have y0 : wr.cell? ⟨b, 9, none⟩ = _ := XA.out 3 (by decide)
                have y1 : wr.cell? ⟨b, 17, none⟩ = _ := XB.out 3 (by decide)
                go_wp2
                go_round
                case rel => exact ⟨4, by decide, rfl⟩
                case measure => simp [intOf]
              · go_wp2
                go_ret
                exact ⟨rfl, hk⟩
end Go.Proofs.YtgofhpalceopiaaDoor
