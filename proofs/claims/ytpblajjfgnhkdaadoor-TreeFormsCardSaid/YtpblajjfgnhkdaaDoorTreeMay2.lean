/- Layer 11: are nodes a tree? by the program. -/
import Derived.Test.YtpblajjfgnhkdaaDoorTreeMay
import Derived.Deep.CutRange
import Derived.Deep.RegionHeld3
import Derived.BigRegion
namespace Go.Proofs.YtpblajjfgnhkdaaDoor
open Go.RowKit Go.Deep
set_option linter.unusedSimpArgs false
set_option linter.unusedVariables false
theorem lit_cell11 (w : World) (v : Value) (t : TypeId) : (w.alloc (.cells #[v] t)).cell? ⟨w.heap.size, 0, none⟩ = some v := by simp
theorem cell_kept11 {w w' : World} {a : Addr} {v : Value} (k : Kept w w') (h : w.cell? a = some v) : w'.cell? a = some v := (k.cell (World.block_lt_of_cell? w _ h)).trans h
theorem heldC1 {w W X : World} {p0 : Addr} {v0 : Value} (h : Kept w W ∧ W.cell? p0 = some v0) (k : Kept W X) : Kept w X ∧ X.cell? p0 = some v0 := by
  obtain ⟨h, h0⟩ := h
  exact ⟨h.trans k, cell_kept11 k h0⟩
theorem heldC2 {w W X : World} {p0 p1 : Addr} {v0 v1 : Value} (h : Kept w W ∧ W.cell? p0 = some v0 ∧ W.cell? p1 = some v1) (k : Kept W X) : Kept w X ∧ X.cell? p0 = some v0 ∧ X.cell? p1 = some v1 := by
  obtain ⟨h, h0, h1⟩ := h
  exact ⟨h.trans k, cell_kept11 k h0, cell_kept11 k h1⟩
theorem heldC13 {w W X : World} {p0 p1 p2 p3 p4 p5 p6 p7 p8 p9 p10 p11 p12 : Addr} {v0 v1 v2 v3 v4 v5 v6 v7 v8 v9 v10 v11 v12 : Value} (h : Kept w W ∧ W.cell? p0 = some v0 ∧ W.cell? p1 = some v1 ∧ W.cell? p2 = some v2 ∧ W.cell? p3 = some v3 ∧ W.cell? p4 = some v4 ∧ W.cell? p5 = some v5 ∧ W.cell? p6 = some v6 ∧ W.cell? p7 = some v7 ∧ W.cell? p8 = some v8 ∧ W.cell? p9 = some v9 ∧ W.cell? p10 = some v10 ∧ W.cell? p11 = some v11 ∧ W.cell? p12 = some v12) (k : Kept W X) : Kept w X ∧ X.cell? p0 = some v0 ∧ X.cell? p1 = some v1 ∧ X.cell? p2 = some v2 ∧ X.cell? p3 = some v3 ∧ X.cell? p4 = some v4 ∧ X.cell? p5 = some v5 ∧ X.cell? p6 = some v6 ∧ X.cell? p7 = some v7 ∧ X.cell? p8 = some v8 ∧ X.cell? p9 = some v9 ∧ X.cell? p10 = some v10 ∧ X.cell? p11 = some v11 ∧ X.cell? p12 = some v12 := by
  obtain ⟨h, h0, h1, h2, h3, h4, h5, h6, h7, h8, h9, h10, h11, h12⟩ := h
  exact ⟨h.trans k, cell_kept11 k h0, cell_kept11 k h1, cell_kept11 k h2, cell_kept11 k h3, cell_kept11 k h4, cell_kept11 k h5, cell_kept11 k h6, cell_kept11 k h7, cell_kept11 k h8, cell_kept11 k h9, cell_kept11 k h10, cell_kept11 k h11, cell_kept11 k h12⟩

def FirstOddN (N : Nat → Nd) (n : Nat) (w : World) (e : Ending) (w' : World) : Prop :=
  ∃ z : Int, e = .returned (.int .i64 z) ∧ (0 ≤ z ↔ nodesB N n = false) ∧ -1 ≤ z ∧ Kept w w'
set_option maxHeartbeats 2000000 in
theorem indexNodes_any (o : Option Addr) (n cap : Nat) (N : Nat → Nd) (D : Nat → Value) (w : World) (hv : NodesV w (.slice o n cap) n N D) (hn : n ≤ 4611686018427387904) (ht : NameT w) :
    Calls Tryd.prog 41 #[.slice o n cap, .func (.func 33) #[] #[]] w (FirstOddN N n w) := by
  have HV := Lib.hid hv
  go_enter Tryd.func41, Tryd.ntmps41
  go_wp2
  go_loopw [4, 5, 8] (fun _ _ i wx => ∃ k : Nat, k ≤ n ∧ i = .int .i64 k ∧ Kept w wx ∧ nodesB N k = true) (fun _ _ i _ => n - (intOf i).toNat)
  case atStart => exact ⟨0, Nat.zero_le _, rfl, Kept.refl _, rfl⟩
  case round =>
    obtain ⟨k, hk4, rfl, hk, hal⟩ := hrel
    have hal' := Lib.hid hal
    clear hal
    by_cases hlt : k < n
    · have hi1 : (k : Int) < (n : Int) := by omega
      obtain ⟨b, off, rfl, hle, hrow⟩ := (HV.out.kept hk).row.row (by omega)
      have hnd := (HV.out.kept hk).each k hlt
      obtain ⟨c0, c1, c2, c3, c4, c5⟩ := node_cells hrow hlt
      obtain ⟨o2, cap2, hD⟩ := hnd.decls.shape
      rw [hD] at c4 hnd
      have HC := Lib.hid (odd_any (N k) o2 cap2 wr (ht.kept hk) hnd)
      have hno := Lib.hid (fun h => nodesB_no (N := N) hlt h)
      have hyes := Lib.hid (fun (h : nodeB (N k) = true) => (show nodesB N (k + 1) = true by unfold nodesB; rw [hal'.out, h]; rfl))
      clear hrow hnd hD
      generalize nodeB (N k) = nb at *
      generalize N k = y at *
      cases nb with
      | false =>
        go_wp2_with fail
        refine HC.out.mono ?_
        rintro e w1 ⟨rfl, hn1⟩
        go_wp2
        go_ret
        exact ⟨_, rfl, ⟨fun _ => hno.out (by first | exact trivial | rfl), fun _ => by omega⟩, by omega, hk.trans hn1⟩
      | true =>
        go_wp2_with fail
        refine HC.out.mono ?_
        rintro e w1 ⟨rfl, hn1⟩
        go_wp2
        go_roundw
        case rel => exact ⟨k + 1, by omega, by go_num, hk.trans hn1, hyes.out (by first | exact trivial | rfl)⟩
        case measure => simp [intOf]; omega
    · obtain rfl : k = n := by omega
      go_wp2
      go_ret
      exact ⟨_, rfl, ⟨fun h => by omega, fun h => by rw [hal'.out] at h; cases h⟩, by omega, hk⟩
theorem containsNodes_any (o : Option Addr) (n cap : Nat) (N : Nat → Nd) (D : Nat → Value) (w : World) (hv : NodesV w (.slice o n cap) n N D) (hn : n ≤ 4611686018427387904) (ht : NameT w) :
    Calls Tryd.prog 32 #[.slice o n cap, .func (.func 33) #[] #[]] w fun e w' => e = .returned (.bool (!nodesB N n)) ∧ Kept w w' := by
  have hk : Kept w w := Kept.refl w
  go_enter Tryd.func32, Tryd.ntmps32
  go_wp2_with fail
  refine (indexNodes_any o n cap N D _ hv hn ht).mono ?_
  rintro e w1 ⟨z, rfl, hz, z1, hn1⟩
  have Hz := Lib.hid hz
  clear hz
  rcases Int.lt_or_le z 0 with hl | hl
  all_goals
    go_wp2
    go_ret
    refine ⟨ret_bool ?_, hn1⟩
    cases ha : nodesB N n
    · have := Hz.out.2 ha
      first | omega | simp
    · first | (have := Hz.out.1 hl; rw [ha] at this; cases this) | (simp; omega)
theorem held_allocG {S : World → Prop} {W : World} {t : TypeId} {es : Array Value} {K : Act → World → Prop} {G : Act → World → Prop} {a : Act} (hK : ∀ (a : Act) (X : World), S X → (S X → G a X) → K a X) (hS : S (W.alloc (.cells es t)))
    (h : ∀ X, S X → Own X W.heap.size t es → G a X) : K a (W.alloc (.cells es t)) := hK a _ hS fun h2 => h _ h2 (Own.new _ _ _)
/-- the depths of the first k, in a row of 32 -/
structure DepW (t : TypeId) (w : World) (b k : Nat) (N : Nat → Nd) : Prop where
  own : ∃ cs, Own w b t cs ∧ cs.size = 32 ∧ (∀ i, i < 32 → ∃ x : Int, cs[i]? = some (.int .i64 x)) ∧ ∀ i, i < k → cs[i]? = some (.int .i64 (depS N k i))
theorem DepW.kept {t : TypeId} {w w' : World} {b k : Nat} {N : Nat → Nd} (h : DepW t w b k N) (kp : Kept w w') : DepW t w' b k N := by
  obtain ⟨cs, h1, h2, h3, h4⟩ := h.own
  exact ⟨cs, h1.kept kp, h2, h3, h4⟩
theorem DepW.lt {t : TypeId} {w : World} {b k : Nat} {N : Nat → Nd} (h : DepW t w b k N) : b < w.heap.size := by obtain ⟨cs, h1, _⟩ := h.own; exact h1.lt
theorem DepW.free {t : TypeId} {w : World} {b k : Nat} {N : Nat → Nd} (h : DepW t w b k N) (i : Nat) : w.frozen? ⟨b, i, none⟩ = false := by obtain ⟨cs, h1, _⟩ := h.own; exact h1.free i
theorem DepW.at_ {t : TypeId} {w : World} {b k : Nat} {N : Nat → Nd} (h : DepW t w b k N) {i : Nat} (hi : i < k) : w.cell? ⟨b, i, none⟩ = some (.int .i64 (depS N k i)) := by obtain ⟨cs, h1, h2, h3, h4⟩ := h.own; exact (h1.cell i).trans (h4 i hi)
theorem DepW.old {t : TypeId} {w : World} {b k : Nat} {N : Nat → Nd} (h : DepW t w b k N) {i : Nat} (hi : i < 32) : ∃ x : Int, w.cell? ⟨b, i, none⟩ = some (.int .i64 x) := by obtain ⟨cs, h1, h2, h3, h4⟩ := h.own; obtain ⟨x, hx⟩ := h3 i hi; exact ⟨x, (h1.cell i).trans hx⟩
theorem DepW.put {t : TypeId} {w : World} {b k : Nat} {N : Nat → Nd} (h : DepW t w b k N) (hk : k < 32) {v : Int} (hv : depS N (k + 1) k = v) : DepW t (w.setCell ⟨b, k, none⟩ (.int .i64 v)) b (k + 1) N := by
  obtain ⟨cs, h1, h2, h3, h4⟩ := h.own
  refine ⟨_, h1.set k _, by rw [Array.size_setIfInBounds]; exact h2, fun i hi => ?_, fun i hi => ?_⟩
  · by_cases e : i = k
    · subst e; exact ⟨v, by rw [Array.getElem?_setIfInBounds_self_of_lt (by omega)]⟩
    · rw [Array.getElem?_setIfInBounds_ne (by omega)]; exact h3 i hi
  · by_cases e : i = k
    · subst e; rw [Array.getElem?_setIfInBounds_self_of_lt (by omega), hv]
    · rw [Array.getElem?_setIfInBounds_ne (by omega), h4 i (by omega)]
      show _ = some (Value.int .i64 (if i = k then _ else depS N k i))
      rw [if_neg e]
theorem linkB_no1 {N : Nat → Nd} {i : Nat} (h : inB 0 (i - 1) (N i).parent = false) : linkB N i = false := by unfold linkB; rw [h]; rfl
theorem linkB_no2 {N : Nat → Nd} {i : Nat} (h : ¬ depS N i (N i).parent.toNat < 6) : linkB N i = false := by unfold linkB; rw [decide_eq_false h, Bool.and_false, Bool.false_and]
theorem linkB_is {N : Nat → Nd} {i : Nat} (h1 : inB 0 (i - 1) (N i).parent = true) (h2 : depS N i (N i).parent.toNat < 6) : linkB N i = underB (N (N i).parent.toNat) (N i) := by unfold linkB; rw [h1, decide_eq_true h2]; rfl
set_option maxRecDepth 20000 in
set_option maxHeartbeats 4000000 in
theorem treeMay_main (b off n cap : Nat) (N : Nat → Nd) (D : Nat → Value) (w : World) (hv : NodesV w (.slice (some ⟨b, off, none⟩) n cap) n N D) (hrow : RowAt w b off 6 n (nodeC N D)) (h1 : 1 ≤ n) (h32 : n ≤ 32) (ht : NameT w) :
    Calls Tryd.prog 19 #[.slice (some ⟨b, off, none⟩) n cap] w fun e w' => e = .returned (.bool (treeB N n)) ∧ Kept w w' := by
  have Hs := Lib.hid (show treeB N n = (nodesB N n && rootB (N 0) && linksB N n) by unfold treeB; rw [inB_true.2 ⟨by omega, by omega⟩]; rfl)
  have HV := Lib.hid hv
  have HROW := Lib.hid hrow
  have hC0 := Lib.hid (node_cells hrow (show 0 < n by omega))
  clear hv hrow
  have hi1 : ¬ (n : Int) < 1 := by omega
  have hi2 : ¬ (32 : Int) < (n : Int) := by omega
  have hi3 : (0 : Int) < (n : Int) := by omega
  generalize treeB N n = tb at *
  cases hA : nodesB N n with
  | false =>
    rw [hA] at Hs
    have HC := Lib.hid (fun wx (hk : Kept w wx) => (show Calls Tryd.prog 32 #[.slice (some ⟨b, off, none⟩) n cap, .func (.func 33) #[] #[]] wx (fun e w' => e = .returned (.bool true) ∧ Kept wx w') from by have := containsNodes_any _ n cap N D wx (HV.out.kept hk) (by omega) (ht.kept hk); rw [hA] at this; exact this))
    clear hA
    have hk : Kept w w := Kept.refl w
    go_enter Tryd.func19, Tryd.ntmps19
    go_wp2_with fail
    refine (HC.out _ hk).mono ?_
    rintro e w1 ⟨rfl, hn⟩
    replace hk := hk.trans hn
    clear hn
    go_wp2
    go_ret
    exact ⟨ret_bool (by rw [Hs.out]; rfl), hk⟩
  | true =>
    rw [hA] at Hs
    have HC := Lib.hid (fun wx (hk : Kept w wx) => (show Calls Tryd.prog 32 #[.slice (some ⟨b, off, none⟩) n cap, .func (.func 33) #[] #[]] wx (fun e w' => e = .returned (.bool false) ∧ Kept wx w') from by have := containsNodes_any _ n cap N D wx (HV.out.kept hk) (by omega) (ht.kept hk); rw [hA] at this; exact this))
    clear hA
    have HR := Lib.hid (treeRoot_any (N 0) (D 0))
    cases hB : rootB (N 0) with
    | false =>
      rw [hB] at Hs HR
      clear hB
      have hk : Kept w w := Kept.refl w
      go_enter Tryd.func19, Tryd.ntmps19
      go_wp2_with fail
      refine (HC.out _ hk).mono ?_
      rintro e w1 ⟨rfl, hn⟩
      replace hk := hk.trans hn
      clear hn
      have c0 := cell_kept11 hk hC0.out.c0
      have c1 := cell_kept11 hk hC0.out.c1
      have c2 := cell_kept11 hk hC0.out.c2
      have c3 := cell_kept11 hk hC0.out.c3
      have c4 := cell_kept11 hk hC0.out.c4
      have c5 := cell_kept11 hk hC0.out.c5
      rw [Nat.zero_mul, Nat.add_zero] at c0 c1 c2 c3 c4 c5
      generalize N 0 = y at *
      generalize D 0 = d at *
      go_wp2_with fail
      refine (HR.out _).mono ?_
      rintro e w1 ⟨rfl, hn⟩
      replace hk := hk.trans hn
      clear hn
      go_wp2
      go_ret
      exact ⟨ret_bool (by rw [Hs.out]; rfl), hk⟩
    | true =>
      rw [hB] at Hs HR
      clear hB
      have hk : Kept w w := Kept.refl w
      go_enter Tryd.func19, Tryd.ntmps19
      go_wp2_with fail
      refine (HC.out _ hk).mono ?_
      rintro e w1 ⟨rfl, hn⟩
      replace hk := hk.trans hn
      clear hn
      have c0 := cell_kept11 hk hC0.out.c0
      have c1 := cell_kept11 hk hC0.out.c1
      have c2 := cell_kept11 hk hC0.out.c2
      have c3 := cell_kept11 hk hC0.out.c3
      have c4 := cell_kept11 hk hC0.out.c4
      have c5 := cell_kept11 hk hC0.out.c5
      rw [Nat.zero_mul, Nat.add_zero] at c0 c1 c2 c3 c4 c5
      have HR1 := Lib.hid HR.out
      clear HR
      go_wp2_with fail
      refine (HR1.out _).mono ?_
      rintro e w1 ⟨rfl, hn⟩
      replace hk := hk.trans hn
      clear hn
      clear c0 c1 c2 c3 c4 c5
      obtain ⟨W0, hW0⟩ : ∃ z, z = w1 := ⟨_, rfl⟩
      rw [← hW0] at hk ⊢
      clear hW0
      have HK0 := Lib.hid hk
      clear hk
      go_wp2
      have hd0 : DepW 64 (W0.alloc (.cells #[.int .i64 0, .int .i64 0, .int .i64 0, .int .i64 0, .int .i64 0, .int .i64 0, .int .i64 0, .int .i64 0, .int .i64 0, .int .i64 0, .int .i64 0, .int .i64 0, .int .i64 0, .int .i64 0, .int .i64 0, .int .i64 0, .int .i64 0, .int .i64 0, .int .i64 0, .int .i64 0, .int .i64 0, .int .i64 0, .int .i64 0, .int .i64 0, .int .i64 0, .int .i64 0, .int .i64 0, .int .i64 0, .int .i64 0, .int .i64 0, .int .i64 0, .int .i64 0] 64)) W0.heap.size 1 N :=
        ⟨_, Own.new W0 _ _, rfl, fun i hi => ⟨0, by show (Array.replicate 32 (Value.int .i64 0))[i]? = _; rw [Array.getElem?_replicate, if_pos hi]⟩, fun i hi => by
          obtain rfl : i = 0 := by omega
          rfl⟩
      have hk1 : Kept W0 (W0.alloc (.cells #[.int .i64 0, .int .i64 0, .int .i64 0, .int .i64 0, .int .i64 0, .int .i64 0, .int .i64 0, .int .i64 0, .int .i64 0, .int .i64 0, .int .i64 0, .int .i64 0, .int .i64 0, .int .i64 0, .int .i64 0, .int .i64 0, .int .i64 0, .int .i64 0, .int .i64 0, .int .i64 0, .int .i64 0, .int .i64 0, .int .i64 0, .int .i64 0, .int .i64 0, .int .i64 0, .int .i64 0, .int .i64 0, .int .i64 0, .int .i64 0, .int .i64 0, .int .i64 0] 64)) := (Kept.refl W0).alloc _
      generalize W0.alloc (.cells #[.int .i64 0, .int .i64 0, .int .i64 0, .int .i64 0, .int .i64 0, .int .i64 0, .int .i64 0, .int .i64 0, .int .i64 0, .int .i64 0, .int .i64 0, .int .i64 0, .int .i64 0, .int .i64 0, .int .i64 0, .int .i64 0, .int .i64 0, .int .i64 0, .int .i64 0, .int .i64 0, .int .i64 0, .int .i64 0, .int .i64 0, .int .i64 0, .int .i64 0, .int .i64 0, .int .i64 0, .int .i64 0, .int .i64 0, .int .i64 0, .int .i64 0, .int .i64 0] 64) = W1 at *
      have HD0 := Lib.hid hd0
      have HK1 := Lib.hid hk1
      clear hd0 hk1
      obtain ⟨dB, hdB⟩ : ∃ z, W0.heap.size = z := ⟨_, rfl⟩
      have hgd : W0.heap.size ≤ dB := by omega
      rw [hdB] at HD0 ⊢
      clear hdB
      go_loopw [4, 5] (fun i _ wx => ∃ k : Nat, 1 ≤ k ∧ k ≤ n ∧ i = .int .i64 k ∧ Kept W0 wx ∧ DepW 64 wx dB k N ∧ linksB N k = true) (fun i _ _ => n - (intOf i).toNat)
      case atStart => exact ⟨1, Nat.le_refl _, h1, rfl, HK1.out, HD0.out, rfl⟩
      case round =>
        obtain ⟨k, hk1, hkn, rfl, kX, hd, hall⟩ := hrel
        have HALL := Lib.hid hall
        clear hall
        by_cases hlt : k < n
        · have hi4 : (k : Int) < (n : Int) := by omega
          have hi0 : (0 : Int) ≤ (k : Int) := Int.natCast_nonneg _
          have hr := HROW.out.kept (HK0.out.trans kX)
          have lB : b < w.heap.size := World.block_lt_of_cell? _ _ (hC0.out.c0)
          have hzn := (HK0.out.trans kX).size
          have hz0 := HK0.out.size
          obtain ⟨c0, c1, c2, c3, c4, c5⟩ := node_cells hr hlt
          have HNO := Lib.hid (fun (h : linkB N k = false) => linksB_no (n := n) (by omega) hlt h)
          have HYES := Lib.hid (fun (h : linkB N k = true) => (show linksB N (k + 1) = true by unfold linksB; rw [HALL.out, if_neg (by omega), h]; rfl))
          have HPT := Lib.hid (fun h => (linkB_parts (N := N) (i := k) h).1)
          have HDB := Lib.hid (depS_bd HALL.out k (Nat.le_refl _))
          have HL1 := Lib.hid (fun h => linkB_no1 (N := N) (i := k) h)
          have HL2 := Lib.hid (fun h => linkB_no2 (N := N) (i := k) h)
          have HL3 := Lib.hid (fun h h' => linkB_is (N := N) (i := k) h h')
          have HDP := Lib.hid (show depS N (k + 1) k = depS N k (N k).parent.toNat + 1 by show (if k = k then _ else _) = _; rw [if_pos rfl, if_neg (by omega)])
          have HX := Lib.hid (fun p (hp : p < n) => node_cells hr hp)
          clear hr
          obtain ⟨⟨pa, ki, fl, cl, m, P, T, te⟩, hy⟩ : ∃ y, N k = y := ⟨_, rfl⟩
          rw [hy] at c0 c1 c2 c3 c5 HL1 HL2 HL3 HDP HPT
          dsimp only at c0 c1 c2 c3 c5 HL1 HL2 HL3 HDP HPT
          generalize linkB N k = lk at *
          obtain ⟨o2, cap2, hD⟩ := (HV.out.each k hlt).decls.shape
          rw [hD] at c4
          rw [hy] at c4
          dsimp only at c4
          clear hD
          go_upto_region 8 with fail
          obtain ⟨X, eX, kB, bX⟩ := boxes1 wr #[.int .i64 pa, .int .i64 ki, .int .i64 fl, .int .i64 cl, .slice o2 m cap2, .string te] 43
          rw [← eX]
          clear eX
          have lD := hd.lt
          replace hd := hd.kept kB
          obtain ⟨z, hz⟩ : ∃ z, wr.heap.size = z := ⟨_, rfl⟩
          rw [hz] at bX lD ⊢
          have i0 := bX.at 0 _ rfl
          have i1 := bX.at 1 _ rfl
          have i2 := bX.at 2 _ rfl
          have i3 := bX.at 3 _ rfl
          have i4 := bX.at 4 _ rfl
          have i5 := bX.at 5 _ rfl
          have BX := Lib.hid bX
          have HDX := Lib.hid hd
          have kY := Lib.hid (kX.trans kB)
          have HX2 := Lib.hid (fun p (hp : p < n) => (show NdCells X b (off + p * 6) (N p) (D p) from by obtain ⟨a0, a1, a2, a3, a4, a5⟩ := HX.out p hp; exact ⟨cell_kept11 kB a0, cell_kept11 kB a1, cell_kept11 kB a2, cell_kept11 kB a3, cell_kept11 kB a4, cell_kept11 kB a5⟩))
          clear bX hd kX kB HX c0 c1 c2 c3 c4 c5
          go_cut [58] from 35 to 58 (fun v wx => v = .bool (!lk) ∧ Kept X wx)
          case first =>
            have hwk : IntKind.i64.wrap ((k : Int) - 1) = (k : Int) - 1 := IntWalk.i64_in _ (by omega)
            cases hp1 : inB 0 (k - 1) pa with
            | false =>
              have hv1 := HL1.out hp1
              subst hv1
              clear BX i1 i2 i3 i4 i5 HDX kY HX2 HL2 HL3 HDP HNO HYES HV HROW
              refine wp_region_held_drew (S := fun W => Kept X W ∧ W.cell? ⟨z, 0, none⟩ = some (.int .i64 pa)) (by kernel_rfl) (⟨(Kept.refl X).drew, i0⟩) (fun hS => ?_)
              refine wpAnyH_take (i := 0) (v := ?_) rfl (by kernel_rfl) (by kernel_rfl) (by kernel_rfl) (fun _ _ _ h => h) (Or.inl ⟨by rfl, ?_⟩) (by assumption) ?_
              rotate_left
              · intro W hSW; (try dsimp only at hSW); go_simp; (first | done | with_reducible rfl)
              simp only [Act.put, List.getElem_toArray, List.getElem_cons_zero, List.getElem_cons_succ, List.setIfInBounds_toArray, List.set_cons_zero, List.set_cons_succ]
              refine wpAnyH_take (i := 1) (v := ?_) rfl (by kernel_rfl) (by kernel_rfl) (by kernel_rfl) (fun _ _ _ h => h) (Or.inl ⟨by rfl, ?_⟩) (by assumption) ?_
              rotate_left
              · intro W hSW; (try dsimp only at hSW); go_simp; (first | done | with_reducible rfl)
              simp only [Act.put, List.getElem_toArray, List.getElem_cons_zero, List.getElem_cons_succ, List.setIfInBounds_toArray, List.set_cons_zero, List.set_cons_succ]
              refine wpAnyH_take (i := 2) (v := ?_) rfl (by kernel_rfl) (by kernel_rfl) (by kernel_rfl) (fun _ _ _ h => h) (Or.inl ⟨by rfl, ?_⟩) (by assumption) ?_
              rotate_left
              · intro W hSW; (try dsimp only at hSW); go_simp; (first | done | with_reducible rfl)
              simp only [Act.put, List.getElem_toArray, List.getElem_cons_zero, List.getElem_cons_succ, List.setIfInBounds_toArray, List.set_cons_zero, List.set_cons_succ]
              refine wpAnyH_take (i := 3) (v := ?_) rfl (by kernel_rfl) (by kernel_rfl) (by kernel_rfl) (fun _ _ _ h => h) (Or.inl ⟨by rfl, ?_⟩) (by assumption) ?_
              rotate_left
              · intro W hSW; (try dsimp only at hSW); have c9 := hSW.2; go_simp; (first | done | with_reducible rfl)
              simp only [Act.put, List.getElem_toArray, List.getElem_cons_zero, List.getElem_cons_succ, List.setIfInBounds_toArray, List.set_cons_zero, List.set_cons_succ]
              refine wpAnyH_ready (rs := [4]) (by kernel_rfl) (by simp) ?_
              refine (AllReadyH.cons rfl (fun K hK => ?_) AllReadyH.nil)
              go_simp
              refine held_allocG hK.out (heldC1 hS ((Kept.refl _).alloc _)) ?_
              clear hS hK
              intro X9 hS sp
              have sp0 := sp.at 0 _ rfl
              try simp only [Act.put, List.getElem_toArray, List.getElem_cons_zero, List.getElem_cons_succ, List.setIfInBounds_toArray, List.set_cons_zero, List.set_cons_succ]
              refine wpAnyH_ready (rs := [5]) (by kernel_rfl) (by simp) ?_
              refine (AllReadyH.cons rfl (fun K hK => ?_) AllReadyH.nil)
              go_simp
              refine (each1_any _ _ pa _ _ sp0).mono ?_
              rintro e w3 ⟨rfl, rfl⟩
              rw [hp1]
              refine hK.out _ _ (hS) (fun hS2 => ?_)
              clear hS hK
              have hS := hS2
              clear hS2
              try simp only [Act.put, List.getElem_toArray, List.getElem_cons_zero, List.getElem_cons_succ, List.setIfInBounds_toArray, List.set_cons_zero, List.set_cons_succ]
              refine wpAnyH_take (i := 6) (v := ?_) rfl (by kernel_rfl) (by kernel_rfl) (by kernel_rfl) (fun _ _ _ h => h) (Or.inl ⟨by rfl, ?_⟩) (by assumption) ?_
              rotate_left
              · intro W hSW; (try dsimp only at hSW); go_simp; (first | done | with_reducible rfl)
              simp only [Act.put, List.getElem_toArray, List.getElem_cons_zero, List.getElem_cons_succ, List.setIfInBounds_toArray, List.set_cons_zero, List.set_cons_succ]
              refine wpAnyH_take (i := 7) (v := ?_) rfl (by kernel_rfl) (by kernel_rfl) (by kernel_rfl) (fun _ _ _ h => h) (Or.inl ⟨by rfl, ?_⟩) (by assumption) ?_
              rotate_left
              · intro W hSW; (try dsimp only at hSW); go_simp; (first | done | with_reducible rfl)
              simp only [Act.put, List.getElem_toArray, List.getElem_cons_zero, List.getElem_cons_succ, List.setIfInBounds_toArray, List.set_cons_zero, List.set_cons_succ]
              refine wpAnyH_take (i := 8) (v := undef) rfl (by kernel_rfl) (by kernel_rfl) (by kernel_rfl) (fun _ _ _ h => h) (Or.inr ⟨by rfl, rfl⟩) (by assumption) ?_
              simp only [Act.put, List.getElem_toArray, List.getElem_cons_zero, List.getElem_cons_succ, List.setIfInBounds_toArray, List.set_cons_zero, List.set_cons_succ]
              refine wpAnyH_take (i := 9) (v := undef) rfl (by kernel_rfl) (by kernel_rfl) (by kernel_rfl) (fun _ _ _ h => h) (Or.inr ⟨by rfl, rfl⟩) (by assumption) ?_
              simp only [Act.put, List.getElem_toArray, List.getElem_cons_zero, List.getElem_cons_succ, List.setIfInBounds_toArray, List.set_cons_zero, List.set_cons_succ]
              refine wpAnyH_take (i := 10) (v := undef) rfl (by kernel_rfl) (by kernel_rfl) (by kernel_rfl) (fun _ _ _ h => h) (Or.inr ⟨by rfl, rfl⟩) (by assumption) ?_
              simp only [Act.put, List.getElem_toArray, List.getElem_cons_zero, List.getElem_cons_succ, List.setIfInBounds_toArray, List.set_cons_zero, List.set_cons_succ]
              refine wpAnyH_take (i := 11) (v := undef) rfl (by kernel_rfl) (by kernel_rfl) (by kernel_rfl) (fun _ _ _ h => h) (Or.inr ⟨by rfl, rfl⟩) (by assumption) ?_
              simp only [Act.put, List.getElem_toArray, List.getElem_cons_zero, List.getElem_cons_succ, List.setIfInBounds_toArray, List.set_cons_zero, List.set_cons_succ]
              refine wpAnyH_take (i := 12) (v := undef) rfl (by kernel_rfl) (by kernel_rfl) (by kernel_rfl) (fun _ _ _ h => h) (Or.inr ⟨by rfl, rfl⟩) (by assumption) ?_
              simp only [Act.put, List.getElem_toArray, List.getElem_cons_zero, List.getElem_cons_succ, List.setIfInBounds_toArray, List.set_cons_zero, List.set_cons_succ]
              refine wpAnyH_take (i := 13) (v := ?_) rfl (by kernel_rfl) (by kernel_rfl) (by kernel_rfl) (fun _ _ _ h => h) (Or.inl ⟨by rfl, ?_⟩) (by assumption) ?_
              rotate_left
              · intro W hSW; (try dsimp only at hSW); go_simp; (first | done | with_reducible rfl)
              simp only [Act.put, List.getElem_toArray, List.getElem_cons_zero, List.getElem_cons_succ, List.setIfInBounds_toArray, List.set_cons_zero, List.set_cons_succ]
              refine wpAnyH_take (i := 14) (v := ?_) rfl (by kernel_rfl) (by kernel_rfl) (by kernel_rfl) (fun _ _ _ h => h) (Or.inl ⟨by rfl, ?_⟩) (by assumption) ?_
              rotate_left
              · intro W hSW; (try dsimp only at hSW); go_simp; (first | done | with_reducible rfl)
              simp only [Act.put, List.getElem_toArray, List.getElem_cons_zero, List.getElem_cons_succ, List.setIfInBounds_toArray, List.set_cons_zero, List.set_cons_succ]
              refine wpAnyH_take (i := 15) (v := undef) rfl (by kernel_rfl) (by kernel_rfl) (by kernel_rfl) (fun _ _ _ h => h) (Or.inr ⟨by rfl, rfl⟩) (by assumption) ?_
              simp only [Act.put, List.getElem_toArray, List.getElem_cons_zero, List.getElem_cons_succ, List.setIfInBounds_toArray, List.set_cons_zero, List.set_cons_succ]
              refine wpAnyH_take (i := 16) (v := undef) rfl (by kernel_rfl) (by kernel_rfl) (by kernel_rfl) (fun _ _ _ h => h) (Or.inr ⟨by rfl, rfl⟩) (by assumption) ?_
              simp only [Act.put, List.getElem_toArray, List.getElem_cons_zero, List.getElem_cons_succ, List.setIfInBounds_toArray, List.set_cons_zero, List.set_cons_succ]
              refine wpAnyH_take (i := 17) (v := undef) rfl (by kernel_rfl) (by kernel_rfl) (by kernel_rfl) (fun _ _ _ h => h) (Or.inr ⟨by rfl, rfl⟩) (by assumption) ?_
              simp only [Act.put, List.getElem_toArray, List.getElem_cons_zero, List.getElem_cons_succ, List.setIfInBounds_toArray, List.set_cons_zero, List.set_cons_succ]
              refine wpAnyH_take (i := 18) (v := undef) rfl (by kernel_rfl) (by kernel_rfl) (by kernel_rfl) (fun _ _ _ h => h) (Or.inr ⟨by rfl, rfl⟩) (by assumption) ?_
              simp only [Act.put, List.getElem_toArray, List.getElem_cons_zero, List.getElem_cons_succ, List.setIfInBounds_toArray, List.set_cons_zero, List.set_cons_succ]
              refine wpAnyH_take (i := 19) (v := undef) rfl (by kernel_rfl) (by kernel_rfl) (by kernel_rfl) (fun _ _ _ h => h) (Or.inr ⟨by rfl, rfl⟩) (by assumption) ?_
              simp only [Act.put, List.getElem_toArray, List.getElem_cons_zero, List.getElem_cons_succ, List.setIfInBounds_toArray, List.set_cons_zero, List.set_cons_succ]
              refine wpAnyH_take (i := 20) (v := undef) rfl (by kernel_rfl) (by kernel_rfl) (by kernel_rfl) (fun _ _ _ h => h) (Or.inr ⟨by rfl, rfl⟩) (by assumption) ?_
              simp only [Act.put, List.getElem_toArray, List.getElem_cons_zero, List.getElem_cons_succ, List.setIfInBounds_toArray, List.set_cons_zero, List.set_cons_succ]
              refine wpAnyH_take (i := 21) (v := undef) rfl (by kernel_rfl) (by kernel_rfl) (by kernel_rfl) (fun _ _ _ h => h) (Or.inr ⟨by rfl, rfl⟩) (by assumption) ?_
              simp only [Act.put, List.getElem_toArray, List.getElem_cons_zero, List.getElem_cons_succ, List.setIfInBounds_toArray, List.set_cons_zero, List.set_cons_succ]
              refine wpAnyH_take (i := 22) (v := undef) rfl (by kernel_rfl) (by kernel_rfl) (by kernel_rfl) (fun _ _ _ h => h) (Or.inr ⟨by rfl, rfl⟩) (by assumption) ?_
              simp only [Act.put, List.getElem_toArray, List.getElem_cons_zero, List.getElem_cons_succ, List.setIfInBounds_toArray, List.set_cons_zero, List.set_cons_succ]
              refine wpAnyH_take (i := 23) (v := ?_) rfl (by kernel_rfl) (by kernel_rfl) (by kernel_rfl) (fun _ _ _ h => h) (Or.inl ⟨by rfl, ?_⟩) (by assumption) ?_
              rotate_left
              · intro W hSW; (try dsimp only at hSW); go_simp; (first | done | with_reducible rfl)
              simp only [Act.put, List.getElem_toArray, List.getElem_cons_zero, List.getElem_cons_succ, List.setIfInBounds_toArray, List.set_cons_zero, List.set_cons_succ]
              refine wpAnyH_done (by kernel_rfl) ?_ _
              go_wp2_with fail
              go_meet
              exact ⟨rfl, hS.1⟩
            | true =>
              obtain ⟨p0, p1⟩ := inB_true.1 hp1
              obtain ⟨p, rfl⟩ := Int.eq_ofNat_of_zero_le p0
              have hpk : p < k := by omega
              rw [show ((p : Int)).toNat = p from rfl] at HL2 HL3 HDP
              have d0 := HDX.out.at_ hpk
              have hpi : (p : Int) < 32 := by omega
              have hpi0 : (0 : Int) ≤ (p : Int) := Int.natCast_nonneg _
              have hpin : (p : Int) < (n : Int) := by omega
              by_cases hd6 : depS N k p < 6
              · have hv1 := HL3.out hp1 hd6
                subst hv1
                obtain ⟨e0, e1, e2, e3, e4, e5⟩ := HX2.out p (by omega)
                have HU := Lib.hid (fun wx => under_any (N p) ⟨(p : Int), ki, fl, cl, m, P, T, te⟩ (D p) (.slice o2 m cap2) wx)
                generalize underB (N p) ⟨(p : Int), ki, fl, cl, m, P, T, te⟩ = ub at *
                generalize N p = x at *
                generalize D p = dp2 at *
                generalize depS N k p = dp at *
                have hd7 : ¬ (6 : Int) ≤ dp := by omega
                have hd8 : decide ((6 : Int) ≤ dp) = false := decide_eq_false hd7
                clear BX HDX kY HX2 HL1 HL2 HL3 HDP HNO HYES HV HROW p0 p1 hy hd6
                have hS : Kept X X.drew ∧ X.drew.cell? ⟨z, 0, none⟩ = some (.int .i64 (p : Int)) ∧ X.drew.cell? ⟨z, 1, none⟩ = some (.int .i64 ki) ∧ X.drew.cell? ⟨z, 2, none⟩ = some (.int .i64 fl) ∧ X.drew.cell? ⟨z, 3, none⟩ = some (.int .i64 cl) ∧ X.drew.cell? ⟨z, 4, none⟩ = some (.slice o2 m cap2) ∧ X.drew.cell? ⟨z, 5, none⟩ = some (.string te) ∧ X.drew.cell? ⟨dB, p, none⟩ = some (.int .i64 dp) ∧
                  X.drew.cell? ⟨b, off + p * 6, none⟩ = some (.int .i64 x.parent) ∧ X.drew.cell? ⟨b, off + p * 6 + 1, none⟩ = some (.int .i64 x.kind) ∧ X.drew.cell? ⟨b, off + p * 6 + 2, none⟩ = some (.int .i64 x.flt) ∧ X.drew.cell? ⟨b, off + p * 6 + 3, none⟩ = some (.int .i64 x.clr) ∧ X.drew.cell? ⟨b, off + p * 6 + 4, none⟩ = some dp2 ∧ X.drew.cell? ⟨b, off + p * 6 + 5, none⟩ = some (.string x.text) :=
                  ⟨(Kept.refl X).drew, i0, i1, i2, i3, i4, i5, d0, e0, e1, e2, e3, e4, e5⟩
                clear i0 i1 i2 i3 i4 i5 d0 e0 e1 e2 e3 e4 e5
                go_region_held3 (fun W => Kept X W ∧ W.cell? ⟨z, 0, none⟩ = some (.int .i64 (p : Int)) ∧ W.cell? ⟨z, 1, none⟩ = some (.int .i64 ki) ∧ W.cell? ⟨z, 2, none⟩ = some (.int .i64 fl) ∧ W.cell? ⟨z, 3, none⟩ = some (.int .i64 cl) ∧ W.cell? ⟨z, 4, none⟩ = some (.slice o2 m cap2) ∧ W.cell? ⟨z, 5, none⟩ = some (.string te) ∧ W.cell? ⟨dB, p, none⟩ = some (.int .i64 dp) ∧
                  W.cell? ⟨b, off + p * 6, none⟩ = some (.int .i64 x.parent) ∧ W.cell? ⟨b, off + p * 6 + 1, none⟩ = some (.int .i64 x.kind) ∧ W.cell? ⟨b, off + p * 6 + 2, none⟩ = some (.int .i64 x.flt) ∧ W.cell? ⟨b, off + p * 6 + 3, none⟩ = some (.int .i64 x.clr) ∧ W.cell? ⟨b, off + p * 6 + 4, none⟩ = some dp2 ∧ W.cell? ⟨b, off + p * 6 + 5, none⟩ = some (.string x.text))
                  (first | exact hS | assumption | exact heldC13 ‹Kept X _ ∧ _› hn | exact heldC13 ‹Kept X _ ∧ _› ((Kept.refl _).alloc _))
                  (first
                    | (go_at_call 29; (refine (each1_any _ _ (p : Int) _ _ (by first | (simp; done) | (simp [World.cell?]; done))).mono ?_); rintro e w3 ⟨rfl, rfl⟩; rw [hp1])
                    | (go_at_call 35; (with_reducible refine (HU.out _).mono ?_); rintro e w3 ⟨rfl, hn⟩))
                go_wp2_with fail
                go_meet
                exact ⟨rfl, (‹Kept X _ ∧ _›).1⟩
              · have hv1 := HL2.out hd6
                subst hv1
                generalize depS N k p = dp at *
                have hd7 : (6 : Int) ≤ dp := by omega
                clear BX i1 i2 i3 i4 i5 HDX kY HX2 HL1 HL2 HL3 HDP HNO HYES HV HROW p0 p1 hy
                refine wp_region_held_drew (S := fun W => Kept X W ∧ W.cell? ⟨z, 0, none⟩ = some (.int .i64 (p : Int)) ∧ W.cell? ⟨dB, p, none⟩ = some (.int .i64 dp)) (by kernel_rfl) (⟨(Kept.refl X).drew, i0, d0⟩) (fun hS => ?_)
                refine wpAnyH_take (i := 0) (v := ?_) rfl (by kernel_rfl) (by kernel_rfl) (by kernel_rfl) (fun _ _ _ h => h) (Or.inl ⟨by rfl, ?_⟩) (by assumption) ?_
                rotate_left
                · intro W hSW; (try dsimp only at hSW); go_simp; (first | done | with_reducible rfl)
                simp only [Act.put, List.getElem_toArray, List.getElem_cons_zero, List.getElem_cons_succ, List.setIfInBounds_toArray, List.set_cons_zero, List.set_cons_succ]
                refine wpAnyH_take (i := 1) (v := ?_) rfl (by kernel_rfl) (by kernel_rfl) (by kernel_rfl) (fun _ _ _ h => h) (Or.inl ⟨by rfl, ?_⟩) (by assumption) ?_
                rotate_left
                · intro W hSW; (try dsimp only at hSW); go_simp; (first | done | with_reducible rfl)
                simp only [Act.put, List.getElem_toArray, List.getElem_cons_zero, List.getElem_cons_succ, List.setIfInBounds_toArray, List.set_cons_zero, List.set_cons_succ]
                refine wpAnyH_take (i := 2) (v := ?_) rfl (by kernel_rfl) (by kernel_rfl) (by kernel_rfl) (fun _ _ _ h => h) (Or.inl ⟨by rfl, ?_⟩) (by assumption) ?_
                rotate_left
                · intro W hSW; (try dsimp only at hSW); go_simp; (first | done | with_reducible rfl)
                simp only [Act.put, List.getElem_toArray, List.getElem_cons_zero, List.getElem_cons_succ, List.setIfInBounds_toArray, List.set_cons_zero, List.set_cons_succ]
                refine wpAnyH_take (i := 3) (v := ?_) rfl (by kernel_rfl) (by kernel_rfl) (by kernel_rfl) (fun _ _ _ h => h) (Or.inl ⟨by rfl, ?_⟩) (by assumption) ?_
                rotate_left
                · intro W hSW; (try dsimp only at hSW); have c9 := hSW.2.1; go_simp; (first | done | with_reducible rfl)
                simp only [Act.put, List.getElem_toArray, List.getElem_cons_zero, List.getElem_cons_succ, List.setIfInBounds_toArray, List.set_cons_zero, List.set_cons_succ]
                refine wpAnyH_ready (rs := [4]) (by kernel_rfl) (by simp) ?_
                refine (AllReadyH.cons rfl (fun K hK => ?_) AllReadyH.nil)
                go_simp
                refine held_allocG hK.out (heldC2 hS ((Kept.refl _).alloc _)) ?_
                clear hS hK
                intro X9 hS sp
                have sp0 := sp.at 0 _ rfl
                try simp only [Act.put, List.getElem_toArray, List.getElem_cons_zero, List.getElem_cons_succ, List.setIfInBounds_toArray, List.set_cons_zero, List.set_cons_succ]
                refine wpAnyH_ready (rs := [5]) (by kernel_rfl) (by simp) ?_
                refine (AllReadyH.cons rfl (fun K hK => ?_) AllReadyH.nil)
                go_simp
                refine (each1_any _ _ (p : Int) _ _ sp0).mono ?_
                rintro e w3 ⟨rfl, rfl⟩
                rw [hp1]
                refine hK.out _ _ (hS) (fun hS2 => ?_)
                clear hS hK
                have hS := hS2
                clear hS2
                try simp only [Act.put, List.getElem_toArray, List.getElem_cons_zero, List.getElem_cons_succ, List.setIfInBounds_toArray, List.set_cons_zero, List.set_cons_succ]
                refine wpAnyH_take (i := 6) (v := ?_) rfl (by kernel_rfl) (by kernel_rfl) (by kernel_rfl) (fun _ _ _ h => h) (Or.inl ⟨by rfl, ?_⟩) (by assumption) ?_
                rotate_left
                · intro W hSW; (try dsimp only at hSW); go_simp; (first | done | with_reducible rfl)
                simp only [Act.put, List.getElem_toArray, List.getElem_cons_zero, List.getElem_cons_succ, List.setIfInBounds_toArray, List.set_cons_zero, List.set_cons_succ]
                refine wpAnyH_take (i := 7) (v := ?_) rfl (by kernel_rfl) (by kernel_rfl) (by kernel_rfl) (fun _ _ _ h => h) (Or.inl ⟨by rfl, ?_⟩) (by assumption) ?_
                rotate_left
                · intro W hSW; (try dsimp only at hSW); go_simp; (first | done | with_reducible rfl)
                simp only [Act.put, List.getElem_toArray, List.getElem_cons_zero, List.getElem_cons_succ, List.setIfInBounds_toArray, List.set_cons_zero, List.set_cons_succ]
                refine wpAnyH_take (i := 8) (v := ?_) rfl (by kernel_rfl) (by kernel_rfl) (by kernel_rfl) (fun _ _ _ h => h) (Or.inl ⟨by rfl, ?_⟩) (by assumption) ?_
                rotate_left
                · intro W hSW; (try dsimp only at hSW); have c9 := hSW.2.1; have c8 := hSW.2.2; go_simp; (first | done | with_reducible rfl)
                simp only [Act.put, List.getElem_toArray, List.getElem_cons_zero, List.getElem_cons_succ, List.setIfInBounds_toArray, List.set_cons_zero, List.set_cons_succ]
                refine wpAnyH_take (i := 9) (v := ?_) rfl (by kernel_rfl) (by kernel_rfl) (by kernel_rfl) (fun _ _ _ h => h) (Or.inl ⟨by rfl, ?_⟩) (by assumption) ?_
                rotate_left
                · intro W hSW; (try dsimp only at hSW); have c9 := hSW.2.1; have c8 := hSW.2.2; go_simp; (first | done | with_reducible rfl)
                simp only [Act.put, List.getElem_toArray, List.getElem_cons_zero, List.getElem_cons_succ, List.setIfInBounds_toArray, List.set_cons_zero, List.set_cons_succ]
                refine wpAnyH_take (i := 10) (v := ?_) rfl (by kernel_rfl) (by kernel_rfl) (by kernel_rfl) (fun _ _ _ h => h) (Or.inl ⟨by rfl, ?_⟩) (by assumption) ?_
                rotate_left
                · intro W hSW; (try dsimp only at hSW); have c9 := hSW.2.1; have c8 := hSW.2.2; go_simp; (first | done | with_reducible rfl)
                simp only [Act.put, List.getElem_toArray, List.getElem_cons_zero, List.getElem_cons_succ, List.setIfInBounds_toArray, List.set_cons_zero, List.set_cons_succ]
                refine wpAnyH_take (i := 11) (v := ?_) rfl (by kernel_rfl) (by kernel_rfl) (by kernel_rfl) (fun _ _ _ h => h) (Or.inl ⟨by rfl, ?_⟩) (by assumption) ?_
                rotate_left
                · intro W hSW; (try dsimp only at hSW); have c9 := hSW.2.1; have c8 := hSW.2.2; go_simp; (first | done | with_reducible rfl)
                simp only [Act.put, List.getElem_toArray, List.getElem_cons_zero, List.getElem_cons_succ, List.setIfInBounds_toArray, List.set_cons_zero, List.set_cons_succ]
                refine wpAnyH_take (i := 12) (v := .bool true) rfl (by kernel_rfl) (by kernel_rfl) (by kernel_rfl) (fun _ _ _ h => h) (Or.inl ⟨by rfl, ?_⟩) (by assumption) ?_
                · intro W hSW; go_simp; (try first | done | (simp; omega))
                simp only [Act.put, List.getElem_toArray, List.getElem_cons_zero, List.getElem_cons_succ, List.setIfInBounds_toArray, List.set_cons_zero, List.set_cons_succ]
                refine wpAnyH_take (i := 13) (v := ?_) rfl (by kernel_rfl) (by kernel_rfl) (by kernel_rfl) (fun _ _ _ h => h) (Or.inl ⟨by rfl, ?_⟩) (by assumption) ?_
                rotate_left
                · intro W hSW; (try dsimp only at hSW); go_simp; (first | done | with_reducible rfl)
                simp only [Act.put, List.getElem_toArray, List.getElem_cons_zero, List.getElem_cons_succ, List.setIfInBounds_toArray, List.set_cons_zero, List.set_cons_succ]
                refine wpAnyH_take (i := 14) (v := ?_) rfl (by kernel_rfl) (by kernel_rfl) (by kernel_rfl) (fun _ _ _ h => h) (Or.inl ⟨by rfl, ?_⟩) (by assumption) ?_
                rotate_left
                · intro W hSW; (try dsimp only at hSW); go_simp; (first | done | with_reducible rfl)
                simp only [Act.put, List.getElem_toArray, List.getElem_cons_zero, List.getElem_cons_succ, List.setIfInBounds_toArray, List.set_cons_zero, List.set_cons_succ]
                refine wpAnyH_take (i := 15) (v := undef) rfl (by kernel_rfl) (by kernel_rfl) (by kernel_rfl) (fun _ _ _ h => h) (Or.inr ⟨by rfl, rfl⟩) (by assumption) ?_
                simp only [Act.put, List.getElem_toArray, List.getElem_cons_zero, List.getElem_cons_succ, List.setIfInBounds_toArray, List.set_cons_zero, List.set_cons_succ]
                refine wpAnyH_take (i := 16) (v := undef) rfl (by kernel_rfl) (by kernel_rfl) (by kernel_rfl) (fun _ _ _ h => h) (Or.inr ⟨by rfl, rfl⟩) (by assumption) ?_
                simp only [Act.put, List.getElem_toArray, List.getElem_cons_zero, List.getElem_cons_succ, List.setIfInBounds_toArray, List.set_cons_zero, List.set_cons_succ]
                refine wpAnyH_take (i := 17) (v := undef) rfl (by kernel_rfl) (by kernel_rfl) (by kernel_rfl) (fun _ _ _ h => h) (Or.inr ⟨by rfl, rfl⟩) (by assumption) ?_
                simp only [Act.put, List.getElem_toArray, List.getElem_cons_zero, List.getElem_cons_succ, List.setIfInBounds_toArray, List.set_cons_zero, List.set_cons_succ]
                refine wpAnyH_take (i := 18) (v := undef) rfl (by kernel_rfl) (by kernel_rfl) (by kernel_rfl) (fun _ _ _ h => h) (Or.inr ⟨by rfl, rfl⟩) (by assumption) ?_
                simp only [Act.put, List.getElem_toArray, List.getElem_cons_zero, List.getElem_cons_succ, List.setIfInBounds_toArray, List.set_cons_zero, List.set_cons_succ]
                refine wpAnyH_take (i := 19) (v := undef) rfl (by kernel_rfl) (by kernel_rfl) (by kernel_rfl) (fun _ _ _ h => h) (Or.inr ⟨by rfl, rfl⟩) (by assumption) ?_
                simp only [Act.put, List.getElem_toArray, List.getElem_cons_zero, List.getElem_cons_succ, List.setIfInBounds_toArray, List.set_cons_zero, List.set_cons_succ]
                refine wpAnyH_take (i := 20) (v := undef) rfl (by kernel_rfl) (by kernel_rfl) (by kernel_rfl) (fun _ _ _ h => h) (Or.inr ⟨by rfl, rfl⟩) (by assumption) ?_
                simp only [Act.put, List.getElem_toArray, List.getElem_cons_zero, List.getElem_cons_succ, List.setIfInBounds_toArray, List.set_cons_zero, List.set_cons_succ]
                refine wpAnyH_take (i := 21) (v := undef) rfl (by kernel_rfl) (by kernel_rfl) (by kernel_rfl) (fun _ _ _ h => h) (Or.inr ⟨by rfl, rfl⟩) (by assumption) ?_
                simp only [Act.put, List.getElem_toArray, List.getElem_cons_zero, List.getElem_cons_succ, List.setIfInBounds_toArray, List.set_cons_zero, List.set_cons_succ]
                refine wpAnyH_take (i := 22) (v := undef) rfl (by kernel_rfl) (by kernel_rfl) (by kernel_rfl) (fun _ _ _ h => h) (Or.inr ⟨by rfl, rfl⟩) (by assumption) ?_
                simp only [Act.put, List.getElem_toArray, List.getElem_cons_zero, List.getElem_cons_succ, List.setIfInBounds_toArray, List.set_cons_zero, List.set_cons_succ]
                refine wpAnyH_take (i := 23) (v := ?_) rfl (by kernel_rfl) (by kernel_rfl) (by kernel_rfl) (fun _ _ _ h => h) (Or.inl ⟨by rfl, ?_⟩) (by assumption) ?_
                rotate_left
                · intro W hSW; (try dsimp only at hSW); go_simp; (first | done | with_reducible rfl)
                simp only [Act.put, List.getElem_toArray, List.getElem_cons_zero, List.getElem_cons_succ, List.setIfInBounds_toArray, List.set_cons_zero, List.set_cons_succ]
                refine wpAnyH_done (by kernel_rfl) ?_ _
                go_wp2_with fail
                go_meet
                exact ⟨rfl, hS.1⟩
          case rest =>
            obtain ⟨rfl, kC⟩ := hcut
            cases lk with
            | false =>
              go_wp2
              go_ret
              exact ⟨ret_bool (by rw [Hs.out, HNO.out (by first | exact trivial | rfl)]; rfl), HK0.out.trans (kY.out.trans kC)⟩
            | true =>
              obtain ⟨p0, p1⟩ := HPT.out (by first | exact trivial | rfl)
              obtain ⟨p, rfl⟩ := Int.eq_ofNat_of_zero_le p0
              have hpk : p < k := by omega
              rw [show ((p : Int)).toNat = p from rfl] at HDP
              have hdc := HDX.out.kept kC
              have d0 := hdc.at_ hpk
              obtain ⟨ox, hox⟩ := hdc.old (show k < 32 by omega)
              have df := hdc.free k
              have dl := hdc.lt
              have db := HDB.out p
              have j0 := cell_kept11 kC i0
              have hpi : (p : Int) < 32 := by omega
              have hpi0 : (0 : Int) ≤ (p : Int) := Int.natCast_nonneg _
              have hki : (k : Int) < 32 := by omega
              have kZ := Lib.hid (kY.out.trans kC)
              have HDC := Lib.hid hdc
              clear kC hdc i0 i1 i2 i3 i4 i5 BX HDX kY HX2 HL1 HL2 HL3 HV HROW HNO HC HPT HDB p0 p1 hy
              generalize depS N k p = dp at *
              go_wp2
              exact ⟨⟨k + 1, by omega, by omega, by first | rfl | go_num, kZ.out.set hgd _, HDC.out.put (by omega) HDP.out, HYES.out (by first | exact trivial | rfl)⟩, by first | (simp [intOf]; done) | (simp [intOf]; omega)⟩
        · obtain rfl : k = n := by omega
          go_wp2
          go_ret
          exact ⟨ret_bool (by rw [Hs.out, HALL.out]; rfl), HK0.out.trans kX⟩
end Go.Proofs.YtpblajjfgnhkdaaDoor
