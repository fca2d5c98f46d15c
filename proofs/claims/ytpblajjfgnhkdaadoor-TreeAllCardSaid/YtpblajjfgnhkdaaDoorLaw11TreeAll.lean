/- Layer 11: each node but the first is one's kid, just once, one deeper than that. -/
import Derived.Test.YtpblajjfgnhkdaaDoorKidS
import Derived.Test.YtpblajjfgnhkdaaDoorRefTree2
namespace Go.Proofs.YtpblajjfgnhkdaaDoor
open Go.RowKit Go.Deep
set_option linter.unusedSimpArgs false
set_option linter.unusedVariables false
/-- how often each was seen: all kids of the first i, the first j of i's -/
def seenS (N : Nat → Nd) (n i j x : Nat) : Int := if 0 < x ∧ x < n ∧ ((N x).parent < (i : Int) ∨ ((N x).parent = (i : Int) ∧ kidN N (i : Int) x < j)) then 1 else 0
theorem seenS_start (N : Nat → Nd) (n x : Nat) (h : ∀ x, 0 < x → x < n → 0 ≤ (N x).parent) : seenS N n 0 0 x = 0 := by
  unfold seenS
  rw [if_neg]
  rintro ⟨h0, h1, h2 | ⟨_, h2⟩⟩
  · have := h x h0 h1; omega
  · omega
theorem seenS_next (N : Nat → Nd) (n i x : Nat) : seenS N n i (kidN N (i : Int) n) x = seenS N n (i + 1) 0 x := by
  unfold seenS
  by_cases h : 0 < x ∧ x < n ∧ ((N x).parent < (i : Int) ∨ ((N x).parent = (i : Int) ∧ kidN N (i : Int) x < kidN N (i : Int) n))
  · rw [if_pos h, if_pos]
    obtain ⟨h0, h1, h2⟩ := h
    exact ⟨h0, h1, .inl (by rcases h2 with h2 | ⟨h2, _⟩ <;> omega)⟩
  · rw [if_neg h, if_neg]
    rintro ⟨h0, h1, h2⟩
    refine h ⟨h0, h1, ?_⟩
    rcases h2 with h2 | ⟨_, h2⟩
    · rcases Int.lt_or_le (N x).parent (i : Int) with h3 | h3
      · exact .inl h3
      · have h4 : (N x).parent = (i : Int) := by omega
        exact .inr ⟨h4, kidN_more h1 h4⟩
    · omega
/-- one more is seen: the kid of number j -/
theorem seenS_kid {N : Nat → Nd} {n i j q : Nat} (hq : 0 < q) (hqn : q < n) (hp : (N q).parent = (i : Int)) (hj : kidN N (i : Int) q = j) (x : Nat) : (if x = q then seenS N n i j q + 1 else seenS N n i j x) = seenS N n i (j + 1) x := by
  by_cases e : x = q
  · subst e
    rw [if_pos rfl]
    unfold seenS
    rw [if_neg (by rintro ⟨_, _, h | ⟨_, h⟩⟩ <;> omega), if_pos ⟨hq, hqn, .inr ⟨hp, by omega⟩⟩]
    rfl
  · rw [if_neg e]
    unfold seenS
    by_cases h : 0 < x ∧ x < n ∧ ((N x).parent < (i : Int) ∨ ((N x).parent = (i : Int) ∧ kidN N (i : Int) x < j))
    · rw [if_pos h, if_pos]
      obtain ⟨h0, h1, h2⟩ := h
      exact ⟨h0, h1, by rcases h2 with h2 | ⟨h2, h3⟩; exact .inl h2; exact .inr ⟨h2, by omega⟩⟩
    · rw [if_neg h, if_neg]
      rintro ⟨h0, h1, h2⟩
      refine h ⟨h0, h1, ?_⟩
      rcases h2 with h2 | ⟨h2, h3⟩
      · exact .inl h2
      · refine .inr ⟨h2, ?_⟩
        have : ¬ kidN N (i : Int) x = j := fun e2 => e (kid_uniq h2 hp (by omega))
        omega
theorem seenS_bd (N : Nat → Nd) (n i j x : Nat) : 0 ≤ seenS N n i j x ∧ seenS N n i j x ≤ 1 := by unfold seenS; split <;> omega
theorem seenS_end {N : Nat → Nd} {n x : Nat} (h : ∀ x, 0 < x → x < n → (N x).parent < (x : Int)) : (0 < x → x < n → seenS N n n 0 x = 1) ∧ seenS N n n 0 0 = 0 := by
  refine ⟨fun h0 h1 => ?_, ?_⟩
  · unfold seenS
    have := h x h0 h1
    exact if_pos ⟨h0, h1, .inl (by omega)⟩
  · unfold seenS
    exact if_neg fun h => by omega
/-- a row of numbers of the call's own -/
structure SeenR (t : TypeId) (w : World) (b n : Nat) (Z : Nat → Int) : Prop where
  own : ∃ cs, Own w b t cs ∧ cs.size = n ∧ ∀ i, i < n → cs[i]? = some (.int .i64 (Z i))
theorem SeenR.kept {t : TypeId} {w w' : World} {b n : Nat} {Z : Nat → Int} (h : SeenR t w b n Z) (k : Kept w w') : SeenR t w' b n Z := by
  obtain ⟨cs, h1, h2, h3⟩ := h.own
  exact ⟨cs, h1.kept k, h2, h3⟩
theorem SeenR.lt {t : TypeId} {w : World} {b n : Nat} {Z : Nat → Int} (h : SeenR t w b n Z) : b < w.heap.size := by obtain ⟨cs, h1, _⟩ := h.own; exact h1.lt
theorem SeenR.free {t : TypeId} {w : World} {b n : Nat} {Z : Nat → Int} (h : SeenR t w b n Z) (i : Nat) : w.frozen? ⟨b, i, none⟩ = false := by obtain ⟨cs, h1, _⟩ := h.own; exact h1.free i
theorem SeenR.at_ {t : TypeId} {w : World} {b n : Nat} {Z : Nat → Int} (h : SeenR t w b n Z) {i : Nat} (hi : i < n) : w.cell? ⟨b, i, none⟩ = some (.int .i64 (Z i)) := by obtain ⟨cs, h1, h2, h3⟩ := h.own; exact (h1.cell i).trans (h3 i hi)
theorem SeenR.put {t : TypeId} {w : World} {b n q : Nat} {Z : Nat → Int} (h : SeenR t w b n Z) (v : Int) : SeenR t (w.setCell ⟨b, q, none⟩ (.int .i64 v)) b n (fun i => if i = q then v else Z i) := by
  obtain ⟨cs, h1, h2, h3⟩ := h.own
  refine ⟨_, h1.set q _, by rw [Array.size_setIfInBounds]; exact h2, fun i hi => ?_⟩
  by_cases e : i = q
  · subst e; rw [Array.getElem?_setIfInBounds_self_of_lt (by omega), if_pos rfl]
  · rw [Array.getElem?_setIfInBounds_ne (by omega), if_neg e]; exact h3 i hi
theorem SeenR.congr {t : TypeId} {w : World} {b n : Nat} {Z Y : Nat → Int} (h : SeenR t w b n Z) (e : ∀ i, Z i = Y i) : SeenR t w b n Y := by
  obtain ⟨cs, h1, h2, h3⟩ := h.own
  exact ⟨cs, h1, h2, fun i hi => by rw [h3 i hi, e]⟩
theorem kid_up {N : Nat → Nd} {n i j : Nat} (h : linksB N n = true) (h0 : rootB (N 0) = true) (hj : j < kidN N (i : Int) n) : ∃ q : Nat, kidZ N (i : Int) n j = (q : Int) ∧ i < q ∧ q < n ∧ (N q).parent = (i : Int) ∧ kidN N (i : Int) q = j ∧ depS N n q = depS N n i + 1 := by
  obtain ⟨q, h1, h2, h3, h4⟩ := kid_at hj
  have hq : 0 < q := by
    rcases Nat.eq_zero_or_pos q with rfl | hp
    · exact absurd h3 (root_not h0 (by omega))
    · exact hp
  have h5 := (linkB_parts (linksB_at h q hq h1)).1
  refine ⟨q, h2, by omega, h1, h3, h4, ?_⟩
  rw [depS_up h hq h1, h3]; rfl
theorem newOnes_other {t : TypeId} {a w : World} {v u : Value} {m b j : Nat} {Z : Nat → Int} (hv : NewOnes t a w v m Z) (hb : b < a.heap.size) : NewOnes t a (w.setCell ⟨b, j, none⟩ u) v m Z := by
  rcases hv with h0 | ⟨b', cap, cur, h1, h2, h3, h4, h5, h6, h7, h8⟩
  · exact .inl h0
  · exact .inr ⟨b', cap, cur, h1, h2, h3, h4, h5, h6.other (show b' ≠ b by omega) _, h7, h8⟩
theorem iv_cell12 {w : World} {o : Option Addr} {n cap : Nat} {Z : Nat → Int} (h : IV w (.slice o n cap) n Z) (hn : 0 < n) : ∃ b off, o = some ⟨b, off, none⟩ ∧ ∀ i, i < n → w.cell? ⟨b, off + i, none⟩ = some (.int .i64 (Z i)) := by
  rcases h with ⟨h0, _⟩ | ⟨b, off, c, hv, _, h3, h4⟩
  · omega
  · injection hv with e1 e2 e3
    subst e1
    exact ⟨b, off, rfl, h4⟩
set_option maxRecDepth 20000 in
set_option maxHeartbeats 1000000 in
theorem treeAll_main (sl : Option Addr) (n cap : Nat) (N : Nat → Nd) (D : Nat → Value) (w : World) (hv : NodesV w (.slice sl n cap) n N D) (hb : n ≤ 1954687338268) (ht : NameT w) :
    Calls Tryd.prog 4 #[.slice sl n cap] w fun e w' => e = .returned (.bool true) ∧ Kept w w' := by
  cases htb : treeB N n with
  | false =>
    have HM := Lib.hid (fun wx (hk : Kept w wx) => treeMay_is _ n N D wx (hv.kept hk) (by omega) (ht.kept hk) false htb)
    have HK := Lib.hid (fun wx (hk : Kept w wx) => treeKids_no _ n N D 0 wx (hv.kept hk) (by omega) (ht.kept hk) (by unfold goodT; rw [htb]; rfl))
    clear hv htb
    have hk : Kept w w := Kept.refl w
    go_enter Tryd.func4, Tryd.ntmps4
    go_wp2_with fail
    refine (awake11_any _ (ht.kept hk)).mono ?_
    rintro e w1 ⟨rfl, hn⟩
    replace hk := hk.trans hn
    clear hn
    go_wp2_with fail
    refine (HM.out _ hk).mono ?_
    rintro e w1 ⟨rfl, hn⟩
    replace hk := hk.trans hn
    clear hn
    go_wp2_with fail
    refine (HK.out _ hk).mono ?_
    rintro e w1 ⟨o1, c1, rfl, hn⟩
    replace hk := hk.trans hn
    clear hn
    go_wp2_with fail
    refine (num_any _ _).mono ?_
    rintro e w1 ⟨rfl, rfl⟩
    go_wp2
    go_ret
    exact ⟨rfl, hk⟩
  | true =>
    have HM := Lib.hid (fun wx (hk : Kept w wx) => treeMay_is _ n N D wx (hv.kept hk) (by omega) (ht.kept hk) true htb)
    obtain ⟨⟨n1, n32⟩, _, hroot, hlinks⟩ := treeB_true.1 htb
    obtain ⟨b, off, rfl, hle, hrow⟩ := hv.row.row (by omega)
    have HKS := Lib.hid (fun wx (hk : Kept w wx) (i : Nat) (hi : i < n) => treeKids_yes _ n N D (i : Int) wx (hv.kept hk) (by omega) (ht.kept hk) (good_of htb hi) _ rfl)
    have HDS := Lib.hid (fun wx (hk : Kept w wx) (i : Nat) (hi : i < n) => treeDepth_is _ n N D (i : Int) wx (hv.kept hk) (by omega) (ht.kept hk) true (good_of htb hi) (depS N n i) rfl)
    have HR := Lib.hid hrow
    have HDB := Lib.hid (depS_bd hlinks n (Nat.le_refl _))
    have HUP := Lib.hid (fun i j hj => kid_up (i := i) (j := j) hlinks hroot hj)
    have HZ := Lib.hid (fun i => kidN_le N (i : Int) n)
    have HS0 := Lib.hid (fun x => seenS_start N n x fun x h0 h1 => (linkB_parts (linksB_at hlinks x h0 h1)).1.1)
    have HSE := Lib.hid (fun x => seenS_end (N := N) (n := n) (x := x) fun x h0 h1 => by have := (linkB_parts (linksB_at hlinks x h0 h1)).1.2; omega)
    have hmk := run_make_row' (P := Tryd.prog) 24 3 (.int .i64 0) 8 Tryd.underlying24 intInfo1 rfl .i64 .i64 n (by omega) (by omega)
    clear hv htb hlinks hroot hrow
    have hk : Kept w w := Kept.refl w
    go_enter Tryd.func4, Tryd.ntmps4
    go_wp2_with fail
    refine (awake11_any _ (ht.kept hk)).mono ?_
    rintro e w1 ⟨rfl, hn⟩
    replace hk := hk.trans hn
    clear hn
    go_wp2_with fail
    refine (HM.out _ hk).mono ?_
    rintro e w1 ⟨rfl, hn⟩
    replace hk := hk.trans hn
    clear hn
    obtain ⟨W0, hW0⟩ : ∃ z, z = w1 := ⟨_, rfl⟩
    rw [← hW0] at hk ⊢
    have HK0 := Lib.hid hk
    clear hW0 hk HM
    go_wp2
    clear hmk
    have hs0 : SeenR 3 (W0.alloc (.cells (madeCells #[.int .i64 0] n) 3)) W0.heap.size n (seenS N n 0 0) := ⟨_, Own.new W0 _ _, size_madeCells #[Value.int .i64 0] n, fun i hi => by rw [HS0.out i]; exact made_zero11 n i hi⟩
    have hk1 : Kept W0 (W0.alloc (.cells (madeCells #[.int .i64 0] n) 3)) := (Kept.refl W0).alloc _
    have hl1 : W0.heap.size < (W0.alloc (.cells (madeCells #[.int .i64 0] n) 3)).heap.size := by simp
    generalize W0.alloc (.cells (madeCells #[.int .i64 0] n) 3) = W1 at *
    have HS1 := Lib.hid hs0
    have HK1 := Lib.hid hk1
    clear hs0 hk1 hl1
    obtain ⟨sB, hsB⟩ : ∃ z, W0.heap.size = z := ⟨_, rfl⟩
    have hgs : W0.heap.size ≤ sB := by omega
    rw [hsB] at HS1 ⊢
    clear hsB
    go_loopw [6, 7, 8, 9, 10, 11, 12, 13, 14] (fun i _ _ _ _ _ _ _ _ wx => ∃ p : Nat, p ≤ n ∧ i = .int .i64 p ∧ Kept W0 wx ∧ SeenR 3 wx sB n (seenS N n p 0)) (fun i _ _ _ _ _ _ _ _ _ => n - (intOf i).toNat)
    case atStart => exact ⟨0, Nat.zero_le _, rfl, HK1.out, HS1.out⟩
    case round =>
      obtain ⟨p, hpn, rfl, kX, hs⟩ := hrel
      obtain ⟨V, rfl⟩ : ∃ V : World, V = wr := ⟨_, rfl⟩
      by_cases hlt : p < n
      · have hi1 : (p : Int) < (n : Int) := by omega
        have hi0 : (0 : Int) ≤ (p : Int) := Int.natCast_nonneg _
        have hp31 : (p : Int) ≤ 31 := by omega
        have hdb := HDB.out p
        have HUPP := Lib.hid (fun j hj => HUP.out p j hj)
        have hM := HZ.out p
        have HNX := Lib.hid (seenS_next N n p)
        have hkk := HK0.out.trans kX
        have lsB := hs.lt
        have CK := Lib.hid (HKS.out V hkk p hlt)
        have CD := Lib.hid (fun wx (h : Kept V wx) => HDS.out wx (hkk.trans h) p hlt)
        obtain ⟨M, hMe⟩ : ∃ M, kidN N (p : Int) n = M := ⟨_, rfl⟩
        rw [hMe] at CK hM HNX HUPP
        clear hMe hkk
        obtain ⟨dp, hdp⟩ : ∃ d, depS N n p = d := ⟨_, rfl⟩
        rw [hdp] at CD hdb HUPP
        clear hdp
        have KX := Lib.hid kX
        have HS2 := Lib.hid hs
        clear kX hs
        go_wp2_with (first
          | (go_at_call 13; (refine CK.out.mono ?_); rintro e w2 ⟨u, rfl, hu, hn2⟩; obtain ⟨ou, cu, rfl⟩ := hu.iv.shape)
          | (go_at_call 15; (refine (CD.out _ hn2).mono ?_); rintro e w3 ⟨rfl, hn3⟩; have hd1 : ¬ dp < 0 := (by omega); have hd2 : ¬ (6 : Int) < dp := (by omega))
          | (go_at_call 18; (with_reducible refine (num_any _ _).mono ?_); rintro e w4 ⟨rfl, rfl⟩))
        have hu3 := Lib.hid (hu.kept hn3)
        have KX3 := Lib.hid (KX.out.trans (hn2.trans hn3))
        have HS3 := Lib.hid (HS2.out.kept (hn2.trans hn3))
        clear hu hn2 hn3 hd1 hd2 HS2 CK CD
        go_loopw [11, 12, 13, 14] (fun j _ _ _ wx => ∃ q : Nat, q ≤ M ∧ j = .int .i64 q ∧ Kept W0 wx ∧ SeenR 3 wx sB n (seenS N n p q) ∧ NewOnes 3 V wx (.slice ou M cu) M (kidZ N (p : Int) n)) (fun j _ _ _ _ => M - (intOf j).toNat)
        case atStart => exact ⟨0, Nat.zero_le _, rfl, KX3.out, HS3.out, hu3.out⟩
        case round =>
          obtain ⟨j, hjM, rfl, kY, hs, hu⟩ := hrel
          by_cases hlt2 : j < M
          · have hj1 : (j : Int) < (M : Int) := by omega
            have hj0 : (0 : Int) ≤ (j : Int) := Int.natCast_nonneg _
            have hj31 : (j : Int) ≤ 31 := by omega
            obtain ⟨q, hz, hq1, hqn, hqp, hqk, hqd⟩ := HUPP.out j hlt2
            obtain ⟨ba, oa, hoa, hca⟩ := iv_cell12 hu.iv (by omega)
            subst hoa
            have a0 := hca j hlt2
            rw [hz] at a0
            have c0 := (node_cells (HR.out.kept (HK0.out.trans kY)) hqn).c0
            rw [hqp] at c0
            have g1 : ¬ (q : Int) ≤ (p : Int) := by omega
            have g2 : ¬ (n : Int) ≤ (q : Int) := by omega
            have hq0 : (0 : Int) ≤ (q : Int) := Int.natCast_nonneg _
            have hqi : (q : Int) < (n : Int) := by omega
            have CD2 := Lib.hid (HDS.out wr (HK0.out.trans kY) q hqn)
            rw [hqd] at CD2
            have s0 := hs.at_ hqn
            have sl := hs.lt
            have sf := hs.free q
            have hsb := seenS_bd N n p j q
            have HKID := Lib.hid (seenS_kid (n := n) (j := j) (show 0 < q by omega) hqn hqp hqk)
            have HPREV := Lib.hid (fun (j' : Nat) (e : j = j' + 1) => (show ∃ q' : Nat, kidZ N (p : Int) n j' = (q' : Int) ∧ q' < q from by
              obtain ⟨q', hz', _, hqn', hqp', hqk', _⟩ := HUPP.out j' (by omega)
              refine ⟨q', hz', ?_⟩
              rcases Nat.lt_trichotomy q' q with h | h | h
              · exact h
              · subst h; omega
              · have := kidN_more h hqp; omega))
            have HSX := Lib.hid hs
            have HUX := Lib.hid hu
            have KY := Lib.hid kY
            clear hz hqp hqk hqd hs hu kY
            generalize seenS N n p j q = sv at *
            rcases Nat.eq_zero_or_pos j with h0 | h0
            · subst h0
              rw [Nat.add_zero] at a0
              clear HPREV hca
              go_wp2_with (first
                | (go_at_call 15; (refine CD2.out.mono ?_); rintro e w3 ⟨rfl, hn3⟩; have s1 := cell_kept11 hn3 s0; have sl1 := Nat.lt_of_lt_of_le sl hn3.size; have sf1 := (hn3.below.frozen sl).trans sf)
                | (go_at_call 18; (with_reducible refine (num_any _ _).mono ?_); rintro e w4 ⟨rfl, rfl⟩))
              exact ⟨⟨0 + 1, by omega, by first | rfl | go_num, (KY.out.trans hn3).set hgs _, ((HSX.out.kept hn3).put _).congr HKID.out, newOnes_other (HUX.out.kept hn3) lsB⟩, by first | (simp [intOf]; done) | (simp [intOf]; omega)⟩
            · obtain ⟨j', rfl⟩ : ∃ j', j = j' + 1 := ⟨j - 1, by omega⟩
              obtain ⟨q', hz', hqq⟩ := HPREV.out j' rfl
              have a1 := hca j' (by omega)
              rw [hz'] at a1
              have g3 : ¬ (q : Int) ≤ (q' : Int) := by omega
              have hj2 : (0 : Int) < ((j' + 1 : Nat) : Int) := by omega
              have hj3 : ((j' + 1 : Nat) : Int) - 1 = (j' : Int) := by omega
              have hj4 : (0 : Int) ≤ (j' : Int) := Int.natCast_nonneg _
              have hj5 : (j' : Int) < (M : Int) := by omega
              clear HPREV hca hz'
              go_wp2_with (first
                | (go_at_call 15; (refine CD2.out.mono ?_); rintro e w3 ⟨rfl, hn3⟩; have s1 := cell_kept11 hn3 s0; have sl1 := Nat.lt_of_lt_of_le sl hn3.size; have sf1 := (hn3.below.frozen sl).trans sf)
                | (go_at_call 18; (with_reducible refine (num_any _ _).mono ?_); rintro e w4 ⟨rfl, rfl⟩))
              exact ⟨⟨j' + 1 + 1, by omega, by first | rfl | go_num, (KY.out.trans hn3).set hgs _, ((HSX.out.kept hn3).put _).congr HKID.out, newOnes_other (HUX.out.kept hn3) lsB⟩, by first | (simp [intOf]; done) | (simp [intOf]; omega)⟩
          · obtain rfl : j = M := by omega
            have HSX := Lib.hid (hs.congr HNX.out)
            have KY := Lib.hid kY
            clear hs kY hu
            go_wp2
            exact ⟨⟨p + 1, by omega, by first | rfl | go_num, KY.out, HSX.out⟩, by first | (simp [intOf]; done) | (simp [intOf]; omega)⟩
      · obtain rfl : p = n := by omega
        have HSX := Lib.hid hs
        have KX := Lib.hid kX
        clear hs kX
        go_wp2
        go_loopw [15] (fun i wx => ∃ j : Nat, 1 ≤ j ∧ j ≤ p ∧ i = .int .i64 j ∧ wx = V) (fun i _ => p - (intOf i).toNat)
        case atStart => exact ⟨1, Nat.le_refl _, n1, rfl, by first | rfl | trivial⟩
        case round =>
          obtain ⟨j, hj1, hjn, rfl, rfl⟩ := hrel
          by_cases hlt2 : j < p
          · have hi1 : (j : Int) < (p : Int) := by omega
            have hi0 : (0 : Int) ≤ (j : Int) := Int.natCast_nonneg _
            have s0 := HSX.out.at_ hlt2
            rw [(HSE.out j).1 (by omega) hlt2] at s0
            go_wp2
            exact ⟨⟨j + 1, by omega, by omega, by first | rfl | go_num, by first | rfl | trivial⟩, by first | (simp [intOf]; done) | (simp [intOf]; omega)⟩
          · obtain rfl : j = p := by omega
            have s0 := HSX.out.at_ (show 0 < j by omega)
            rw [(HSE.out j).2] at s0
            have hj0 : (0 : Int) < (j : Int) := by omega
            go_wp2
            go_ret
            exact ⟨rfl, HK0.out.trans KX.out⟩
theorem treeAll_walk (v : Value) (n : Nat) (N : Nat → Nd) (D : Nat → Value) (w : World) (hv : NodesV w v n N D) (hb : n ≤ 1954687338268) (ht : NameT w) :
    Calls Tryd.prog 4 #[v] w fun e w' => e = .returned (.bool true) ∧ Kept w w' := by
  obtain ⟨sl, cap, rfl⟩ := hv.row.shape
  exact treeAll_main sl n cap N D w hv hb ht
end Go.Proofs.YtpblajjfgnhkdaaDoor
