/- Layer 10: of two declarations of one thing the later one wins: the walk. -/
import Derived.Test.YtnbagilcbngdcaaDoorRow10S
import Derived.Test.YtnbagilcbngdcaaDoorMask
import Derived.Test.YtnbagilcbngdcaaDoorDecimal
namespace Go.Proofs.YtnbagilcbngdcaaDoor
open Go.RowKit
set_option linter.unusedSimpArgs false
set_option linter.unusedVariables false
set_option maxHeartbeats 8000000
set_option maxRecDepth 20000
theorem cascadeRow_bad (wm di a b c : Int) (k A B : Nat) (hk4 : bits .and .i64 a 3 = (k : Int)) (hk3 : k < 4) (hA : bits .and .i64 b 1023 = (A : Int)) (hA2 : A ≤ 1023) (hB : bits .and .i64 c 1023 = (B : Int)) (hB2 : B ≤ 1023) (w : World) (ht : TabN w) (hp : Pow w) (hm : modeMayB wm di = false) :
    Calls Tryd.prog 8 #[modeV wm di, .int .i64 a, .int .i64 b, .int .i64 c] w fun e w' => e = .returned (.bool true) ∧ Kept w w' := by
  have h1 : applyS wm di 1 (fun _ => 10) (fun _ => ⟨#[55]⟩) = (zeroS, 1000) := if_neg (by unfold declsB; rw [hm]; simp)
  have H1 := Lib.hid (fun wx u (hu : RV 2 wx u 1 (declC (fun _ => 10) (fun _ => ⟨#[55]⟩))) (hx : TabN wx) (hy : Pow wx) => apply_is wm di u 1 (fun _ => 10) (fun _ => ⟨#[55]⟩) zeroS 1000 wx hu (by decide) hx hy (fun i _ => by show (1 : Nat) ≤ _; decide) h1)
  have HA := Lib.hid (fun wx => decimal_any A (by omega) wx)
  have HB := Lib.hid (fun wx => decimal_any B (by omega) wx)
  clear h1 hm
  have hk : Kept w w := Kept.refl w
  go_enter Tryd.func8, Tryd.ntmps8
  go_wp2_with fail
  refine with_boxes1 ?_
  intro X hX m
  have hsz := hk.size
  replace hk := hk.trans hX
  clear hX
  replace m_l := m.lt
  replace m_0 := m.at 0 _ rfl
  replace m_1 := m.at 1 _ rfl
  refine (awake10_any _ (ht.kept hk) (hp.kept hk)).mono ?_
  rintro e w1 ⟨rfl, hn⟩
  replace hk := hk.trans hn
  replace m := m.kept hn
  clear hn
  replace m_l := m.lt
  replace m_0 := m.at 0 _ rfl
  replace m_1 := m.at 1 _ rfl
  go_wp2_with fail
  refine (HA.out _).mono ?_
  rintro e w1 ⟨rfl, hn⟩
  replace hk := hk.trans hn
  replace m := m.kept hn
  clear hn
  replace m_l := m.lt
  replace m_0 := m.at 0 _ rfl
  replace m_1 := m.at 1 _ rfl
  go_wp2_with fail
  refine (HB.out _).mono ?_
  rintro e w1 ⟨rfl, hn⟩
  replace hk := hk.trans hn
  replace m := m.kept hn
  clear hn
  replace m_l := m.lt
  replace m_0 := m.at 0 _ rfl
  replace m_1 := m.at 1 _ rfl
  go_wp2_with fail
  refine wp_loop_rounds 1 ?_
  rw [rounds_succ]
  go_wp2_with fail
  refine with_boxes1 ?_
  intro X hX e
  have hsz := hk.size
  replace hk := hk.trans hX
  replace m := m.kept hX
  clear hX
  replace m_l := m.lt
  replace m_0 := m.at 0 _ rfl
  replace m_1 := m.at 1 _ rfl
  refine (H1.out _ _ (rv_lit e 2 1 (by decide) (declC (fun _ => 10) (fun _ => ⟨#[55]⟩)) rfl) (ht.kept hk) (hp.kept hk)).mono ?_
  rintro e w1 ⟨rfl, hn⟩
  replace hk := hk.trans hn
  replace m := m.kept hn
  replace e := e.kept hn
  clear hn
  replace m_l := m.lt
  replace m_0 := m.at 0 _ rfl
  replace m_1 := m.at 1 _ rfl
  clear e
  go_wp2_with (first | (refine here_store 42 _ _ rfl ?_; refine wpList_store_own rfl 42 _ _ rfl _ _ rfl rfl (Own.new _ _ _) (by rfl) (by kernel_rfl) (by rfl) ?_; intro X s hoX hkX; have hsz := hk.size; replace hk := hkX _ (hk.alloc _) (by first | omega | (simp; omega)); have m_l := m.lt; replace m := (m.alloc _).same (hoX _ (by first | omega | (simp; omega))); clear hoX hkX; replace m_l := m.lt; replace m_0 := m.at 0 _ rfl; replace m_1 := m.at 1 _ rfl))
  go_wp2_with fail
  refine (num_any _ _).mono ?_
  rintro e w1 ⟨rfl, rfl⟩
  go_wp2_with fail
  refine (num_any _ _).mono ?_
  rintro e w1 ⟨rfl, rfl⟩
  go_wp2
  go_ret
  exact ⟨rfl, hk⟩
theorem cascadeRow_ok (wm di a b c : Int) (k A B ph : Nat) (hk4 : bits .and .i64 a 3 = (k : Int)) (hk3 : k < 4) (hA : bits .and .i64 b 1023 = (A : Int)) (hA2 : A ≤ 1023) (hB : bits .and .i64 c 1023 = (B : Int)) (hB2 : B ≤ 1023) (w : World) (ht : TabN w) (hp : Pow w) (hm : modeMayB wm di = true)
    (hph : ph < 4) (hp4 : phF wm di k 4 = (ph : Int)) (hm1 : mapS wm di (10 + (ph : Int)) = (6 + (k : Int), 0)) (hm2 : mapS wm di (6 + (k : Int)) = (6 + (k : Int), 0)) :
    Calls Tryd.prog 8 #[modeV wm di, .int .i64 a, .int .i64 b, .int .i64 c] w fun e w' => e = .returned (.bool true) ∧ Kept w w' := by
  have hq := fun (s : Sty) (w : World) => eql_sty s w
  have HA := Lib.hid (fun wx => decimal_any A (by omega) wx)
  have HB := Lib.hid (fun wx => decimal_any B (by omega) wx)
  have i1 : inB 0 28 (10 + (ph : Int)) = true := inB_true.2 (by omega)
  have i2 : inB 0 28 (6 + (k : Int)) = true := inB_true.2 (by omega)
  have h3 := apply_two hm i1 i2 k hk3 A B (by omega) (by omega) hm1 hm2
  have h4 := apply_two hm i2 i1 k hk3 A B (by omega) (by omega) hm2 hm1
  have zA := dec_size10 A (by omega)
  have zB := dec_size10 B (by omega)
  have HE := Lib.hid (fun (e : Nat) (he : e < 4) => row_side wm di hm e he)
  have HONE := Lib.hid (fun (e j : Nat) (he : e < 4) (hj : j < 4) (h : mapS wm di (10 + (e : Int)) = (6 + (j : Int), 0)) => apply_one hm (inB_true.2 (by omega : 0 ≤ 10 + (e : Int) ∧ 10 + (e : Int) ≤ 28)) j hj 7 (by decide) h)
  rw [← seven] at HONE
  generalize (⟨(Lib.decDigits A).toArray⟩ : ByteArray) = DA at *
  generalize (⟨(Lib.decDigits B).toArray⟩ : ByteArray) = DB at *
  have ck := marg_k newS k hk3 ⟨1, (B : Int)⟩
  have cv := marg_v newS k hk3 ⟨1, (B : Int)⟩
  obtain ⟨R, hR⟩ : ∃ z, setLen newS (6 + (k : Int)) ⟨1, (B : Int)⟩ = z := ⟨_, rfl⟩
  rw [hR] at h3 h4 ck cv
  clear hR
  have hs2 : ∀ (p q : Int), ∀ i, i < 2 → (litT [(p, DA), (q, DB)] i).size ≤ 140737488355328 := by
    intro p q i hi
    rcases (by omega : i = 0 ∨ i = 1) with rfl | rfl
    · show DA.size ≤ _; omega
    · show DB.size ≤ _; omega
  have H3 := Lib.hid (fun wx u (hu : RV 2 wx u 2 (declC (litP [(10 + (ph : Int), DA), (6 + (k : Int), DB)]) (litT [(10 + (ph : Int), DA), (6 + (k : Int), DB)]))) (hx : TabN wx) (hy : Pow wx) => apply_is wm di u 2 _ _ R 0 wx hu (by decide) hx hy (hs2 _ _) h3)
  have H4 := Lib.hid (fun wx u (hu : RV 2 wx u 2 (declC (litP [(6 + (k : Int), DA), (10 + (ph : Int), DB)]) (litT [(6 + (k : Int), DA), (10 + (ph : Int), DB)]))) (hx : TabN wx) (hy : Pow wx) => apply_is wm di u 2 _ _ R 0 wx hu (by decide) hx hy (hs2 _ _) h4)
  have HP4 := Lib.hid hp4
  have hkw : IntKind.i64.wrap (6 + (k : Int)) = 6 + k := by rw [IntKind.wrap_i64]; omega
  have CK := Lib.hid ck
  have CV := Lib.hid cv
  have HM1 := Lib.hid hm1
  have hq7 : ∀ w, Sem.run Tryd.prog (Op.equalIn 10000 23 (.agg #[.int .i64 1, .int .i64 (B : Int)]) (.agg #[.int .i64 1, .int .i64 (B : Int)])) w = .ok true w := fun w => eql_len 9998 1 (B : Int) w
  clear hm h3 h4 hp4 hs2 ck cv hm1 hm2 i1 i2
  have hk : Kept w w := Kept.refl w
  go_enter Tryd.func8, Tryd.ntmps8
  go_wp2_with fail
  refine with_boxes1 ?_
  intro X hX m
  have hsz := hk.size
  replace hk := hk.trans hX
  clear hX
  replace m_l := m.lt
  replace m_0 := m.at 0 _ rfl
  replace m_1 := m.at 1 _ rfl
  refine (awake10_any _ (ht.kept hk) (hp.kept hk)).mono ?_
  rintro e w1 ⟨rfl, hn⟩
  replace hk := hk.trans hn
  replace m := m.kept hn
  clear hn
  replace m_l := m.lt
  replace m_0 := m.at 0 _ rfl
  replace m_1 := m.at 1 _ rfl
  go_wp2_with fail
  refine (HA.out _).mono ?_
  rintro e w1 ⟨rfl, hn⟩
  replace hk := hk.trans hn
  replace m := m.kept hn
  clear hn
  replace m_l := m.lt
  replace m_0 := m.at 0 _ rfl
  replace m_1 := m.at 1 _ rfl
  go_wp2_with fail
  refine (HB.out _).mono ?_
  rintro e w1 ⟨rfl, hn⟩
  replace hk := hk.trans hn
  replace m := m.kept hn
  clear hn
  replace m_l := m.lt
  replace m_0 := m.at 0 _ rfl
  replace m_1 := m.at 1 _ rfl
  go_wp2_with fail
  clear m_l m_0 m_1
  go_loopw [12, 13] (fun p i wx => ∃ e : Nat, e ≤ 4 ∧ i = .int .i64 e ∧ p = .int .i64 (phF wm di k e) ∧ Kept w wx ∧ Own wx w.heap.size 38 #[.int .i64 wm, .int .i64 di]) (fun _ i _ => 4 - (intOf i).toNat)
  case atStart => exact ⟨0, Nat.zero_le _, rfl, rfl, hk, m⟩
  case round =>
    clear hk m
    obtain ⟨e, he4, rfl, rfl, hk, m⟩ := hrel
    have hsz2 := hk.size
    by_cases hlt : e < 4
    · skip
      have hi1 : (e : Int) < 4 := by omega
      obtain ⟨j, hj, hmj⟩ := HE.out e hlt
      have h1 := HONE.out e j hlt hj hmj
      have HPH := Lib.hid (show phF wm di k (e + 1) = if j = k then (e : Int) else phF wm di k e from by
        show (if (mapS wm di (10 + (e : Int))).1 = 6 + (k : Int) then (e : Int) else phF wm di k e) = _
        rw [hmj]
        by_cases hjk : j = k
        · rw [if_pos hjk, if_pos (by dsimp only; omega)]
        · rw [if_neg hjk, if_neg (by dsimp only; omega)])
      have c1 := marg_v newS j hj ⟨1, 7⟩
      have c2 := fun h => marg_other j k hj hk3 h ⟨1, 7⟩
      obtain ⟨S, hS⟩ : ∃ z, setLen newS (6 + (j : Int)) ⟨1, 7⟩ = z := ⟨_, rfl⟩
      have hS7 : setLen newS (6 + (j : Int)) ⟨1, ((7 : Nat) : Int)⟩ = S := hS
      rw [hS7] at h1
      rw [hS] at c1 c2
      clear hS hS7 hmj
      have H1 := Lib.hid (fun wx u (hu : RV 2 wx u 1 (declC (fun _ => 10 + (e : Int)) (fun _ => ⟨#[55]⟩))) (hx : TabN wx) (hy : Pow wx) => apply_is wm di u 1 (fun _ => 10 + (e : Int)) (fun _ => ⟨#[55]⟩) S 0 wx hu (by decide) hx hy (fun i _ => by show (1 : Nat) ≤ _; decide) h1)
      clear h1
      obtain ⟨p, hpv⟩ : ∃ z, phF wm di k e = z := ⟨_, rfl⟩
      rw [hpv] at HPH ⊢
      clear hpv
      replace m_l := m.lt
      replace m_0 := m.at 0 _ rfl
      replace m_1 := m.at 1 _ rfl
      go_wp2_with fail
      refine with_boxes1 ?_
      intro X hX d
      have hsz := hk.size
      replace hk := hk.trans hX
      replace m := m.kept hX
      clear hX
      replace m_l := m.lt
      replace m_0 := m.at 0 _ rfl
      replace m_1 := m.at 1 _ rfl
      refine (H1.out _ _ (rv_lit d 2 1 (by decide) (declC (fun _ => 10 + (e : Int)) (fun _ => ⟨#[55]⟩)) rfl) (ht.kept hk) (hp.kept hk)).mono ?_
      rintro e w1 ⟨rfl, hn⟩
      replace hk := hk.trans hn
      replace m := m.kept hn
      replace d := d.kept hn
      clear hn
      replace m_l := m.lt
      replace m_0 := m.at 0 _ rfl
      replace m_1 := m.at 1 _ rfl
      clear d
      go_wp2_with (first | (refine here_store 42 _ _ rfl ?_; refine wpList_store_own rfl 42 _ _ rfl _ _ rfl rfl (Own.new _ _ _) (by rfl) (by kernel_rfl) (by rfl) ?_; intro X s hoX hkX; have hsz := hk.size; replace hk := hkX _ (hk.alloc _) (by first | omega | (simp; omega)); have m_l := m.lt; replace m := (m.alloc _).same (hoX _ (by first | omega | (simp; omega))); clear hoX hkX; replace m_l := m.lt; replace m_0 := m.at 0 _ rfl; replace m_1 := m.at 1 _ rfl))
      go_wp2_with fail
      refine (num_any _ _).mono ?_
      rintro e w1 ⟨rfl, rfl⟩
      by_cases hjk : j = k
      · subst hjk
        have cz := (s.cell (8 + j * 2 + 1)).trans c1
        clear c1 c2
        go_wp2
        exact ⟨⟨e + 1, by omega, by first | rfl | go_num, by (rw [HPH.out]; simp), hk, m⟩, by first | (simp [intOf]; done) | (simp [intOf]; omega)⟩
      · have cz := (s.cell (8 + k * 2 + 1)).trans (c2 hjk)
        have HJK := Lib.hid hjk
        clear c1 c2 hjk
        go_wp2
        exact ⟨⟨e + 1, by omega, by first | rfl | go_num, by rw [HPH.out, if_neg HJK.out], hk, m⟩, by first | (simp [intOf]; done) | (simp [intOf]; omega)⟩
    · skip
      obtain rfl : e = 4 := by omega
      rw [HP4.out]
      have hng : ¬ (ph : Int) < 0 := by omega
      replace m_l := m.lt
      replace m_0 := m.at 0 _ rfl
      replace m_1 := m.at 1 _ rfl
      go_wp2_with fail
      refine with_boxes1 ?_
      intro X hX d
      have hsz := hk.size
      replace hk := hk.trans hX
      replace m := m.kept hX
      clear hX
      replace m_l := m.lt
      replace m_0 := m.at 0 _ rfl
      replace m_1 := m.at 1 _ rfl
      refine (H3.out _ _ (rv_lit d 2 2 (by decide) (declC (litP [(10 + (ph : Int), DA), (6 + (k : Int), DB)]) (litT [(10 + (ph : Int), DA), (6 + (k : Int), DB)])) rfl) (ht.kept hk) (hp.kept hk)).mono ?_
      rintro e w1 ⟨rfl, hn⟩
      replace hk := hk.trans hn
      replace m := m.kept hn
      replace d := d.kept hn
      clear hn
      replace m_l := m.lt
      replace m_0 := m.at 0 _ rfl
      replace m_1 := m.at 1 _ rfl
      clear d
      go_wp2_with (first | (refine here_store 42 _ _ rfl ?_; refine wpList_store_own rfl 42 _ _ rfl _ _ rfl rfl (Own.new _ _ _) (by rfl) (by kernel_rfl) (by rfl) ?_; intro X s1 hoX hkX; have hsz := hk.size; replace hk := hkX _ (hk.alloc _) (by first | omega | (simp; omega)); have m_l := m.lt; replace m := (m.alloc _).same (hoX _ (by first | omega | (simp; omega))); clear hoX hkX; replace m_l := m.lt; replace m_0 := m.at 0 _ rfl; replace m_1 := m.at 1 _ rfl))
      go_wp2_with fail
      refine with_boxes1 ?_
      intro X hX d2
      have hsz := hk.size
      replace hk := hk.trans hX
      replace m := m.kept hX
      replace s1 := s1.kept hX
      clear hX
      replace m_l := m.lt
      replace m_0 := m.at 0 _ rfl
      replace m_1 := m.at 1 _ rfl
      refine (H4.out _ _ (rv_lit d2 2 2 (by decide) (declC (litP [(6 + (k : Int), DA), (10 + (ph : Int), DB)]) (litT [(6 + (k : Int), DA), (10 + (ph : Int), DB)])) rfl) (ht.kept hk) (hp.kept hk)).mono ?_
      rintro e w1 ⟨rfl, hn⟩
      replace hk := hk.trans hn
      replace m := m.kept hn
      replace s1 := s1.kept hn
      replace d2 := d2.kept hn
      clear hn
      replace m_l := m.lt
      replace m_0 := m.at 0 _ rfl
      replace m_1 := m.at 1 _ rfl
      clear d2
      go_wp2_with (first | (refine here_store 42 _ _ rfl ?_; refine wpList_store_own rfl 42 _ _ rfl _ _ rfl rfl (Own.new _ _ _) (by rfl) (by kernel_rfl) (by rfl) ?_; intro X s2 hoX hkX; have hsz := hk.size; replace hk := hkX _ (hk.alloc _) (by first | omega | (simp; omega)); have m_l := m.lt; replace m := (m.alloc _).same (hoX _ (by first | omega | (simp; omega))); have s1_l := s1.lt; replace s1 := (s1.alloc _).same (hoX _ (by first | omega | (simp; omega))); clear hoX hkX; replace m_l := m.lt; replace m_0 := m.at 0 _ rfl; replace m_1 := m.at 1 _ rfl))
      go_wp2_with fail
      refine (num_any _ _).mono ?_
      rintro e w1 ⟨rfl, rfl⟩
      go_wp2_with fail
      refine (num_any _ _).mono ?_
      rintro e w1 ⟨rfl, rfl⟩
      have qk := (s1.cell (8 + k * 2)).trans CK.out
      have qv := (s1.cell (8 + k * 2 + 1)).trans CV.out
      go_wp2_with (first | (refine here_load 42 _ rfl ?_; refine wpList_load_own_if 42 _ rfl (by rfl) _ rfl s1 _ Tryd.underlying42 rfl (by kernel_rfl) ?_) | (refine here_load 42 _ rfl ?_; refine wpList_load_own_if 42 _ rfl (by rfl) _ rfl s2 _ Tryd.underlying42 rfl (by kernel_rfl) ?_))
      go_ret
      exact ⟨rfl, hk⟩
theorem cascadeRow_walk (wm di a b c : Int) (w : World) (ht : TabN w) (hp : Pow w) :
    Calls Tryd.prog 8 #[modeV wm di, .int .i64 a, .int .i64 b, .int .i64 c] w fun e w' => e = .returned (.bool true) ∧ Kept w w' := by
  obtain ⟨k, hk, k0, k1⟩ := masked a 2 3 rfl (by decide)
  obtain ⟨A, hA, A0, A1⟩ := masked b 10 1023 rfl (by decide)
  obtain ⟨B, hB, B0, B1⟩ := masked c 10 1023 rfl (by decide)
  obtain ⟨k, rfl⟩ := Int.eq_ofNat_of_zero_le k0
  obtain ⟨A, rfl⟩ := Int.eq_ofNat_of_zero_le A0
  obtain ⟨B, rfl⟩ := Int.eq_ofNat_of_zero_le B0
  cases hm : modeMayB wm di with
  | false => exact cascadeRow_bad wm di a b c k A B hk (by omega) hA (by omega) hB (by omega) w ht hp hm
  | true =>
    obtain ⟨ph, h1, h2, h3, h4⟩ := row_ph wm di hm k (by omega)
    exact cascadeRow_ok wm di a b c k A B ph hk (by omega) hA (by omega) hB (by omega) w ht hp hm h1 h2 h3 h4
end Go.Proofs.YtnbagilcbngdcaaDoor
