/- Layer 12: two collapse the same either way round; numbers that may not be. -/
import Derived.Test.YtkncagphlfpafaaMargRef
import Derived.Test.YtkncagphlfpafaaMask
import Derived.Deep.OwnRows
namespace Go.Proofs.Ytkncagphlfpafaa
open Go.RowKit
set_option linter.unusedSimpArgs false
set_option linter.unusedVariables false
theorem col_may {x y : Int} (hx : mayB x = true) (hy : mayB y = true) : colS x y = max (max 0 x) y + min (min 0 x) y := by rw [colS_eq, cnt_may hx, cnt_may hy]
set_option maxRecDepth 20000 in
set_option maxHeartbeats 4000000 in
theorem marginAny_walk (a b : Int) (w : World) :
    Calls Try.prog 4 #[.int .i64 a, .int .i64 b] w fun e w' => e = .returned (.bool true) ∧ Kept w w' := by
  obtain ⟨p, hp, p1, p2⟩ := masked a 16 65535 (by decide) (by decide)
  obtain ⟨q, hq, q1, q2⟩ := masked b 16 65535 (by decide) (by decide)
  obtain ⟨x, hx⟩ : ∃ x, p - 32768 = x := ⟨_, rfl⟩
  obtain ⟨y, hy⟩ : ∃ y, q - 32768 = y := ⟨_, rfl⟩
  have x1 : -32768 ≤ x ∧ x ≤ 32767 := by omega
  have y1 : -32768 ≤ y ∧ y ≤ 32767 := by omega
  have mx : mayB x = true := mayB_true.2 (by omega)
  have my : mayB y = true := mayB_true.2 (by omega)
  obtain ⟨c, hc⟩ : ∃ c, max (max 0 x) y + min (min 0 x) y = c := ⟨_, rfl⟩
  have e1 : allR 2 (intL [x, y]) = (c, 0) := by
    rw [allR_may (mayM_true.2 ⟨by decide, allM_of fun k hk => by
      match k, hk with
      | 0, _ => show -1073741824 ≤ x ∧ x ≤ 1073741824; omega
      | 1, _ => show -1073741824 ≤ y ∧ y ≤ 1073741824; omega⟩)]
    show (max (max 0 x) y + min (min 0 x) y, 0) = _
    rw [hc]
  have e2 : allR 4 (intL [y, 0, x, y]) = (c, 0) := by
    rw [allR_may (mayM_true.2 ⟨by decide, allM_of fun k hk => by
      match k, hk with
      | 0, _ => show -1073741824 ≤ y ∧ y ≤ 1073741824; omega
      | 1, _ => show -1073741824 ≤ (0 : Int) ∧ (0 : Int) ≤ 1073741824; omega
      | 2, _ => show -1073741824 ≤ x ∧ x ≤ 1073741824; omega
      | 3, _ => show -1073741824 ≤ y ∧ y ≤ 1073741824; omega⟩)]
    show (max (max (max (max 0 y) 0) x) y + min (min (min (min 0 y) 0) x) y, 0) = _
    rw [← hc]
    congr 1
    omega
  have e3 : colS x y = c := by rw [col_may mx my, hc]
  have e4 : colS y x = c := by rw [col_may my mx, ← hc]; omega
  have e5 : colS x 0 = x := by rw [col_may mx (by decide)]; omega
  have e6 : colS y 0 = y := by rw [col_may my (by decide)]; omega
  replace hc := Lib.hid hc
  clear mx my
  have hk : Kept w w := Kept.refl w
  go_enter Try.func4, Try.ntmps4
  go_wp2_with fail
  refine (awake12_any _).mono ?_
  rintro e w1 ⟨rfl, hn⟩
  replace hk := hk.trans hn
  clear hn
  go_wp2_with fail
  refine with_boxes1 ?_
  intro X hX r
  have hsz := hk.size
  replace hk := hk.trans hX
  clear hX
  refine (margAll_any _ 2 _ _ (iv_two r) (by decide)).mono ?_
  rintro e w1 ⟨rfl, hn⟩
  replace hk := hk.trans hn
  replace r := r.kept hn
  clear hn
  go_wp2_with fail
  refine with_boxes1 ?_
  intro X hX s
  have hsz := hk.size
  replace hk := hk.trans hX
  replace r := r.kept hX
  clear hX
  refine (margAll_any _ 4 _ _ (iv_four s) (by decide)).mono ?_
  rintro e w1 ⟨rfl, hn⟩
  replace hk := hk.trans hn
  replace r := r.kept hn
  replace s := s.kept hn
  clear hn
  go_wp2_with fail
  refine (margCollapse_any _ _ _).mono ?_
  rintro e w1 ⟨rfl, hn⟩
  replace hk := hk.trans hn
  replace r := r.kept hn
  replace s := s.kept hn
  clear hn
  go_wp2_with fail
  refine (num_any _ _).mono ?_
  rintro e w1 ⟨rfl, rfl⟩
  go_wp2_with fail
  refine (num_any _ _).mono ?_
  rintro e w1 ⟨rfl, rfl⟩
  go_wp2_with fail
  refine (margCollapse_any _ _ _).mono ?_
  rintro e w1 ⟨rfl, hn⟩
  replace hk := hk.trans hn
  replace r := r.kept hn
  replace s := s.kept hn
  clear hn
  go_wp2_with fail
  refine (margCollapse_any _ _ _).mono ?_
  rintro e w1 ⟨rfl, hn⟩
  replace hk := hk.trans hn
  replace r := r.kept hn
  replace s := s.kept hn
  clear hn
  have hco := hc.out
  clear hc e1 e2 e3 hx hy hp hq r s
  rcases Int.lt_trichotomy x 0 with h1 | h1 | h1 <;> rcases Int.lt_trichotomy y 0 with h2 | h2 | h2 <;> rcases Int.lt_trichotomy x y with h3 | h3 | h3 <;> try omega
  all_goals
    first
      | have f1 : x ≤ c := by omega
      | have f1 : c < x := by omega
    first
      | have f2 : y ≤ c := by omega
      | have f2 : c < y := by omega
    first
      | have f3 : x + y ≤ c := by omega
      | have f3 : c < x + y := by omega
    first
      | have f4 : c ≤ x := by omega
      | have f4 : x < c := by omega
    first
      | have f5 : c ≤ y := by omega
      | have f5 : y < c := by omega
    first
      | have f6 : c ≤ x + y := by omega
      | have f6 : x + y < c := by omega
    clear hco
    go_wp2

    go_ret
    exact ⟨ret_bool (by first | rfl | (simp; omega)), hk⟩
theorem made_ints (M i : Nat) (h : i < M) : (madeCells #[.int .i64 0] M)[i]? = some (.int .i64 0) := by
  unfold madeCells
  rw [Array.getElem?_map, Array.getElem?_range, if_pos h]
  simp [Nat.mod_one]
theorem intInfo : (Try.prog.info? 3).map (fun i => (i.zero, i.size, i.bytes)) = some (some (.int .i64 0), 1, 8) := by kernel_rfl
set_option maxRecDepth 20000 in
set_option maxHeartbeats 2000000 in
theorem marginForms_one (c x y q d z b : Int) (M j : Nat) (hj : bits .and .i64 c 1 = (j : Nat)) (hj2 : j = 0 ∧ b = 1073741824 + d ∨ j = 1 ∧ b = -1073741824 - d) (hq : bits .and .i64 x 1023 = q) (hqd : 1 + q = d) (d1 : 1 ≤ d) (d2 : d ≤ 1024) (hz : bits .and .i64 y 65535 = z) (z1 : 0 ≤ z) (z2 : z ≤ 65535) (hM : 32 + d = (M : Nat)) (w : World) :
    Calls Try.prog 5 #[.int .i64 c, .int .i64 x, .int .i64 y] w fun e w' => e = .returned (.bool true) ∧ Kept w w' := by
  have hbad : mayB b = false := by rw [Bool.eq_false_iff, ne_eq, mayB_true]; omega
  have mz : mayB z = true := mayB_true.2 (by omega)
  have mz' : mayB (-z) = true := mayB_true.2 (by omega)
  have hmk := run_make_row' (P := Try.prog) 22 3 (.int .i64 0) 8 Try.underlying22 intInfo rfl .i64 .i64 M (by omega) (by omega)
  have e1 : allR 2 (intL [1, b]) = (0, 1200) := allR_no (by unfold mayM; rw [allM_no (k := 1) (by decide) hbad]; rfl)
  have e2 : allR M (fun _ => 0) = (0, 1200) := allR_no (by unfold mayM; rw [decide_eq_false (by omega), Bool.false_and])
  have e3 : allR 0 (fun _ => 0) = (0, 0) := rfl
  have e4 : colS b z = z := by rw [colS_eq, cnt_no hbad, cnt_may mz]; omega
  have e5 : colS (-z) b = -z := by rw [colS_eq, cnt_no hbad, cnt_may mz']; omega
  have e6 : colS b b = 0 := by rw [colS_eq, cnt_no hbad]; omega
  have hMp : 0 < M := by omega
  have hMb : M ≤ 4398046510976 := by omega
  clear mz mz' hbad
  rcases hj2 with ⟨rfl, rfl⟩ | ⟨rfl, rfl⟩
  all_goals
    have hk : Kept w w := Kept.refl w
    go_enter Try.func5, Try.ntmps5
    go_wp2_with fail
    refine (awake12_any _).mono ?_
    rintro e w1 ⟨rfl, hn⟩
    replace hk := hk.trans hn
    clear hn
    go_wp2_with fail
    refine with_boxes2 ?_
    intro X hX p r
    have hsz := hk.size
    replace hk := hk.trans hX
    clear hX
    refine (margAll_any _ 2 _ _ (iv_two r) (by decide)).mono ?_
    rintro e w1 ⟨rfl, hn⟩
    replace hk := hk.trans hn
    replace p := p.kept hn
    replace r := r.kept hn
    clear hn
    go_wp2_with fail
    refine with_boxes1 ?_
    intro X hX m
    have hsz := hk.size
    replace hk := hk.trans hX
    replace p := p.kept hX
    replace r := r.kept hX
    clear hX
    refine (margAll_any _ M _ _ (iv_of m hMp (Nat.le_refl _) (fun i hi => made_ints M i hi)) hMb).mono ?_
    rintro e w1 ⟨rfl, hn⟩
    replace hk := hk.trans hn
    replace p := p.kept hn
    replace r := r.kept hn
    replace m := m.kept hn
    clear hn
    go_wp2_with fail
    refine (margAll_any _ 0 (fun _ => 0) _ (.inl ⟨rfl, none, 0, rfl⟩) (by decide)).mono ?_
    rintro e w1 ⟨rfl, hn⟩
    replace hk := hk.trans hn
    replace p := p.kept hn
    replace r := r.kept hn
    replace m := m.kept hn
    clear hn
    go_wp2_with fail
    refine (num_any _ _).mono ?_
    rintro e w1 ⟨rfl, rfl⟩
    go_wp2_with fail
    refine (num_any _ _).mono ?_
    rintro e w1 ⟨rfl, rfl⟩
    go_wp2_with fail
    refine (num_any _ _).mono ?_
    rintro e w1 ⟨rfl, rfl⟩
    go_wp2_with fail
    refine (margCollapse_any _ _ _).mono ?_
    rintro e w1 ⟨rfl, hn⟩
    replace hk := hk.trans hn
    replace p := p.kept hn
    replace r := r.kept hn
    replace m := m.kept hn
    clear hn
    go_wp2_with fail
    refine (margCollapse_any _ _ _).mono ?_
    rintro e w1 ⟨rfl, hn⟩
    replace hk := hk.trans hn
    replace p := p.kept hn
    replace r := r.kept hn
    replace m := m.kept hn
    clear hn
    go_wp2_with fail
    refine (margCollapse_any _ _ _).mono ?_
    rintro e w1 ⟨rfl, hn⟩
    replace hk := hk.trans hn
    replace p := p.kept hn
    replace r := r.kept hn
    replace m := m.kept hn
    clear hn
    go_wp2
    go_ret
    exact ⟨rfl, hk⟩
theorem marginForms_walk (c x y : Int) (w : World) :
    Calls Try.prog 5 #[.int .i64 c, .int .i64 x, .int .i64 y] w fun e w' => e = .returned (.bool true) ∧ Kept w w' := by
  obtain ⟨j, hj, j1, j2⟩ := masked c 1 1 (by decide) (by decide)
  obtain ⟨q, hq, q1, q2⟩ := masked x 10 1023 (by decide) (by decide)
  obtain ⟨z, hz, z1, z2⟩ := masked y 16 65535 (by decide) (by decide)
  rcases (by omega : j = 0 ∨ j = 1) with rfl | rfl
  · exact marginForms_one c x y q (1 + q) z _ (32 + (1 + q)).toNat 0 hj (.inl ⟨rfl, rfl⟩) hq rfl (by omega) (by omega) hz z1 z2 (by omega) w
  · exact marginForms_one c x y q (1 + q) z _ (32 + (1 + q)).toNat 1 hj (.inr ⟨rfl, rfl⟩) hq rfl (by omega) (by omega) hz z1 z2 (by omega) w
end Go.Proofs.Ytkncagphlfpafaa
