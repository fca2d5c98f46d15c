/- Layer 10: styles that may be, by the reference. -/
import Derived.Test.YtpkphohgnelajaaMay
namespace Go.Proofs.Ytpkphohgnelajaa
open Go.RowKit
set_option linter.unusedSimpArgs false
set_option linter.unusedVariables false
def okL (x : Len) : Bool := lenB x.k x.v && decide (0 ≤ x.v)
def okM (m p : Len) : Bool := lenB m.k m.v && !(m.k == 2) && (p.k == 1) && lenB p.k p.v && decide (0 ≤ p.v)
def refS (s : Sty) : Bool :=
  okL s.inl && okL s.bas && okL s.mx && okL s.blk && okL s.mn && okM s.m0 s.p0 && okM s.m1 s.p1 && okM s.m2 s.p2 && okM s.m3 s.p3 &&
  !(s.blk.k == 2) && !(s.mn.k == 0) && inB 0 100 s.grow && inB 0 100 s.shrink && inB 0 3 s.align && inB 0 3 s.items && inB 0 3 s.just
theorem lenB_lo {k v : Int} (h : lenB k v = true) : -8191 ≤ v := by
  unfold lenB at h
  by_cases h0 : k = 0
  · subst h0; simp at h; omega
  · by_cases h1 : k = 1
    · subst h1; simp at h; exact (inB_true.1 h).1
    · by_cases h2 : k = 2
      · subst h2; simp at h; have := (inB_true.1 h).1; omega
      · simp [h0, h1, h2] at h
theorem oddL_nil (x : Len) : oddL 0 [] x = !okL x := by
  unfold oddL oddB okL
  by_cases hv : x.v < 0 <;> cases lenB x.k x.v <;> simp [hv] <;> omega
theorem oddL_one (j : Int) (x : Len) : oddL 0 [j] x = !(okL x && !(x.k == j)) := by
  unfold oddL oddB okL
  by_cases hv : x.v < 0 <;> by_cases hk : x.k = j <;> cases lenB x.k x.v <;> simp [hv, hk] <;> omega
theorem odd_pad (m p : Len) : (oddL (-8191) [2] m || oddL 0 [0, 2] p) = !okM m p := by
  unfold oddL oddB okM
  cases hm : lenB m.k m.v
  · simp
  · have h1 := lenB_lo hm
    have h2 : decide (m.v < -8191) = false := by simp; omega
    rw [h2]
    cases hp : lenB p.k p.v
    · simp
    · rcases lenB_kind hp with h | h | h <;> simp [h] <;> by_cases hv : p.v < 0 <;> simp [hv] <;> by_cases hk : m.k = 2 <;> simp [hk] <;> omega
theorem ref_may (s : Sty) : refS s = mayS s := by
  have a : mayS s = (!(oddL 0 [] s.inl || oddL 0 [] s.mx || oddL 0 [] s.bas || oddL 0 [2] s.blk || oddL 0 [0] s.mn) &&
      !((oddL (-8191) [2] s.m0 || oddL 0 [0, 2] s.p0) || (oddL (-8191) [2] s.m1 || oddL 0 [0, 2] s.p1) || (oddL (-8191) [2] s.m2 || oddL 0 [0, 2] s.p2) || (oddL (-8191) [2] s.m3 || oddL 0 [0, 2] s.p3)) &&
      (inB 0 100 s.grow && inB 0 100 s.shrink) && inB 0 3 s.align && inB 0 3 s.items && inB 0 3 s.just) := by
    unfold mayS anyOdd
    generalize oddL (-8191) [2] s.m0 = a0
    generalize oddL (-8191) [2] s.m1 = a1
    generalize oddL (-8191) [2] s.m2 = a2
    generalize oddL (-8191) [2] s.m3 = a3
    generalize oddL 0 [0, 2] s.p0 = b0
    generalize oddL 0 [0, 2] s.p1 = b1
    generalize oddL 0 [0, 2] s.p2 = b2
    generalize oddL 0 [0, 2] s.p3 = b3
    cases a0 <;> cases a1 <;> cases a2 <;> cases a3 <;> simp
  rw [a, odd_pad, odd_pad, odd_pad, odd_pad, oddL_nil, oddL_nil, oddL_nil, oddL_one, oddL_one]
  unfold refS
  generalize okL s.inl = a0
  generalize okL s.bas = a1
  generalize okL s.mx = a2
  generalize okL s.blk = a3
  generalize okL s.mn = a4
  generalize okM s.m0 s.p0 = b0
  generalize okM s.m1 s.p1 = b1
  generalize okM s.m2 s.p2 = b2
  generalize okM s.m3 s.p3 = b3
  generalize (s.blk.k == 2) = c0
  generalize (s.mn.k == 0) = c1
  cases a0 <;> simp
  cases a1 <;> simp
  cases a2 <;> simp
  cases a3 <;> simp
  cases a4 <;> simp
  cases c0 <;> simp
  cases c1 <;> simp
  cases b0 <;> simp
  cases b1 <;> simp
  cases b2 <;> simp
  cases b3 <;> simp
theorem refUpTo_any (x m : Int) (w : World) :
    Calls Try.prog 36 #[.int .i64 x, .int .i64 m] w fun e w' => e = .returned (.bool (inB 0 m x)) ∧ w = w' := by
  rcases (by omega : x < 0 ∨ (0 ≤ x ∧ x ≤ m) ∨ (0 ≤ x ∧ m < x)) with h | ⟨h, h5⟩ | ⟨h, h5⟩
  · have Hs := Lib.hid (show inB 0 m x = false from inB_false.2 (by omega))
    go_enter Try.func36, Try.ntmps36
    go_wp2
    go_ret
    exact ⟨ret_bool (by rw [Hs.out]; first | done | (simp; done) | (simp; omega)), rfl⟩
  · have Hs := Lib.hid (show inB 0 m x = true from inB_true.2 ⟨h, h5⟩)
    go_enter Try.func36, Try.ntmps36
    go_wp2
    go_ret
    exact ⟨ret_bool (by rw [Hs.out]; first | done | (simp; done) | (simp; omega)), rfl⟩
  · have Hs := Lib.hid (show inB 0 m x = false from inB_false.2 (by omega))
    go_enter Try.func36, Try.ntmps36
    go_wp2
    go_ret
    exact ⟨ret_bool (by rw [Hs.out]; first | done | (simp; done) | (simp; omega)), rfl⟩

set_option maxHeartbeats 16000000 in
set_option maxRecDepth 20000 in
theorem refStyleMay_any (s : Sty) (w : World) :
    Calls Try.prog 19 #[s.V] w fun e w' => e = .returned (.bool (mayS s)) ∧ Kept w w' := by
  unfold Sty.V Sty.C
  have hk : Kept w w := Kept.refl w
  go_enter Try.func19, Try.ntmps19
  go_wp2_with fail
  refine code_boxes2 ?_
  intro X hX st ls
  have hsz := hk.size
  replace hk := hk.trans hX
  clear hX
  refine wp_loop_rounds 6 ?_
  rw [rounds_succ]
  have c0 := ls.at 0 _ rfl
  have c1 := ls.at 1 _ rfl
  rcases false_first (lenB s.inl.k s.inl.v) with h0 | h0
  · have Hs := Lib.hid (show mayS s = false by rw [← ref_may]; unfold refS okL okM; simp [h0])
    go_wp2_with fail
    refine (refLengthMay_any s.inl.k s.inl.v _).mono ?_
    rintro e w1 ⟨rfl, hn⟩
    replace hk := hk.trans hn
    replace st := st.kept hn
    replace ls := ls.kept hn
    clear hn
    replace c0 := ls.at 0 _ rfl
    replace c1 := ls.at 1 _ rfl
    go_wp2
    go_ret
    exact ⟨ret_bool (by rw [Hs.out]), hk⟩
  go_wp2_with fail
  refine (refLengthMay_any s.inl.k s.inl.v _).mono ?_
  rintro e w1 ⟨rfl, hn⟩
  replace hk := hk.trans hn
  replace st := st.kept hn
  replace ls := ls.kept hn
  clear hn
  replace c0 := ls.at 0 _ rfl
  replace c1 := ls.at 1 _ rfl
  rcases Int.lt_or_le (s.inl.v) 0 with h1 | h1
  · have Hs := Lib.hid (show mayS s = false by rw [← ref_may]; unfold refS okL okM; simp [h0, Int.not_le.2 h1])
    go_wp2
    go_ret
    exact ⟨ret_bool (by rw [Hs.out]), hk⟩
  go_wp2_with fail
  clear c0 c1
  go_wp2
  rw [rounds_succ]
  have c2 := ls.at 2 _ rfl
  have c3 := ls.at 3 _ rfl
  rcases false_first (lenB s.bas.k s.bas.v) with h2 | h2
  · have Hs := Lib.hid (show mayS s = false by rw [← ref_may]; unfold refS okL okM; simp [h0, h1, h2])
    go_wp2_with fail
    refine (refLengthMay_any s.bas.k s.bas.v _).mono ?_
    rintro e w1 ⟨rfl, hn⟩
    replace hk := hk.trans hn
    replace st := st.kept hn
    replace ls := ls.kept hn
    clear hn
    replace c2 := ls.at 2 _ rfl
    replace c3 := ls.at 3 _ rfl
    go_wp2
    go_ret
    exact ⟨ret_bool (by rw [Hs.out]), hk⟩
  go_wp2_with fail
  refine (refLengthMay_any s.bas.k s.bas.v _).mono ?_
  rintro e w1 ⟨rfl, hn⟩
  replace hk := hk.trans hn
  replace st := st.kept hn
  replace ls := ls.kept hn
  clear hn
  replace c2 := ls.at 2 _ rfl
  replace c3 := ls.at 3 _ rfl
  rcases Int.lt_or_le (s.bas.v) 0 with h3 | h3
  · have Hs := Lib.hid (show mayS s = false by rw [← ref_may]; unfold refS okL okM; simp [h0, h1, h2, Int.not_le.2 h3])
    go_wp2
    go_ret
    exact ⟨ret_bool (by rw [Hs.out]), hk⟩
  go_wp2_with fail
  clear c2 c3
  go_wp2
  rw [rounds_succ]
  have c4 := ls.at 4 _ rfl
  have c5 := ls.at 5 _ rfl
  rcases false_first (lenB s.mx.k s.mx.v) with h4 | h4
  · have Hs := Lib.hid (show mayS s = false by rw [← ref_may]; unfold refS okL okM; simp [h0, h1, h2, h3, h4])
    go_wp2_with fail
    refine (refLengthMay_any s.mx.k s.mx.v _).mono ?_
    rintro e w1 ⟨rfl, hn⟩
    replace hk := hk.trans hn
    replace st := st.kept hn
    replace ls := ls.kept hn
    clear hn
    replace c4 := ls.at 4 _ rfl
    replace c5 := ls.at 5 _ rfl
    go_wp2
    go_ret
    exact ⟨ret_bool (by rw [Hs.out]), hk⟩
  go_wp2_with fail
  refine (refLengthMay_any s.mx.k s.mx.v _).mono ?_
  rintro e w1 ⟨rfl, hn⟩
  replace hk := hk.trans hn
  replace st := st.kept hn
  replace ls := ls.kept hn
  clear hn
  replace c4 := ls.at 4 _ rfl
  replace c5 := ls.at 5 _ rfl
  rcases Int.lt_or_le (s.mx.v) 0 with h5 | h5
  · have Hs := Lib.hid (show mayS s = false by rw [← ref_may]; unfold refS okL okM; simp [h0, h1, h2, h3, h4, Int.not_le.2 h5])
    go_wp2
    go_ret
    exact ⟨ret_bool (by rw [Hs.out]), hk⟩
  go_wp2_with fail
  clear c4 c5
  go_wp2
  rw [rounds_succ]
  have c6 := ls.at 6 _ rfl
  have c7 := ls.at 7 _ rfl
  rcases false_first (lenB s.blk.k s.blk.v) with h6 | h6
  · have Hs := Lib.hid (show mayS s = false by rw [← ref_may]; unfold refS okL okM; simp [h0, h1, h2, h3, h4, h5, h6])
    go_wp2_with fail
    refine (refLengthMay_any s.blk.k s.blk.v _).mono ?_
    rintro e w1 ⟨rfl, hn⟩
    replace hk := hk.trans hn
    replace st := st.kept hn
    replace ls := ls.kept hn
    clear hn
    replace c6 := ls.at 6 _ rfl
    replace c7 := ls.at 7 _ rfl
    go_wp2
    go_ret
    exact ⟨ret_bool (by rw [Hs.out]), hk⟩
  go_wp2_with fail
  refine (refLengthMay_any s.blk.k s.blk.v _).mono ?_
  rintro e w1 ⟨rfl, hn⟩
  replace hk := hk.trans hn
  replace st := st.kept hn
  replace ls := ls.kept hn
  clear hn
  replace c6 := ls.at 6 _ rfl
  replace c7 := ls.at 7 _ rfl
  rcases Int.lt_or_le (s.blk.v) 0 with h7 | h7
  · have Hs := Lib.hid (show mayS s = false by rw [← ref_may]; unfold refS okL okM; simp [h0, h1, h2, h3, h4, h5, h6, Int.not_le.2 h7])
    go_wp2
    go_ret
    exact ⟨ret_bool (by rw [Hs.out]), hk⟩
  go_wp2_with fail
  clear c6 c7
  go_wp2
  rw [rounds_succ]
  have c8 := ls.at 8 _ rfl
  have c9 := ls.at 9 _ rfl
  rcases false_first (lenB s.mn.k s.mn.v) with h8 | h8
  · have Hs := Lib.hid (show mayS s = false by rw [← ref_may]; unfold refS okL okM; simp [h0, h1, h2, h3, h4, h5, h6, h7, h8])
    go_wp2_with fail
    refine (refLengthMay_any s.mn.k s.mn.v _).mono ?_
    rintro e w1 ⟨rfl, hn⟩
    replace hk := hk.trans hn
    replace st := st.kept hn
    replace ls := ls.kept hn
    clear hn
    replace c8 := ls.at 8 _ rfl
    replace c9 := ls.at 9 _ rfl
    go_wp2
    go_ret
    exact ⟨ret_bool (by rw [Hs.out]), hk⟩
  go_wp2_with fail
  refine (refLengthMay_any s.mn.k s.mn.v _).mono ?_
  rintro e w1 ⟨rfl, hn⟩
  replace hk := hk.trans hn
  replace st := st.kept hn
  replace ls := ls.kept hn
  clear hn
  replace c8 := ls.at 8 _ rfl
  replace c9 := ls.at 9 _ rfl
  rcases Int.lt_or_le (s.mn.v) 0 with h9 | h9
  · have Hs := Lib.hid (show mayS s = false by rw [← ref_may]; unfold refS okL okM; simp [h0, h1, h2, h3, h4, h5, h6, h7, h8, Int.not_le.2 h9])
    go_wp2
    go_ret
    exact ⟨ret_bool (by rw [Hs.out]), hk⟩
  go_wp2_with fail
  clear c8 c9
  go_wp2
  rw [rounds_succ]
  go_wp2
  refine wp_loop_rounds 5 ?_
  rw [rounds_succ]
  have d8 := st.at 8 _ rfl
  have d9 := st.at 9 _ rfl
  have d16 := st.at 16 _ rfl
  have d17 := st.at 17 _ rfl
  rcases false_first (lenB s.m0.k s.m0.v) with h10 | h10
  · have Hs := Lib.hid (show mayS s = false by rw [← ref_may]; unfold refS okL okM; simp [h0, h1, h2, h3, h4, h5, h6, h7, h8, h9, h10])
    go_wp2_with fail
    refine (refLengthMay_any s.m0.k s.m0.v _).mono ?_
    rintro e w1 ⟨rfl, hn⟩
    replace hk := hk.trans hn
    replace st := st.kept hn
    replace ls := ls.kept hn
    clear hn
    replace d8 := st.at 8 _ rfl
    replace d9 := st.at 9 _ rfl
    replace d16 := st.at 16 _ rfl
    replace d17 := st.at 17 _ rfl
    go_wp2
    go_ret
    exact ⟨ret_bool (by rw [Hs.out]), hk⟩
  go_wp2_with fail
  refine (refLengthMay_any s.m0.k s.m0.v _).mono ?_
  rintro e w1 ⟨rfl, hn⟩
  replace hk := hk.trans hn
  replace st := st.kept hn
  replace ls := ls.kept hn
  clear hn
  replace d8 := st.at 8 _ rfl
  replace d9 := st.at 9 _ rfl
  replace d16 := st.at 16 _ rfl
  replace d17 := st.at 17 _ rfl
  rcases true_first (s.m0.k == 2) with h11 | h11
  · have Hs := Lib.hid (show mayS s = false by rw [← ref_may]; unfold refS okL okM; simp [h0, h1, h2, h3, h4, h5, h6, h7, h8, h9, h10, h11])
    go_wp2
    go_ret
    exact ⟨ret_bool (by rw [Hs.out]), hk⟩
  rcases false_first (s.p0.k == 1) with h12 | h12
  · have Hs := Lib.hid (show mayS s = false by rw [← ref_may]; unfold refS okL okM; simp [h0, h1, h2, h3, h4, h5, h6, h7, h8, h9, h10, h11, h12])
    have h12' : (s.p0.k != 1) = true := by simpa using h12
    go_wp2
    go_ret
    exact ⟨ret_bool (by rw [Hs.out]), hk⟩
  have h12' : (s.p0.k != 1) = false := by simpa using h12
  rcases false_first (lenB s.p0.k s.p0.v) with h13 | h13
  · have Hs := Lib.hid (show mayS s = false by rw [← ref_may]; unfold refS okL okM; simp [h0, h1, h2, h3, h4, h5, h6, h7, h8, h9, h10, h11, h12, h13])
    go_wp2_with fail
    refine (refLengthMay_any s.p0.k s.p0.v _).mono ?_
    rintro e w1 ⟨rfl, hn⟩
    replace hk := hk.trans hn
    replace st := st.kept hn
    replace ls := ls.kept hn
    clear hn
    replace d8 := st.at 8 _ rfl
    replace d9 := st.at 9 _ rfl
    replace d16 := st.at 16 _ rfl
    replace d17 := st.at 17 _ rfl
    go_wp2
    go_ret
    exact ⟨ret_bool (by rw [Hs.out]), hk⟩
  go_wp2_with fail
  refine (refLengthMay_any s.p0.k s.p0.v _).mono ?_
  rintro e w1 ⟨rfl, hn⟩
  replace hk := hk.trans hn
  replace st := st.kept hn
  replace ls := ls.kept hn
  clear hn
  replace d8 := st.at 8 _ rfl
  replace d9 := st.at 9 _ rfl
  replace d16 := st.at 16 _ rfl
  replace d17 := st.at 17 _ rfl
  rcases Int.lt_or_le (s.p0.v) 0 with h14 | h14
  · have Hs := Lib.hid (show mayS s = false by rw [← ref_may]; unfold refS okL okM; simp [h0, h1, h2, h3, h4, h5, h6, h7, h8, h9, h10, h11, h12, h13, Int.not_le.2 h14])
    go_wp2
    go_ret
    exact ⟨ret_bool (by rw [Hs.out]), hk⟩
  go_wp2_with fail
  clear d8 d9 d16 d17
  go_wp2
  rw [rounds_succ]
  have d10 := st.at 10 _ rfl
  have d11 := st.at 11 _ rfl
  have d18 := st.at 18 _ rfl
  have d19 := st.at 19 _ rfl
  rcases false_first (lenB s.m1.k s.m1.v) with h15 | h15
  · have Hs := Lib.hid (show mayS s = false by rw [← ref_may]; unfold refS okL okM; simp [h0, h1, h2, h3, h4, h5, h6, h7, h8, h9, h10, h11, h12, h13, h14, h15])
    go_wp2_with fail
    refine (refLengthMay_any s.m1.k s.m1.v _).mono ?_
    rintro e w1 ⟨rfl, hn⟩
    replace hk := hk.trans hn
    replace st := st.kept hn
    replace ls := ls.kept hn
    clear hn
    replace d10 := st.at 10 _ rfl
    replace d11 := st.at 11 _ rfl
    replace d18 := st.at 18 _ rfl
    replace d19 := st.at 19 _ rfl
    go_wp2
    go_ret
    exact ⟨ret_bool (by rw [Hs.out]), hk⟩
  go_wp2_with fail
  refine (refLengthMay_any s.m1.k s.m1.v _).mono ?_
  rintro e w1 ⟨rfl, hn⟩
  replace hk := hk.trans hn
  replace st := st.kept hn
  replace ls := ls.kept hn
  clear hn
  replace d10 := st.at 10 _ rfl
  replace d11 := st.at 11 _ rfl
  replace d18 := st.at 18 _ rfl
  replace d19 := st.at 19 _ rfl
  rcases true_first (s.m1.k == 2) with h16 | h16
  · have Hs := Lib.hid (show mayS s = false by rw [← ref_may]; unfold refS okL okM; simp [h0, h1, h2, h3, h4, h5, h6, h7, h8, h9, h10, h11, h12, h13, h14, h15, h16])
    go_wp2
    go_ret
    exact ⟨ret_bool (by rw [Hs.out]), hk⟩
  rcases false_first (s.p1.k == 1) with h17 | h17
  · have Hs := Lib.hid (show mayS s = false by rw [← ref_may]; unfold refS okL okM; simp [h0, h1, h2, h3, h4, h5, h6, h7, h8, h9, h10, h11, h12, h13, h14, h15, h16, h17])
    have h17' : (s.p1.k != 1) = true := by simpa using h17
    go_wp2
    go_ret
    exact ⟨ret_bool (by rw [Hs.out]), hk⟩
  have h17' : (s.p1.k != 1) = false := by simpa using h17
  rcases false_first (lenB s.p1.k s.p1.v) with h18 | h18
  · have Hs := Lib.hid (show mayS s = false by rw [← ref_may]; unfold refS okL okM; simp [h0, h1, h2, h3, h4, h5, h6, h7, h8, h9, h10, h11, h12, h13, h14, h15, h16, h17, h18])
    go_wp2_with fail
    refine (refLengthMay_any s.p1.k s.p1.v _).mono ?_
    rintro e w1 ⟨rfl, hn⟩
    replace hk := hk.trans hn
    replace st := st.kept hn
    replace ls := ls.kept hn
    clear hn
    replace d10 := st.at 10 _ rfl
    replace d11 := st.at 11 _ rfl
    replace d18 := st.at 18 _ rfl
    replace d19 := st.at 19 _ rfl
    go_wp2
    go_ret
    exact ⟨ret_bool (by rw [Hs.out]), hk⟩
  go_wp2_with fail
  refine (refLengthMay_any s.p1.k s.p1.v _).mono ?_
  rintro e w1 ⟨rfl, hn⟩
  replace hk := hk.trans hn
  replace st := st.kept hn
  replace ls := ls.kept hn
  clear hn
  replace d10 := st.at 10 _ rfl
  replace d11 := st.at 11 _ rfl
  replace d18 := st.at 18 _ rfl
  replace d19 := st.at 19 _ rfl
  rcases Int.lt_or_le (s.p1.v) 0 with h19 | h19
  · have Hs := Lib.hid (show mayS s = false by rw [← ref_may]; unfold refS okL okM; simp [h0, h1, h2, h3, h4, h5, h6, h7, h8, h9, h10, h11, h12, h13, h14, h15, h16, h17, h18, Int.not_le.2 h19])
    go_wp2
    go_ret
    exact ⟨ret_bool (by rw [Hs.out]), hk⟩
  go_wp2_with fail
  clear d10 d11 d18 d19
  go_wp2
  rw [rounds_succ]
  have d12 := st.at 12 _ rfl
  have d13 := st.at 13 _ rfl
  have d20 := st.at 20 _ rfl
  have d21 := st.at 21 _ rfl
  rcases false_first (lenB s.m2.k s.m2.v) with h20 | h20
  · have Hs := Lib.hid (show mayS s = false by rw [← ref_may]; unfold refS okL okM; simp [h0, h1, h2, h3, h4, h5, h6, h7, h8, h9, h10, h11, h12, h13, h14, h15, h16, h17, h18, h19, h20])
    go_wp2_with fail
    refine (refLengthMay_any s.m2.k s.m2.v _).mono ?_
    rintro e w1 ⟨rfl, hn⟩
    replace hk := hk.trans hn
    replace st := st.kept hn
    replace ls := ls.kept hn
    clear hn
    replace d12 := st.at 12 _ rfl
    replace d13 := st.at 13 _ rfl
    replace d20 := st.at 20 _ rfl
    replace d21 := st.at 21 _ rfl
    go_wp2
    go_ret
    exact ⟨ret_bool (by rw [Hs.out]), hk⟩
  go_wp2_with fail
  refine (refLengthMay_any s.m2.k s.m2.v _).mono ?_
  rintro e w1 ⟨rfl, hn⟩
  replace hk := hk.trans hn
  replace st := st.kept hn
  replace ls := ls.kept hn
  clear hn
  replace d12 := st.at 12 _ rfl
  replace d13 := st.at 13 _ rfl
  replace d20 := st.at 20 _ rfl
  replace d21 := st.at 21 _ rfl
  rcases true_first (s.m2.k == 2) with h21 | h21
  · have Hs := Lib.hid (show mayS s = false by rw [← ref_may]; unfold refS okL okM; simp [h0, h1, h2, h3, h4, h5, h6, h7, h8, h9, h10, h11, h12, h13, h14, h15, h16, h17, h18, h19, h20, h21])
    go_wp2
    go_ret
    exact ⟨ret_bool (by rw [Hs.out]), hk⟩
  rcases false_first (s.p2.k == 1) with h22 | h22
  · have Hs := Lib.hid (show mayS s = false by rw [← ref_may]; unfold refS okL okM; simp [h0, h1, h2, h3, h4, h5, h6, h7, h8, h9, h10, h11, h12, h13, h14, h15, h16, h17, h18, h19, h20, h21, h22])
    have h22' : (s.p2.k != 1) = true := by simpa using h22
    go_wp2
    go_ret
    exact ⟨ret_bool (by rw [Hs.out]), hk⟩
  have h22' : (s.p2.k != 1) = false := by simpa using h22
  rcases false_first (lenB s.p2.k s.p2.v) with h23 | h23
  · have Hs := Lib.hid (show mayS s = false by rw [← ref_may]; unfold refS okL okM; simp [h0, h1, h2, h3, h4, h5, h6, h7, h8, h9, h10, h11, h12, h13, h14, h15, h16, h17, h18, h19, h20, h21, h22, h23])
    go_wp2_with fail
    refine (refLengthMay_any s.p2.k s.p2.v _).mono ?_
    rintro e w1 ⟨rfl, hn⟩
    replace hk := hk.trans hn
    replace st := st.kept hn
    replace ls := ls.kept hn
    clear hn
    replace d12 := st.at 12 _ rfl
    replace d13 := st.at 13 _ rfl
    replace d20 := st.at 20 _ rfl
    replace d21 := st.at 21 _ rfl
    go_wp2
    go_ret
    exact ⟨ret_bool (by rw [Hs.out]), hk⟩
  go_wp2_with fail
  refine (refLengthMay_any s.p2.k s.p2.v _).mono ?_
  rintro e w1 ⟨rfl, hn⟩
  replace hk := hk.trans hn
  replace st := st.kept hn
  replace ls := ls.kept hn
  clear hn
  replace d12 := st.at 12 _ rfl
  replace d13 := st.at 13 _ rfl
  replace d20 := st.at 20 _ rfl
  replace d21 := st.at 21 _ rfl
  rcases Int.lt_or_le (s.p2.v) 0 with h24 | h24
  · have Hs := Lib.hid (show mayS s = false by rw [← ref_may]; unfold refS okL okM; simp [h0, h1, h2, h3, h4, h5, h6, h7, h8, h9, h10, h11, h12, h13, h14, h15, h16, h17, h18, h19, h20, h21, h22, h23, Int.not_le.2 h24])
    go_wp2
    go_ret
    exact ⟨ret_bool (by rw [Hs.out]), hk⟩
  go_wp2_with fail
  clear d12 d13 d20 d21
  go_wp2
  rw [rounds_succ]
  have d14 := st.at 14 _ rfl
  have d15 := st.at 15 _ rfl
  have d22 := st.at 22 _ rfl
  have d23 := st.at 23 _ rfl
  rcases false_first (lenB s.m3.k s.m3.v) with h25 | h25
  · have Hs := Lib.hid (show mayS s = false by rw [← ref_may]; unfold refS okL okM; simp [h0, h1, h2, h3, h4, h5, h6, h7, h8, h9, h10, h11, h12, h13, h14, h15, h16, h17, h18, h19, h20, h21, h22, h23, h24, h25])
    go_wp2_with fail
    refine (refLengthMay_any s.m3.k s.m3.v _).mono ?_
    rintro e w1 ⟨rfl, hn⟩
    replace hk := hk.trans hn
    replace st := st.kept hn
    replace ls := ls.kept hn
    clear hn
    replace d14 := st.at 14 _ rfl
    replace d15 := st.at 15 _ rfl
    replace d22 := st.at 22 _ rfl
    replace d23 := st.at 23 _ rfl
    go_wp2
    go_ret
    exact ⟨ret_bool (by rw [Hs.out]), hk⟩
  go_wp2_with fail
  refine (refLengthMay_any s.m3.k s.m3.v _).mono ?_
  rintro e w1 ⟨rfl, hn⟩
  replace hk := hk.trans hn
  replace st := st.kept hn
  replace ls := ls.kept hn
  clear hn
  replace d14 := st.at 14 _ rfl
  replace d15 := st.at 15 _ rfl
  replace d22 := st.at 22 _ rfl
  replace d23 := st.at 23 _ rfl
  rcases true_first (s.m3.k == 2) with h26 | h26
  · have Hs := Lib.hid (show mayS s = false by rw [← ref_may]; unfold refS okL okM; simp [h0, h1, h2, h3, h4, h5, h6, h7, h8, h9, h10, h11, h12, h13, h14, h15, h16, h17, h18, h19, h20, h21, h22, h23, h24, h25, h26])
    go_wp2
    go_ret
    exact ⟨ret_bool (by rw [Hs.out]), hk⟩
  rcases false_first (s.p3.k == 1) with h27 | h27
  · have Hs := Lib.hid (show mayS s = false by rw [← ref_may]; unfold refS okL okM; simp [h0, h1, h2, h3, h4, h5, h6, h7, h8, h9, h10, h11, h12, h13, h14, h15, h16, h17, h18, h19, h20, h21, h22, h23, h24, h25, h26, h27])
    have h27' : (s.p3.k != 1) = true := by simpa using h27
    go_wp2
    go_ret
    exact ⟨ret_bool (by rw [Hs.out]), hk⟩
  have h27' : (s.p3.k != 1) = false := by simpa using h27
  rcases false_first (lenB s.p3.k s.p3.v) with h28 | h28
  · have Hs := Lib.hid (show mayS s = false by rw [← ref_may]; unfold refS okL okM; simp [h0, h1, h2, h3, h4, h5, h6, h7, h8, h9, h10, h11, h12, h13, h14, h15, h16, h17, h18, h19, h20, h21, h22, h23, h24, h25, h26, h27, h28])
    go_wp2_with fail
    refine (refLengthMay_any s.p3.k s.p3.v _).mono ?_
    rintro e w1 ⟨rfl, hn⟩
    replace hk := hk.trans hn
    replace st := st.kept hn
    replace ls := ls.kept hn
    clear hn
    replace d14 := st.at 14 _ rfl
    replace d15 := st.at 15 _ rfl
    replace d22 := st.at 22 _ rfl
    replace d23 := st.at 23 _ rfl
    go_wp2
    go_ret
    exact ⟨ret_bool (by rw [Hs.out]), hk⟩
  go_wp2_with fail
  refine (refLengthMay_any s.p3.k s.p3.v _).mono ?_
  rintro e w1 ⟨rfl, hn⟩
  replace hk := hk.trans hn
  replace st := st.kept hn
  replace ls := ls.kept hn
  clear hn
  replace d14 := st.at 14 _ rfl
  replace d15 := st.at 15 _ rfl
  replace d22 := st.at 22 _ rfl
  replace d23 := st.at 23 _ rfl
  rcases Int.lt_or_le (s.p3.v) 0 with h29 | h29
  · have Hs := Lib.hid (show mayS s = false by rw [← ref_may]; unfold refS okL okM; simp [h0, h1, h2, h3, h4, h5, h6, h7, h8, h9, h10, h11, h12, h13, h14, h15, h16, h17, h18, h19, h20, h21, h22, h23, h24, h25, h26, h27, h28, Int.not_le.2 h29])
    go_wp2
    go_ret
    exact ⟨ret_bool (by rw [Hs.out]), hk⟩
  go_wp2_with fail
  clear d14 d15 d22 d23
  go_wp2
  rw [rounds_succ]
  have d2 := st.at 2 _ rfl
  have d4 := st.at 4 _ rfl
  rcases true_first (s.blk.k == 2) with h30 | h30
  · have Hs := Lib.hid (show mayS s = false by rw [← ref_may]; unfold refS okL okM; simp [h0, h1, h2, h3, h4, h5, h6, h7, h8, h9, h10, h11, h12, h13, h14, h15, h16, h17, h18, h19, h20, h21, h22, h23, h24, h25, h26, h27, h28, h29, h30])
    have hb' : (s.blk.k != 2) = false := by simpa using h30
    go_wp2
    go_ret
    exact ⟨ret_bool (by rw [Hs.out]), hk⟩
  have hb' : (s.blk.k != 2) = true := by simpa using h30
  rcases true_first (s.mn.k == 0) with h31 | h31
  · have Hs := Lib.hid (show mayS s = false by rw [← ref_may]; unfold refS okL okM; simp [h0, h1, h2, h3, h4, h5, h6, h7, h8, h9, h10, h11, h12, h13, h14, h15, h16, h17, h18, h19, h20, h21, h22, h23, h24, h25, h26, h27, h28, h29, h30, h31])
    have hm' : (s.mn.k != 0) = false := by simpa using h31
    go_wp2
    go_ret
    exact ⟨ret_bool (by rw [Hs.out]), hk⟩
  have hm' : (s.mn.k != 0) = true := by simpa using h31
  have d26 := st.at 26 _ rfl
  rcases false_first (inB 0 100 s.grow) with h32 | h32
  · have Hs := Lib.hid (show mayS s = false by rw [← ref_may]; unfold refS okL okM; simp [h0, h1, h2, h3, h4, h5, h6, h7, h8, h9, h10, h11, h12, h13, h14, h15, h16, h17, h18, h19, h20, h21, h22, h23, h24, h25, h26, h27, h28, h29, h30, h31, h32])
    go_wp2_with fail
    refine (refUpTo_any s.grow 100 _).mono ?_
    rintro e w1 ⟨rfl, rfl⟩
    go_wp2
    go_ret
    exact ⟨ret_bool (by rw [Hs.out]), hk⟩
  go_wp2_with fail
  refine (refUpTo_any s.grow 100 _).mono ?_
  rintro e w1 ⟨rfl, rfl⟩
  have d27 := st.at 27 _ rfl
  rcases false_first (inB 0 100 s.shrink) with h33 | h33
  · have Hs := Lib.hid (show mayS s = false by rw [← ref_may]; unfold refS okL okM; simp [h0, h1, h2, h3, h4, h5, h6, h7, h8, h9, h10, h11, h12, h13, h14, h15, h16, h17, h18, h19, h20, h21, h22, h23, h24, h25, h26, h27, h28, h29, h30, h31, h32, h33])
    go_wp2_with fail
    refine (refUpTo_any s.shrink 100 _).mono ?_
    rintro e w1 ⟨rfl, rfl⟩
    go_wp2
    go_ret
    exact ⟨ret_bool (by rw [Hs.out]), hk⟩
  go_wp2_with fail
  refine (refUpTo_any s.shrink 100 _).mono ?_
  rintro e w1 ⟨rfl, rfl⟩
  have d28 := st.at 28 _ rfl
  rcases false_first (inB 0 3 s.align) with h34 | h34
  · have Hs := Lib.hid (show mayS s = false by rw [← ref_may]; unfold refS okL okM; simp [h0, h1, h2, h3, h4, h5, h6, h7, h8, h9, h10, h11, h12, h13, h14, h15, h16, h17, h18, h19, h20, h21, h22, h23, h24, h25, h26, h27, h28, h29, h30, h31, h32, h33, h34])
    go_wp2_with fail
    refine (refUpTo_any s.align 3 _).mono ?_
    rintro e w1 ⟨rfl, rfl⟩
    go_wp2
    go_ret
    exact ⟨ret_bool (by rw [Hs.out]), hk⟩
  go_wp2_with fail
  refine (refUpTo_any s.align 3 _).mono ?_
  rintro e w1 ⟨rfl, rfl⟩
  have d29 := st.at 29 _ rfl
  rcases false_first (inB 0 3 s.items) with h35 | h35
  · have Hs := Lib.hid (show mayS s = false by rw [← ref_may]; unfold refS okL okM; simp [h0, h1, h2, h3, h4, h5, h6, h7, h8, h9, h10, h11, h12, h13, h14, h15, h16, h17, h18, h19, h20, h21, h22, h23, h24, h25, h26, h27, h28, h29, h30, h31, h32, h33, h34, h35])
    go_wp2_with fail
    refine (refUpTo_any s.items 3 _).mono ?_
    rintro e w1 ⟨rfl, rfl⟩
    go_wp2
    go_ret
    exact ⟨ret_bool (by rw [Hs.out]), hk⟩
  go_wp2_with fail
  refine (refUpTo_any s.items 3 _).mono ?_
  rintro e w1 ⟨rfl, rfl⟩
  have d30 := st.at 30 _ rfl
  rcases false_first (inB 0 3 s.just) with h36 | h36
  · have Hs := Lib.hid (show mayS s = false by rw [← ref_may]; unfold refS okL okM; simp [h0, h1, h2, h3, h4, h5, h6, h7, h8, h9, h10, h11, h12, h13, h14, h15, h16, h17, h18, h19, h20, h21, h22, h23, h24, h25, h26, h27, h28, h29, h30, h31, h32, h33, h34, h35, h36])
    go_wp2_with fail
    refine (refUpTo_any s.just 3 _).mono ?_
    rintro e w1 ⟨rfl, rfl⟩
    go_wp2
    go_ret
    exact ⟨ret_bool (by rw [Hs.out]), hk⟩
  go_wp2_with fail
  refine (refUpTo_any s.just 3 _).mono ?_
  rintro e w1 ⟨rfl, rfl⟩
  have Hs := Lib.hid (show mayS s = true by rw [← ref_may]; unfold refS okL okM; simp [h0, h1, h2, h3, h4, h5, h6, h7, h8, h9, h10, h11, h12, h13, h14, h15, h16, h17, h18, h19, h20, h21, h22, h23, h24, h25, h26, h27, h28, h29, h30, h31, h32, h33, h34, h35, h36])
  go_wp2
  go_ret
  exact ⟨ret_bool (by rw [Hs.out]), hk⟩
end Go.Proofs.Ytpkphohgnelajaa
