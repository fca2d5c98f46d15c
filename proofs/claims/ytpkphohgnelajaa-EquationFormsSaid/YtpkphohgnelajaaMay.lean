/- Layer 10: styles that may be. -/
import Derived.Test.YtpkphohgnelajaaMayA
namespace Go.Proofs.Ytpkphohgnelajaa
open Go.RowKit
set_option linter.unusedSimpArgs false
set_option linter.unusedVariables false
/-- each of a style's values is one -/
def mayS (s : Sty) : Bool :=
  !(oddL 0 [] s.inl || oddL 0 [] s.mx || oddL 0 [] s.bas || oddL 0 [2] s.blk || oddL 0 [0] s.mn) &&
  !(anyOdd (-8191) [2] s.m0 s.m1 s.m2 s.m3 || anyOdd 0 [0, 2] s.p0 s.p1 s.p2 s.p3) &&
  (inB 0 100 s.grow && inB 0 100 s.shrink) && inB 0 3 s.align && inB 0 3 s.items && inB 0 3 s.just
theorem true_first (b : Bool) : b = true ∨ b = false := by cases b <;> simp
theorem false_first (b : Bool) : b = false ∨ b = true := by cases b <;> simp

set_option maxHeartbeats 8000000 in
set_option maxRecDepth 20000 in
theorem cascadeMay_any (s : Sty) (w : World) :
    Calls Try.prog 27 #[s.V] w fun e w' => e = .returned (.bool (mayS s)) ∧ Kept w w' := by
  unfold Sty.V Sty.C
  have hk : Kept w w := Kept.refl w
  go_enter Try.func27, Try.ntmps27
  go_wp2_with fail
  refine with_boxes1 ?_
  intro X hX st
  have hsz := hk.size
  replace hk := hk.trans hX
  clear hX
  refine (make_any 0 _ [] _ (.none _ _)).mono ?_
  rintro e w1 ⟨p0, q0, rfl, o0, hn⟩
  replace hk := hk.trans hn
  replace st := st.kept hn
  clear hn
  go_wp2_with fail
  refine with_boxes1 ?_
  intro X hX b1
  have hsz := hk.size
  replace hk := hk.trans hX
  replace st := st.kept hX
  replace o0 := o0.kept hX
  clear hX
  replace b1_l := b1.lt
  replace b1_0 := b1.at 0 _ rfl
  refine (make_any 0 _ [2] _ (.one _ _ _ b1_0)).mono ?_
  rintro e w1 ⟨p1, q1, rfl, o1, hn⟩
  replace hk := hk.trans hn
  replace st := st.kept hn
  replace o0 := o0.kept hn
  replace b1 := b1.kept hn
  clear hn
  replace b1_l := b1.lt
  replace b1_0 := b1.at 0 _ rfl
  clear b1
  clear b1_l b1_0
  go_wp2_with fail
  refine with_boxes1 ?_
  intro X hX b2
  have hsz := hk.size
  replace hk := hk.trans hX
  replace st := st.kept hX
  replace o0 := o0.kept hX
  replace o1 := o1.kept hX
  clear hX
  replace b2_l := b2.lt
  replace b2_0 := b2.at 0 _ rfl
  refine (make_any 0 _ [0] _ (.one _ _ _ b2_0)).mono ?_
  rintro e w1 ⟨p2, q2, rfl, o2, hn⟩
  replace hk := hk.trans hn
  replace st := st.kept hn
  replace o0 := o0.kept hn
  replace o1 := o1.kept hn
  replace b2 := b2.kept hn
  clear hn
  replace b2_l := b2.lt
  replace b2_0 := b2.at 0 _ rfl
  clear b2
  clear b2_l b2_0
  go_wp2_with fail
  refine with_boxes1 ?_
  intro X hX b3
  have hsz := hk.size
  replace hk := hk.trans hX
  replace st := st.kept hX
  replace o0 := o0.kept hX
  replace o1 := o1.kept hX
  replace o2 := o2.kept hX
  clear hX
  replace b3_l := b3.lt
  replace b3_0 := b3.at 0 _ rfl
  refine (make_any (-8191) _ [2] _ (.one _ _ _ b3_0)).mono ?_
  rintro e w1 ⟨p3, q3, rfl, o3, hn⟩
  replace hk := hk.trans hn
  replace st := st.kept hn
  replace o0 := o0.kept hn
  replace o1 := o1.kept hn
  replace o2 := o2.kept hn
  replace b3 := b3.kept hn
  clear hn
  replace b3_l := b3.lt
  replace b3_0 := b3.at 0 _ rfl
  clear b3
  clear b3_l b3_0
  go_wp2_with fail
  refine with_boxes1 ?_
  intro X hX b4
  have hsz := hk.size
  replace hk := hk.trans hX
  replace st := st.kept hX
  replace o0 := o0.kept hX
  replace o1 := o1.kept hX
  replace o2 := o2.kept hX
  replace o3 := o3.kept hX
  clear hX
  replace b4_l := b4.lt
  replace b4_0 := b4.at 0 _ rfl
  replace b4_1 := b4.at 1 _ rfl
  refine (make_any 0 _ [0, 2] _ (.two _ _ _ _ b4_0 b4_1)).mono ?_
  rintro e w1 ⟨p4, q4, rfl, o4, hn⟩
  replace hk := hk.trans hn
  replace st := st.kept hn
  replace o0 := o0.kept hn
  replace o1 := o1.kept hn
  replace o2 := o2.kept hn
  replace o3 := o3.kept hn
  replace b4 := b4.kept hn
  clear hn
  replace b4_l := b4.lt
  replace b4_0 := b4.at 0 _ rfl
  replace b4_1 := b4.at 1 _ rfl
  clear b4
  clear b4_l b4_0 b4_1
  have c0 := st.at 0 _ rfl
  have c1 := st.at 1 _ rfl
  rcases true_first (oddL 0 [] s.inl) with t0 | t0
  · have Hs := Lib.hid (show mayS s = false by unfold mayS; simp [t0])
    go_wp2_with fail
    refine (odd_any 0 [] s.inl _ _ _ o0).mono ?_
    rintro e w1 ⟨rfl, hn⟩
    replace hk := hk.trans hn
    replace st := st.kept hn
    replace o0 := o0.kept hn
    replace o1 := o1.kept hn
    replace o2 := o2.kept hn
    replace o3 := o3.kept hn
    replace o4 := o4.kept hn
    clear hn
    clear c0 c1
    go_wp2
    go_ret
    exact ⟨ret_bool (by rw [Hs.out]), hk⟩
  go_wp2_with fail
  refine (odd_any 0 [] s.inl _ _ _ o0).mono ?_
  rintro e w1 ⟨rfl, hn⟩
  replace hk := hk.trans hn
  replace st := st.kept hn
  replace o0 := o0.kept hn
  replace o1 := o1.kept hn
  replace o2 := o2.kept hn
  replace o3 := o3.kept hn
  replace o4 := o4.kept hn
  clear hn
  clear c0 c1
  have c6 := st.at 6 _ rfl
  have c7 := st.at 7 _ rfl
  rcases true_first (oddL 0 [] s.mx) with t1 | t1
  · have Hs := Lib.hid (show mayS s = false by unfold mayS; simp [t0, t1])
    go_wp2_with fail
    refine (odd_any 0 [] s.mx _ _ _ o0).mono ?_
    rintro e w1 ⟨rfl, hn⟩
    replace hk := hk.trans hn
    replace st := st.kept hn
    replace o0 := o0.kept hn
    replace o1 := o1.kept hn
    replace o2 := o2.kept hn
    replace o3 := o3.kept hn
    replace o4 := o4.kept hn
    clear hn
    clear c6 c7
    go_wp2
    go_ret
    exact ⟨ret_bool (by rw [Hs.out]), hk⟩
  go_wp2_with fail
  refine (odd_any 0 [] s.mx _ _ _ o0).mono ?_
  rintro e w1 ⟨rfl, hn⟩
  replace hk := hk.trans hn
  replace st := st.kept hn
  replace o0 := o0.kept hn
  replace o1 := o1.kept hn
  replace o2 := o2.kept hn
  replace o3 := o3.kept hn
  replace o4 := o4.kept hn
  clear hn
  clear c6 c7
  have c24 := st.at 24 _ rfl
  have c25 := st.at 25 _ rfl
  rcases true_first (oddL 0 [] s.bas) with t2 | t2
  · have Hs := Lib.hid (show mayS s = false by unfold mayS; simp [t0, t1, t2])
    go_wp2_with fail
    refine (odd_any 0 [] s.bas _ _ _ o0).mono ?_
    rintro e w1 ⟨rfl, hn⟩
    replace hk := hk.trans hn
    replace st := st.kept hn
    replace o0 := o0.kept hn
    replace o1 := o1.kept hn
    replace o2 := o2.kept hn
    replace o3 := o3.kept hn
    replace o4 := o4.kept hn
    clear hn
    clear c24 c25
    go_wp2
    go_ret
    exact ⟨ret_bool (by rw [Hs.out]), hk⟩
  go_wp2_with fail
  refine (odd_any 0 [] s.bas _ _ _ o0).mono ?_
  rintro e w1 ⟨rfl, hn⟩
  replace hk := hk.trans hn
  replace st := st.kept hn
  replace o0 := o0.kept hn
  replace o1 := o1.kept hn
  replace o2 := o2.kept hn
  replace o3 := o3.kept hn
  replace o4 := o4.kept hn
  clear hn
  clear c24 c25
  have c2 := st.at 2 _ rfl
  have c3 := st.at 3 _ rfl
  rcases true_first (oddL 0 [2] s.blk) with t3 | t3
  · have Hs := Lib.hid (show mayS s = false by unfold mayS; simp [t0, t1, t2, t3])
    go_wp2_with fail
    refine (odd_any 0 [2] s.blk _ _ _ o1).mono ?_
    rintro e w1 ⟨rfl, hn⟩
    replace hk := hk.trans hn
    replace st := st.kept hn
    replace o0 := o0.kept hn
    replace o1 := o1.kept hn
    replace o2 := o2.kept hn
    replace o3 := o3.kept hn
    replace o4 := o4.kept hn
    clear hn
    clear c2 c3
    go_wp2
    go_ret
    exact ⟨ret_bool (by rw [Hs.out]), hk⟩
  go_wp2_with fail
  refine (odd_any 0 [2] s.blk _ _ _ o1).mono ?_
  rintro e w1 ⟨rfl, hn⟩
  replace hk := hk.trans hn
  replace st := st.kept hn
  replace o0 := o0.kept hn
  replace o1 := o1.kept hn
  replace o2 := o2.kept hn
  replace o3 := o3.kept hn
  replace o4 := o4.kept hn
  clear hn
  clear c2 c3
  have c4 := st.at 4 _ rfl
  have c5 := st.at 5 _ rfl
  rcases true_first (oddL 0 [0] s.mn) with t4 | t4
  · have Hs := Lib.hid (show mayS s = false by unfold mayS; simp [t0, t1, t2, t3, t4])
    go_wp2_with fail
    refine (odd_any 0 [0] s.mn _ _ _ o2).mono ?_
    rintro e w1 ⟨rfl, hn⟩
    replace hk := hk.trans hn
    replace st := st.kept hn
    replace o0 := o0.kept hn
    replace o1 := o1.kept hn
    replace o2 := o2.kept hn
    replace o3 := o3.kept hn
    replace o4 := o4.kept hn
    clear hn
    clear c4 c5
    go_wp2
    go_ret
    exact ⟨ret_bool (by rw [Hs.out]), hk⟩
  go_wp2_with fail
  refine (odd_any 0 [0] s.mn _ _ _ o2).mono ?_
  rintro e w1 ⟨rfl, hn⟩
  replace hk := hk.trans hn
  replace st := st.kept hn
  replace o0 := o0.kept hn
  replace o1 := o1.kept hn
  replace o2 := o2.kept hn
  replace o3 := o3.kept hn
  replace o4 := o4.kept hn
  clear hn
  clear c4 c5
  rcases true_first (anyOdd (-8191) [2] s.m0 s.m1 s.m2 s.m3) with t5 | t5
  · have Hs := Lib.hid (show mayS s = false by unfold mayS; simp [t0, t1, t2, t3, t4, t5])
    go_wp2_with fail
    refine (contains8_any (-8191) [2] s.m0 s.m1 s.m2 s.m3 _ _ _ _ _ ⟨st.at 8 _ rfl, st.at 9 _ rfl, st.at 10 _ rfl, st.at 11 _ rfl, st.at 12 _ rfl, st.at 13 _ rfl, st.at 14 _ rfl, st.at 15 _ rfl⟩ o3).mono ?_
    rintro e w1 ⟨rfl, hn⟩
    replace hk := hk.trans hn
    replace st := st.kept hn
    replace o0 := o0.kept hn
    replace o1 := o1.kept hn
    replace o2 := o2.kept hn
    replace o3 := o3.kept hn
    replace o4 := o4.kept hn
    clear hn
    go_wp2
    go_ret
    exact ⟨ret_bool (by rw [Hs.out]), hk⟩
  go_wp2_with fail
  refine (contains8_any (-8191) [2] s.m0 s.m1 s.m2 s.m3 _ _ _ _ _ ⟨st.at 8 _ rfl, st.at 9 _ rfl, st.at 10 _ rfl, st.at 11 _ rfl, st.at 12 _ rfl, st.at 13 _ rfl, st.at 14 _ rfl, st.at 15 _ rfl⟩ o3).mono ?_
  rintro e w1 ⟨rfl, hn⟩
  replace hk := hk.trans hn
  replace st := st.kept hn
  replace o0 := o0.kept hn
  replace o1 := o1.kept hn
  replace o2 := o2.kept hn
  replace o3 := o3.kept hn
  replace o4 := o4.kept hn
  clear hn
  rcases true_first (anyOdd 0 [0, 2] s.p0 s.p1 s.p2 s.p3) with t6 | t6
  · have Hs := Lib.hid (show mayS s = false by unfold mayS; simp [t0, t1, t2, t3, t4, t5, t6])
    go_wp2_with fail
    refine (contains16_any 0 [0, 2] s.p0 s.p1 s.p2 s.p3 _ _ _ _ _ ⟨st.at 16 _ rfl, st.at 17 _ rfl, st.at 18 _ rfl, st.at 19 _ rfl, st.at 20 _ rfl, st.at 21 _ rfl, st.at 22 _ rfl, st.at 23 _ rfl⟩ o4).mono ?_
    rintro e w1 ⟨rfl, hn⟩
    replace hk := hk.trans hn
    replace st := st.kept hn
    replace o0 := o0.kept hn
    replace o1 := o1.kept hn
    replace o2 := o2.kept hn
    replace o3 := o3.kept hn
    replace o4 := o4.kept hn
    clear hn
    go_wp2
    go_ret
    exact ⟨ret_bool (by rw [Hs.out]), hk⟩
  go_wp2_with fail
  refine (contains16_any 0 [0, 2] s.p0 s.p1 s.p2 s.p3 _ _ _ _ _ ⟨st.at 16 _ rfl, st.at 17 _ rfl, st.at 18 _ rfl, st.at 19 _ rfl, st.at 20 _ rfl, st.at 21 _ rfl, st.at 22 _ rfl, st.at 23 _ rfl⟩ o4).mono ?_
  rintro e w1 ⟨rfl, hn⟩
  replace hk := hk.trans hn
  replace st := st.kept hn
  replace o0 := o0.kept hn
  replace o1 := o1.kept hn
  replace o2 := o2.kept hn
  replace o3 := o3.kept hn
  replace o4 := o4.kept hn
  clear hn
  have c26 := st.at 26 _ rfl
  have c27 := st.at 27 _ rfl
  rcases false_first ((inB 0 100 s.grow && inB 0 100 s.shrink)) with t7 | t7
  · have Hs := Lib.hid (show mayS s = false by unfold mayS; simp [t0, t1, t2, t3, t4, t5, t6, t7])
    go_wp2_with fail
    refine with_boxes1 ?_
    intro X hX b5
    have hsz := hk.size
    replace hk := hk.trans hX
    replace st := st.kept hX
    replace o0 := o0.kept hX
    replace o1 := o1.kept hX
    replace o2 := o2.kept hX
    replace o3 := o3.kept hX
    replace o4 := o4.kept hX
    clear hX
    replace b5_l := b5.lt
    replace b5_0 := b5.at 0 _ rfl
    replace b5_1 := b5.at 1 _ rfl
    refine (each2_any _ _ _ _ _ _ b5_0 b5_1).mono ?_
    rintro e w1 ⟨rfl, rfl⟩
    clear b5
    clear b5_l b5_0 b5_1
    go_wp2
    go_ret
    exact ⟨ret_bool (by rw [Hs.out]), hk⟩
  go_wp2_with fail
  refine with_boxes1 ?_
  intro X hX b5
  have hsz := hk.size
  replace hk := hk.trans hX
  replace st := st.kept hX
  replace o0 := o0.kept hX
  replace o1 := o1.kept hX
  replace o2 := o2.kept hX
  replace o3 := o3.kept hX
  replace o4 := o4.kept hX
  clear hX
  replace b5_l := b5.lt
  replace b5_0 := b5.at 0 _ rfl
  replace b5_1 := b5.at 1 _ rfl
  refine (each2_any _ _ _ _ _ _ b5_0 b5_1).mono ?_
  rintro e w1 ⟨rfl, rfl⟩
  clear b5
  clear b5_l b5_0 b5_1
  have c28 := st.at 28 _ rfl
  rcases false_first (inB 0 3 s.align) with t8 | t8
  · have Hs := Lib.hid (show mayS s = false by unfold mayS; simp [t0, t1, t2, t3, t4, t5, t6, t7, t8])
    go_wp2_with fail
    refine with_boxes1 ?_
    intro X hX b6
    have hsz := hk.size
    replace hk := hk.trans hX
    replace st := st.kept hX
    replace o0 := o0.kept hX
    replace o1 := o1.kept hX
    replace o2 := o2.kept hX
    replace o3 := o3.kept hX
    replace o4 := o4.kept hX
    clear hX
    replace b6_l := b6.lt
    replace b6_0 := b6.at 0 _ rfl
    refine (each1_any _ _ _ _ _ b6_0).mono ?_
    rintro e w1 ⟨rfl, rfl⟩
    clear b6
    clear b6_l b6_0
    go_wp2
    go_ret
    exact ⟨ret_bool (by rw [Hs.out]), hk⟩
  go_wp2_with fail
  refine with_boxes1 ?_
  intro X hX b6
  have hsz := hk.size
  replace hk := hk.trans hX
  replace st := st.kept hX
  replace o0 := o0.kept hX
  replace o1 := o1.kept hX
  replace o2 := o2.kept hX
  replace o3 := o3.kept hX
  replace o4 := o4.kept hX
  clear hX
  replace b6_l := b6.lt
  replace b6_0 := b6.at 0 _ rfl
  refine (each1_any _ _ _ _ _ b6_0).mono ?_
  rintro e w1 ⟨rfl, rfl⟩
  clear b6
  clear b6_l b6_0
  have c29 := st.at 29 _ rfl
  rcases false_first (inB 0 3 s.items) with t9 | t9
  · have Hs := Lib.hid (show mayS s = false by unfold mayS; simp [t0, t1, t2, t3, t4, t5, t6, t7, t8, t9])
    go_wp2_with fail
    refine with_boxes1 ?_
    intro X hX b7
    have hsz := hk.size
    replace hk := hk.trans hX
    replace st := st.kept hX
    replace o0 := o0.kept hX
    replace o1 := o1.kept hX
    replace o2 := o2.kept hX
    replace o3 := o3.kept hX
    replace o4 := o4.kept hX
    clear hX
    replace b7_l := b7.lt
    replace b7_0 := b7.at 0 _ rfl
    refine (each1_any _ _ _ _ _ b7_0).mono ?_
    rintro e w1 ⟨rfl, rfl⟩
    clear b7
    clear b7_l b7_0
    go_wp2
    go_ret
    exact ⟨ret_bool (by rw [Hs.out]), hk⟩
  go_wp2_with fail
  refine with_boxes1 ?_
  intro X hX b7
  have hsz := hk.size
  replace hk := hk.trans hX
  replace st := st.kept hX
  replace o0 := o0.kept hX
  replace o1 := o1.kept hX
  replace o2 := o2.kept hX
  replace o3 := o3.kept hX
  replace o4 := o4.kept hX
  clear hX
  replace b7_l := b7.lt
  replace b7_0 := b7.at 0 _ rfl
  refine (each1_any _ _ _ _ _ b7_0).mono ?_
  rintro e w1 ⟨rfl, rfl⟩
  clear b7
  clear b7_l b7_0
  have c30 := st.at 30 _ rfl
  rcases false_first (inB 0 3 s.just) with t10 | t10
  · have Hs := Lib.hid (show mayS s = false by unfold mayS; simp [t0, t1, t2, t3, t4, t5, t6, t7, t8, t9, t10])
    go_wp2_with fail
    refine with_boxes1 ?_
    intro X hX b8
    have hsz := hk.size
    replace hk := hk.trans hX
    replace st := st.kept hX
    replace o0 := o0.kept hX
    replace o1 := o1.kept hX
    replace o2 := o2.kept hX
    replace o3 := o3.kept hX
    replace o4 := o4.kept hX
    clear hX
    replace b8_l := b8.lt
    replace b8_0 := b8.at 0 _ rfl
    refine (each1_any _ _ _ _ _ b8_0).mono ?_
    rintro e w1 ⟨rfl, rfl⟩
    clear b8
    clear b8_l b8_0
    go_wp2
    go_ret
    exact ⟨ret_bool (by rw [Hs.out]), hk⟩
  go_wp2_with fail
  refine with_boxes1 ?_
  intro X hX b8
  have hsz := hk.size
  replace hk := hk.trans hX
  replace st := st.kept hX
  replace o0 := o0.kept hX
  replace o1 := o1.kept hX
  replace o2 := o2.kept hX
  replace o3 := o3.kept hX
  replace o4 := o4.kept hX
  clear hX
  replace b8_l := b8.lt
  replace b8_0 := b8.at 0 _ rfl
  refine (each1_any _ _ _ _ _ b8_0).mono ?_
  rintro e w1 ⟨rfl, rfl⟩
  clear b8
  clear b8_l b8_0
  have Hs := Lib.hid (show mayS s = true by unfold mayS; simp only [t0, t1, t2, t3, t4, t5, t6, t7, t8, t9, t10]; rfl)
  go_wp2
  go_ret
  exact ⟨ret_bool (by rw [Hs.out]), hk⟩
end Go.Proofs.Ytpkphohgnelajaa
