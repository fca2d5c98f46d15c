/- Layer 14: a block's numbers, or the error. -/
import Derived.Test.YtpkphohgnelajaaBlock
namespace Go.Proofs.Ytpkphohgnelajaa
open Go.RowKit
set_option linter.unusedSimpArgs false
set_option linter.unusedVariables false
set_option maxRecDepth 20000
def eqS (s : Sty) (room : Int) : (Int × Int × Int) × Int := if mayS s = true ∧ inB 0 4194304 room = true then (spanS s room, 0) else ((0, 0, 0), 1400)
abbrev spanV (x : Int × Int × Int) : Value := .agg #[.int .i64 x.1, .int .i64 x.2.1, .int .i64 x.2.2]
set_option maxHeartbeats 4000000 in
theorem eqBlock_any (s : Sty) (room : Int) (w : World) :
    Calls Try.prog 21 #[s.V, .int .i64 room] w fun e w' => e = .returned (.tuple #[spanV (eqS s room).1, .int .i64 (eqS s room).2]) ∧ Kept w w' := by
  have hk : Kept w w := Kept.refl w
  go_enter Try.func21, Try.ntmps21
  go_wp2_with (refine here_load 26 _ rfl ?_; refine wpList_load_own rfl 26 _ rfl _ rfl (Own.alloc (Own.new _ _ _) _) _ Try.underlying26 rfl (by kernel_rfl) ?_)
  go_wp2_with fail
  refine with_boxes2 ?_
  intro X hX st r
  have hsz := hk.size
  replace hk := hk.trans hX
  clear hX
  refine (cascadeMay_any s _).mono ?_
  rintro e w1 ⟨rfl, hn⟩
  replace hk := hk.trans hn
  replace st := st.kept hn
  replace r := r.kept hn
  clear hn
  rcases false_first (mayS s) with h | h
  · have Hs := Lib.hid (show eqS s room = ((0, 0, 0), 1400) from if_neg (by simp [h]))
    clear st
    replace r_l := r.lt
    replace r_0 := r.at 0 _ rfl
    replace r_f0 := r.free 0
    replace r_1 := r.at 1 _ rfl
    replace r_f1 := r.free 1
    replace r_2 := r.at 2 _ rfl
    replace r_f2 := r.free 2
    go_wp2
    exact bodyPost_ret (v := .tuple #[spanV (0, 0, 0), .int .i64 1400]) (by simp [results, Try.results21, go_sem, r_0, r_1, r_2, r_l]) rfl ⟨by first | (rw [Hs.out]; done) | rfl, (by first | ((repeat (first | with_reducible exact hk | with_reducible refine Kept.alloc ?_ _ | with_reducible refine Kept.drew ?_ | with_reducible refine Kept.drewN ?_ _ | with_reducible refine Kept.set ?_ (by first | (simp; done) | (simp; omega) | omega) _)); done) | exact hk | exact (hk.alloc _) | exact ((hk.alloc _).alloc _) | exact (((hk.alloc _).alloc _).alloc _) | exact ((((hk.alloc _).alloc _).alloc _).alloc _) | exact (((((hk.alloc _).alloc _).alloc _).alloc _).alloc _) | exact ((((((hk.alloc _).alloc _).alloc _).alloc _).alloc _).alloc _) | (repeat (first | exact hk | refine Kept.alloc ?_ _ | refine Kept.drew ?_ | refine Kept.drewN ?_ _ | refine Kept.set ?_ (by first | (simp; done) | (simp; omega) | omega) _)))⟩
  rcases false_first (inB 0 4194304 room) with h2 | h2
  · have Hs := Lib.hid (show eqS s room = ((0, 0, 0), 1400) from if_neg (by simp [h2]))
    go_wp2_with fail
    refine with_boxes1 ?_
    intro X hX a
    have hsz := hk.size
    replace hk := hk.trans hX
    replace r := r.kept hX
    replace st := st.kept hX
    clear hX
    replace a_l := a.lt
    replace a_0 := a.at 0 _ rfl
    refine (each1_any _ _ _ _ _ a_0).mono ?_
    rintro e w1 ⟨rfl, rfl⟩
    clear a
    clear a_l a_0
    clear st
    replace r_l := r.lt
    replace r_0 := r.at 0 _ rfl
    replace r_f0 := r.free 0
    replace r_1 := r.at 1 _ rfl
    replace r_f1 := r.free 1
    replace r_2 := r.at 2 _ rfl
    replace r_f2 := r.free 2
    go_wp2
    exact bodyPost_ret (v := .tuple #[spanV (0, 0, 0), .int .i64 1400]) (by simp [results, Try.results21, go_sem, r_0, r_1, r_2, r_l]) rfl ⟨by first | (rw [Hs.out]; done) | rfl, (by first | ((repeat (first | with_reducible exact hk | with_reducible refine Kept.alloc ?_ _ | with_reducible refine Kept.drew ?_ | with_reducible refine Kept.drewN ?_ _ | with_reducible refine Kept.set ?_ (by first | (simp; done) | (simp; omega) | omega) _)); done) | exact hk | exact (hk.alloc _) | exact ((hk.alloc _).alloc _) | exact (((hk.alloc _).alloc _).alloc _) | exact ((((hk.alloc _).alloc _).alloc _).alloc _) | exact (((((hk.alloc _).alloc _).alloc _).alloc _).alloc _) | exact ((((((hk.alloc _).alloc _).alloc _).alloc _).alloc _).alloc _) | (repeat (first | exact hk | refine Kept.alloc ?_ _ | refine Kept.drew ?_ | refine Kept.drewN ?_ _ | refine Kept.set ?_ (by first | (simp; done) | (simp; omega) | omega) _)))⟩
  have Hs := Lib.hid (show eqS s room = (spanS s room, 0) from if_pos ⟨h, h2⟩)
  obtain ⟨r0, r1⟩ := inB_true.1 h2
  go_wp2_with fail
  refine with_boxes1 ?_
  intro X hX a
  have hsz := hk.size
  replace hk := hk.trans hX
  replace r := r.kept hX
  replace st := st.kept hX
  clear hX
  replace a_l := a.lt
  replace a_0 := a.at 0 _ rfl
  refine (each1_any _ _ _ _ _ a_0).mono ?_
  rintro e w1 ⟨rfl, rfl⟩
  clear a
  clear a_l a_0
  go_wp2_with (refine here_load 26 _ rfl ?_; refine wpList_load_own rfl 26 _ rfl _ rfl st _ Try.underlying26 rfl (by kernel_rfl) ?_)
  go_wp2_with fail
  refine (usedBlock_any s room _ h r0 r1).mono ?_
  rintro e w1 ⟨rfl, hn⟩
  replace hk := hk.trans hn
  replace r := r.kept hn
  replace st := st.kept hn
  clear hn
  clear st
  replace r_l := r.lt
  replace r_0 := r.at 0 _ rfl
  replace r_f0 := r.free 0
  replace r_1 := r.at 1 _ rfl
  replace r_f1 := r.free 1
  replace r_2 := r.at 2 _ rfl
  replace r_f2 := r.free 2
  go_wp2
  exact bodyPost_ret (v := .tuple #[spanV (spanS s room), .int .i64 0]) (by simp [results, Try.results21, go_sem, r_0, r_1, r_2, r_l]) rfl ⟨by first | (rw [Hs.out]; done) | rfl, (by first | ((repeat (first | with_reducible exact hk | with_reducible refine Kept.alloc ?_ _ | with_reducible refine Kept.drew ?_ | with_reducible refine Kept.drewN ?_ _ | with_reducible refine Kept.set ?_ (by first | (simp; done) | (simp; omega) | omega) _)); done) | exact hk | exact (hk.alloc _) | exact ((hk.alloc _).alloc _) | exact (((hk.alloc _).alloc _).alloc _) | exact ((((hk.alloc _).alloc _).alloc _).alloc _) | exact (((((hk.alloc _).alloc _).alloc _).alloc _).alloc _) | exact ((((((hk.alloc _).alloc _).alloc _).alloc _).alloc _).alloc _) | (repeat (first | exact hk | refine Kept.alloc ?_ _ | refine Kept.drew ?_ | refine Kept.drewN ?_ _ | refine Kept.set ?_ (by first | (simp; done) | (simp; omega) | omega) _)))⟩
end Go.Proofs.Ytpkphohgnelajaa
