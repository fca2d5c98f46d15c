/- Layer 14: Law14Auto. -/
import Derived.Test.YtpkphohgnelajaaSpan14
import Derived.Test.YtpkphohgnelajaaMask
namespace Go.Proofs.Ytpkphohgnelajaa
open Go.RowKit
set_option linter.unusedSimpArgs false
set_option linter.unusedVariables false
set_option maxHeartbeats 8000000
set_option maxRecDepth 20000
def autoS (a : Int) : Sty := ⟨⟨1, a⟩, ⟨0, 0⟩, ⟨1, 0⟩, ⟨0, 0⟩, ⟨0, 0⟩, ⟨0, 0⟩, ⟨1, 0⟩, ⟨1, 0⟩, ⟨1, 0⟩, ⟨1, 0⟩, ⟨1, 0⟩, ⟨1, 0⟩, ⟨0, 0⟩, 0, 1, 0, 0, 0, false⟩
theorem auto_span {a r : Int} (a0 : 0 ≤ a) (a1 : a ≤ 4095) (r0 : 0 ≤ r) (r1 : r ≤ 4095) : eqS (autoS a) r = ((max 0 (r - a) / 2, a, r - a - max 0 (r - a) / 2), 0) := by
  have hm : mayS (autoS a) = true := by
    rw [← ref_may]
    have e1 : okL ⟨1, a⟩ = true := by unfold okL; rw [show lenB 1 a = true from inB_true.2 (by omega)]; simpa using a0
    unfold refS autoS
    simp only [e1]
    rfl
  have q1 : usedS 1 a r (r - 0) = (a, 0) := used_px (inB_true.2 (by omega)) (mayB_true.2 (by omega)) (mayB_true.2 (by omega))
  have q2 : usedS 1 0 r 0 = (0, 0) := used_px (by decide) (mayB_true.2 (by omega)) (by decide)
  have q3 : usedS 0 0 r 1073741824 = (1073741824, 0) := used_auto (by decide) (mayB_true.2 (by omega)) (by decide)
  have al : alongS (autoS a) = 0 := rfl
  have hz : sizeS (autoS a) r = a := by
    have e : sizeS (autoS a) r = max 0 (max (usedS 1 0 r 0).1 (min (usedS 1 a r (r - alongS (autoS a))).1 (usedS 0 0 r 1073741824).1)) := rfl
    rw [e, al, q1, q2, q3]
    show max 0 (max 0 (min a 1073741824)) = a
    omega
  have hl : leftS (autoS a) r = r - a := by unfold leftS; rw [hz, al]; omega
  have he : eqS (autoS a) r = (spanS (autoS a) r, 0) := if_pos ⟨hm, inB_true.2 (by omega)⟩
  rw [he]
  unfold spanS
  rw [if_pos ⟨rfl, rfl⟩, hl, hz]
theorem equationAuto_walk (size room : Int) (w : World) :
    Calls Try.prog 12 #[.int .i64 size, .int .i64 room] w fun e w' => e = .returned (.bool true) ∧ Kept w w' := by
  obtain ⟨a, ha, a0, a1⟩ := masked size 12 4095 rfl (by decide)
  obtain ⟨r, hr, r0, r1⟩ := masked room 12 4095 rfl (by decide)
  have h1 := auto_span a0 a1 r0 r1
  obtain ⟨A, hA⟩ : ∃ A, max 0 (r - a) / 2 = A := ⟨_, rfl⟩
  obtain ⟨C, hC⟩ : ∃ C, r - a - A = C := ⟨_, rfl⟩
  rw [hA, hC] at h1
  have hb : (A + a + C == r) = true := by simp; omega
  have b0 : 0 ≤ A := by omega
  have b1 : A ≤ 4095 := by omega
  have b2 : -4095 ≤ C := by omega
  have b3 : C ≤ 4095 := by omega
  rcases Int.lt_or_le r a with g | g
  · have u0 : (A == 0) = true := by simp; omega
    have u1 : (C == r - a) = true := by simp; omega
    clear hA hC
    have hk : Kept w w := Kept.refl w
    go_enter Try.func12, Try.ntmps12
    go_wp2_with fail
    refine (awake14_any _).mono ?_
    rintro e w1 ⟨rfl, hn⟩
    replace hk := hk.trans hn
    clear hn
    go_wp2_with fail
    refine (newStyle_lit _).mono ?_
    rintro e w1 ⟨rfl, hn⟩
    replace hk := hk.trans hn
    clear hn
    go_wp2_with (first | (refine here_store 26 _ _ rfl ?_; refine wpList_store_own rfl 26 _ _ rfl _ _ rfl rfl (Own.new _ _ _) (by rfl) (by kernel_rfl) (by rfl) ?_; intro X s hoX hkX; have hsz := hk.size; replace hk := hkX _ (hk.alloc _) (by first | omega | (simp; omega)); clear hoX hkX; have cs0 := s.at 0 _ rfl; have fs0 := s.free 0; have cs1 := s.at 1 _ rfl; have fs1 := s.free 1; have cs8 := s.at 8 _ rfl; have fs8 := s.free 8; have cs9 := s.at 9 _ rfl; have fs9 := s.free 9; have cs10 := s.at 10 _ rfl; have fs10 := s.free 10; have cs11 := s.at 11 _ rfl; have fs11 := s.free 11) | (refine here_load 26 _ rfl ?_; refine wpList_load_own rfl 26 _ rfl _ rfl ((((((s.set 0 _).set 1 _).set 8 _).set 9 _).set 10 _).set 11 _) _ Try.underlying26 rfl (by kernel_rfl) ?_))
    go_wp2_with fail
    refine with_eq ?_
    intro X eX
    have hsz := hk.size
    replace hk := (eX ▸ (by first | ((repeat (first | with_reducible exact hk | with_reducible refine Kept.alloc ?_ _ | with_reducible refine Kept.drew ?_ | with_reducible refine Kept.drewN ?_ _ | with_reducible refine Kept.set ?_ (by first | (simp; done) | (simp; omega) | omega) _)); done) | exact hk | exact (hk.alloc _) | exact ((hk.alloc _).alloc _) | exact (((hk.alloc _).alloc _).alloc _) | exact ((((hk.alloc _).alloc _).alloc _).alloc _) | exact (((((hk.alloc _).alloc _).alloc _).alloc _).alloc _) | exact ((((((hk.alloc _).alloc _).alloc _).alloc _).alloc _).alloc _) | (repeat (first | exact hk | refine Kept.alloc ?_ _ | refine Kept.drew ?_ | refine Kept.drewN ?_ _ | refine Kept.set ?_ (by first | (simp; done) | (simp; omega) | omega) _))) : Kept w X)
    replace s : Own X _ _ #[.int .i64 1, .int .i64 a, .int .i64 0, .int .i64 0, .int .i64 1, .int .i64 0, .int .i64 0, .int .i64 0, .int .i64 0, .int .i64 0, .int .i64 0, .int .i64 0, .int .i64 1, .int .i64 0, .int .i64 1, .int .i64 0, .int .i64 1, .int .i64 0, .int .i64 1, .int .i64 0, .int .i64 1, .int .i64 0, .int .i64 1, .int .i64 0, .int .i64 0, .int .i64 0, .int .i64 0, .int .i64 1, .int .i64 0, .int .i64 0, .int .i64 0, .bool false] := eX ▸ ((((((((s.set 0 _).set 1 _).set 8 _).set 9 _).set 10 _).set 11 _)).is (by rfl))
    clear eX
    clear cs0 fs0 cs1 fs1 cs8 fs8 cs9 fs9 cs10 fs10 cs11 fs11
    go_wp2_with fail
    refine (eqBlock_any (autoS a) r _).mono ?_
    rintro e w1 ⟨rfl, hn⟩
    replace hk := hk.trans hn
    replace s := s.kept hn
    clear hn
    clear s
    go_wp2_with fail
    refine with_boxes1 ?_
    intro X hX x
    have hsz := hk.size
    replace hk := hk.trans hX
    clear hX
    replace x_l := x.lt
    replace x_0 := x.at 0 _ rfl
    replace x_1 := x.at 1 _ rfl
    replace x_2 := x.at 2 _ rfl
    refine (num_any _ _).mono ?_
    rintro e w1 ⟨rfl, rfl⟩
    go_wp2
    go_ret
    exact ⟨rfl, hk⟩
  · have u0 : (C - A == (r - a) % 2) = true := by simp; omega
    clear hA hC
    have hk : Kept w w := Kept.refl w
    go_enter Try.func12, Try.ntmps12
    go_wp2_with fail
    refine (awake14_any _).mono ?_
    rintro e w1 ⟨rfl, hn⟩
    replace hk := hk.trans hn
    clear hn
    go_wp2_with fail
    refine (newStyle_lit _).mono ?_
    rintro e w1 ⟨rfl, hn⟩
    replace hk := hk.trans hn
    clear hn
    go_wp2_with (first | (refine here_store 26 _ _ rfl ?_; refine wpList_store_own rfl 26 _ _ rfl _ _ rfl rfl (Own.new _ _ _) (by rfl) (by kernel_rfl) (by rfl) ?_; intro X s hoX hkX; have hsz := hk.size; replace hk := hkX _ (hk.alloc _) (by first | omega | (simp; omega)); clear hoX hkX; have cs0 := s.at 0 _ rfl; have fs0 := s.free 0; have cs1 := s.at 1 _ rfl; have fs1 := s.free 1; have cs8 := s.at 8 _ rfl; have fs8 := s.free 8; have cs9 := s.at 9 _ rfl; have fs9 := s.free 9; have cs10 := s.at 10 _ rfl; have fs10 := s.free 10; have cs11 := s.at 11 _ rfl; have fs11 := s.free 11) | (refine here_load 26 _ rfl ?_; refine wpList_load_own rfl 26 _ rfl _ rfl ((((((s.set 0 _).set 1 _).set 8 _).set 9 _).set 10 _).set 11 _) _ Try.underlying26 rfl (by kernel_rfl) ?_))
    go_wp2_with fail
    refine with_eq ?_
    intro X eX
    have hsz := hk.size
    replace hk := (eX ▸ (by first | ((repeat (first | with_reducible exact hk | with_reducible refine Kept.alloc ?_ _ | with_reducible refine Kept.drew ?_ | with_reducible refine Kept.drewN ?_ _ | with_reducible refine Kept.set ?_ (by first | (simp; done) | (simp; omega) | omega) _)); done) | exact hk | exact (hk.alloc _) | exact ((hk.alloc _).alloc _) | exact (((hk.alloc _).alloc _).alloc _) | exact ((((hk.alloc _).alloc _).alloc _).alloc _) | exact (((((hk.alloc _).alloc _).alloc _).alloc _).alloc _) | exact ((((((hk.alloc _).alloc _).alloc _).alloc _).alloc _).alloc _) | (repeat (first | exact hk | refine Kept.alloc ?_ _ | refine Kept.drew ?_ | refine Kept.drewN ?_ _ | refine Kept.set ?_ (by first | (simp; done) | (simp; omega) | omega) _))) : Kept w X)
    replace s : Own X _ _ #[.int .i64 1, .int .i64 a, .int .i64 0, .int .i64 0, .int .i64 1, .int .i64 0, .int .i64 0, .int .i64 0, .int .i64 0, .int .i64 0, .int .i64 0, .int .i64 0, .int .i64 1, .int .i64 0, .int .i64 1, .int .i64 0, .int .i64 1, .int .i64 0, .int .i64 1, .int .i64 0, .int .i64 1, .int .i64 0, .int .i64 1, .int .i64 0, .int .i64 0, .int .i64 0, .int .i64 0, .int .i64 1, .int .i64 0, .int .i64 0, .int .i64 0, .bool false] := eX ▸ ((((((((s.set 0 _).set 1 _).set 8 _).set 9 _).set 10 _).set 11 _)).is (by rfl))
    clear eX
    clear cs0 fs0 cs1 fs1 cs8 fs8 cs9 fs9 cs10 fs10 cs11 fs11
    go_wp2_with fail
    refine (eqBlock_any (autoS a) r _).mono ?_
    rintro e w1 ⟨rfl, hn⟩
    replace hk := hk.trans hn
    replace s := s.kept hn
    clear hn
    clear s
    go_wp2_with fail
    refine with_boxes1 ?_
    intro X hX x
    have hsz := hk.size
    replace hk := hk.trans hX
    clear hX
    replace x_l := x.lt
    replace x_0 := x.at 0 _ rfl
    replace x_1 := x.at 1 _ rfl
    replace x_2 := x.at 2 _ rfl
    refine (num_any _ _).mono ?_
    rintro e w1 ⟨rfl, rfl⟩
    go_wp2
    go_ret
    exact ⟨rfl, hk⟩
end Go.Proofs.Ytpkphohgnelajaa
