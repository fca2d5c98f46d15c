/- Layer 8: each number that may be is shown, and read again. -/
import Derived.Test.YtnbagilcbngdcaaDoorLaw8Back
import Derived.Test.YtnbagilcbngdcaaDoorMask
import Derived.Deep.CutRange
import Derived.BigRegion
namespace Go.Proofs.YtnbagilcbngdcaaDoor
open Go.RowKit Go.Lib
set_option linter.unusedSimpArgs false
set_option linter.unusedVariables false
set_option maxHeartbeats 1000000
theorem percent100 : ∀ n : Nat, n < 201 → percentS ((n : Int) - 100) 100 = ((n : Int) - 100, 0) := by decide +kernel
theorem lengthAll_main (v q V j Y : Int) (hq : bits .and .i64 v 16383 = q) (q0 : 0 ≤ q) (q1 : q ≤ 16383) (hj : (IntKind.u64.wrap v).tmod 201 = j) (j0 : 0 ≤ j) (j1 : j < 201) (hY : IntKind.i64.wrap (j - 100) = Y) (hY2 : Y = j - 100)
    (hV : V = if 8191 < q - 8191 then 8191 else q - 8191) (w : World) (hp : Pow w) :
    Calls Tryd.prog 4 #[.int .i64 v] w fun e w' => e = .returned (.bool true) ∧ Kept w w' := by
  have hb : lenB 1 V = true := by show inB (-8191) 8191 V = true; exact inB_true.2 (by split at hV <;> omega)
  have hc : lenB 2 Y = true := by show inB (-100) 100 Y = true; exact inB_true.2 (by omega)
  have H1 := Lib.hid (fun wx (hx : Pow wx) => show_is 1 V (lenT 1 V) 0 wx hx (if_pos hb))
  have H2 := Lib.hid (fun wx (hx : Pow wx) => show_is 2 Y (lenT 2 Y) 0 wx hx (if_pos hc))
  have H3 := Lib.hid (fun wx (hx : Pow wx) => parse_is (lenT 1 V) 1 V 0 wx (lenT_size hb) hx (parse_back hb))
  have H4 := Lib.hid (fun wx (hx : Pow wx) => parse_is (lenT 2 Y) 2 Y 0 wx (lenT_size hc) hx (parse_back hc))
  have H5 := Lib.hid (fun wx => used_is 1 V 55 66 V 0 wx (by unfold used8S; rw [if_pos (by rw [hb]; decide), if_pos rfl]))
  have H6 := Lib.hid (fun wx => used_is 2 Y 100 66 Y 0 wx (by
    unfold used8S
    rw [if_pos (by rw [hc]; decide), if_neg (by decide), if_pos rfl]
    obtain ⟨n, hn⟩ := Int.eq_ofNat_of_zero_le j0
    have := percent100 n (by omega)
    rw [hY2, hn]
    exact this))
  have hw : IntKind.i64.wrap (q - 8191) = q - 8191 := by rw [IntKind.wrap_i64]; omega
  have hj2 : IntKind.i64.wrap j = j := by rw [IntKind.wrap_i64]; omega
  have HY := Lib.hid hY2
  clear hY2 hb hc
  generalize lenT 1 V = T at *
  generalize lenT 2 Y = U at *
  by_cases hbig : 8191 < q - 8191
  · have hV2 : V = 8191 := by rw [hV, if_pos hbig]
    subst hV2
    clear hV
    have hk : Kept w w := Kept.refl w
    go_enter Tryd.func4, Tryd.ntmps4
    go_wp2_with fail
    refine (awake8_any _ (hp.kept hk)).mono ?_
    rintro e w1 ⟨rfl, hn⟩
    replace hk := hk.trans hn
    clear hn
    go_upto_region 5 with fail
    refine code_boxes2 ?_
    intro X hX x y
    have hsz := hk.size
    replace hk := hk.trans hX
    clear hX
    replace x_l := x.lt
    replace x_0 := x.at 0 _ rfl
    replace x_f0 := x.free 0
    replace x_1 := x.at 1 _ rfl
    replace x_f1 := x.free 1
    replace y_l := y.lt
    replace y_0 := y.at 0 _ rfl
    replace y_f0 := y.free 0
    replace y_1 := y.at 1 _ rfl
    replace y_f1 := y.free 1
    go_wp2_with fail
    refine with_eq ?_
    intro X eX
    have hsz := hk.size
    replace hk := (eX ▸ (by first | ((repeat (first | with_reducible exact hk | with_reducible refine Kept.alloc ?_ _ | with_reducible refine Kept.drew ?_ | with_reducible refine Kept.drewN ?_ _ | with_reducible refine Kept.set ?_ (by first | (simp; done) | (simp; omega) | omega) _)); done) | exact hk | exact (hk.alloc _) | exact ((hk.alloc _).alloc _) | exact (((hk.alloc _).alloc _).alloc _) | exact ((((hk.alloc _).alloc _).alloc _).alloc _) | exact (((((hk.alloc _).alloc _).alloc _).alloc _).alloc _) | exact ((((((hk.alloc _).alloc _).alloc _).alloc _).alloc _).alloc _) | (repeat (first | exact hk | refine Kept.alloc ?_ _ | refine Kept.drew ?_ | refine Kept.drewN ?_ _ | refine Kept.set ?_ (by first | (simp; done) | (simp; omega) | omega) _))) : Kept w X)
    replace x : Own X _ _ #[.int .i64 1, .int .i64 8191] := eX ▸ (((x.set 1 _)).is (by rfl))
    replace y := y.same (X := X) (by rw [eX]; repeat (first | with_reducible rfl | with_reducible refine (Below.heap_setCell _ _ _ _ (by first | omega | (simp; done) | (simp; omega))).trans ?_ | with_reducible refine (heap_drew_ _ _).trans ?_ | with_reducible refine (heap_drewN_ _ _ _).trans ?_))
    clear eX
    go_wp2_with fail
    refine (H1.out _ (hp.kept hk)).mono ?_
    rintro e w1 ⟨rfl, hn⟩
    replace hk := hk.trans hn
    replace x := x.kept hn
    replace y := y.kept hn
    clear hn
    replace x_l := x.lt
    replace x_0 := x.at 0 _ rfl
    replace x_f0 := x.free 0
    replace x_1 := x.at 1 _ rfl
    replace x_f1 := x.free 1
    replace y_l := y.lt
    replace y_0 := y.at 0 _ rfl
    replace y_f0 := y.free 0
    replace y_1 := y.at 1 _ rfl
    replace y_f1 := y.free 1
    go_wp2_with fail
    refine (H2.out _ (hp.kept hk)).mono ?_
    rintro e w1 ⟨rfl, hn⟩
    replace hk := hk.trans hn
    replace x := x.kept hn
    replace y := y.kept hn
    clear hn
    go_wp2_with fail
    refine (H3.out _ (hp.kept hk)).mono ?_
    rintro e w1 ⟨rfl, hn⟩
    replace hk := hk.trans hn
    replace x := x.kept hn
    replace y := y.kept hn
    clear hn
    go_wp2_with fail
    refine with_boxes1 ?_
    intro X hX a
    have hsz := hk.size
    replace hk := hk.trans hX
    replace x := x.kept hX
    replace y := y.kept hX
    clear hX
    refine (H4.out _ (hp.kept hk)).mono ?_
    rintro e w1 ⟨rfl, hn⟩
    replace hk := hk.trans hn
    replace x := x.kept hn
    replace y := y.kept hn
    replace a := a.kept hn
    clear hn
    replace x_l := x.lt
    replace x_0 := x.at 0 _ rfl
    replace x_f0 := x.free 0
    replace x_1 := x.at 1 _ rfl
    replace x_f1 := x.free 1
    replace y_l := y.lt
    replace y_0 := y.at 0 _ rfl
    replace y_f0 := y.free 0
    replace y_1 := y.at 1 _ rfl
    replace y_f1 := y.free 1
    replace a_l := a.lt
    replace a_0 := a.at 0 _ rfl
    replace a_f0 := a.free 0
    replace a_1 := a.at 1 _ rfl
    replace a_f1 := a.free 1
    go_wp2_with fail
    refine with_boxes1 ?_
    intro X hX b
    have hsz := hk.size
    replace hk := hk.trans hX
    replace x := x.kept hX
    replace y := y.kept hX
    replace a := a.kept hX
    clear hX
    refine (H5.out _).mono ?_
    rintro e w1 ⟨rfl, hn⟩
    replace hk := hk.trans hn
    replace x := x.kept hn
    replace y := y.kept hn
    replace a := a.kept hn
    replace b := b.kept hn
    clear hn
    replace x_l := x.lt
    replace x_0 := x.at 0 _ rfl
    replace x_f0 := x.free 0
    replace x_1 := x.at 1 _ rfl
    replace x_f1 := x.free 1
    replace y_l := y.lt
    replace y_0 := y.at 0 _ rfl
    replace y_f0 := y.free 0
    replace y_1 := y.at 1 _ rfl
    replace y_f1 := y.free 1
    replace a_l := a.lt
    replace a_0 := a.at 0 _ rfl
    replace a_f0 := a.free 0
    replace a_1 := a.at 1 _ rfl
    replace a_f1 := a.free 1
    replace b_l := b.lt
    replace b_0 := b.at 0 _ rfl
    replace b_f0 := b.free 0
    replace b_1 := b.at 1 _ rfl
    replace b_f1 := b.free 1
    go_wp2_with fail
    refine (H6.out _).mono ?_
    rintro e w1 ⟨rfl, hn⟩
    replace hk := hk.trans hn
    replace x := x.kept hn
    replace y := y.kept hn
    replace a := a.kept hn
    replace b := b.kept hn
    clear hn
    go_wp2_with fail
    refine (num_any _ _).mono ?_
    rintro e w1 ⟨rfl, rfl⟩
    go_wp2_with fail
    refine (num_any _ _).mono ?_
    rintro e w1 ⟨rfl, rfl⟩
    go_wp2_with fail
    refine (num_any _ _).mono ?_
    rintro e w1 ⟨rfl, rfl⟩
    go_wp2_with fail
    refine (num_any _ _).mono ?_
    rintro e w1 ⟨rfl, rfl⟩
    go_wp2_with fail
    refine (num_any _ _).mono ?_
    rintro e w1 ⟨rfl, rfl⟩
    go_wp2_with fail
    refine (num_any _ _).mono ?_
    rintro e w1 ⟨rfl, rfl⟩
    replace x_l := x.lt
    replace x_0 := x.at 0 _ rfl
    replace x_f0 := x.free 0
    replace x_1 := x.at 1 _ rfl
    replace x_f1 := x.free 1
    replace y_l := y.lt
    replace y_0 := y.at 0 _ rfl
    replace y_f0 := y.free 0
    replace y_1 := y.at 1 _ rfl
    replace y_f1 := y.free 1
    replace a_l := a.lt
    replace a_0 := a.at 0 _ rfl
    replace a_f0 := a.free 0
    replace a_1 := a.at 1 _ rfl
    replace a_f1 := a.free 1
    replace b_l := b.lt
    replace b_0 := b.at 0 _ rfl
    replace b_f0 := b.free 0
    replace b_1 := b.at 1 _ rfl
    replace b_f1 := b.free 1
    go_wp2
    go_ret
    exact ⟨rfl, hk⟩
  · have hV2 : V = q - 8191 := by rw [hV, if_neg hbig]
    subst hV2
    clear hV
    have hsm : ¬ 8191 < q - 8191 := hbig
    have hk : Kept w w := Kept.refl w
    go_enter Tryd.func4, Tryd.ntmps4
    go_wp2_with fail
    refine (awake8_any _ (hp.kept hk)).mono ?_
    rintro e w1 ⟨rfl, hn⟩
    replace hk := hk.trans hn
    clear hn
    go_upto_region 5 with fail
    refine code_boxes2 ?_
    intro X hX x y
    have hsz := hk.size
    replace hk := hk.trans hX
    clear hX
    replace x_l := x.lt
    replace x_0 := x.at 0 _ rfl
    replace x_f0 := x.free 0
    replace x_1 := x.at 1 _ rfl
    replace x_f1 := x.free 1
    replace y_l := y.lt
    replace y_0 := y.at 0 _ rfl
    replace y_f0 := y.free 0
    replace y_1 := y.at 1 _ rfl
    replace y_f1 := y.free 1
    go_wp2_with fail
    refine (H1.out _ (hp.kept hk)).mono ?_
    rintro e w1 ⟨rfl, hn⟩
    replace hk := hk.trans hn
    replace x := x.kept hn
    replace y := y.kept hn
    clear hn
    replace x_l := x.lt
    replace x_0 := x.at 0 _ rfl
    replace x_f0 := x.free 0
    replace x_1 := x.at 1 _ rfl
    replace x_f1 := x.free 1
    replace y_l := y.lt
    replace y_0 := y.at 0 _ rfl
    replace y_f0 := y.free 0
    replace y_1 := y.at 1 _ rfl
    replace y_f1 := y.free 1
    go_wp2_with fail
    refine (H2.out _ (hp.kept hk)).mono ?_
    rintro e w1 ⟨rfl, hn⟩
    replace hk := hk.trans hn
    replace x := x.kept hn
    replace y := y.kept hn
    clear hn
    go_wp2_with fail
    refine (H3.out _ (hp.kept hk)).mono ?_
    rintro e w1 ⟨rfl, hn⟩
    replace hk := hk.trans hn
    replace x := x.kept hn
    replace y := y.kept hn
    clear hn
    go_wp2_with fail
    refine with_boxes1 ?_
    intro X hX a
    have hsz := hk.size
    replace hk := hk.trans hX
    replace x := x.kept hX
    replace y := y.kept hX
    clear hX
    refine (H4.out _ (hp.kept hk)).mono ?_
    rintro e w1 ⟨rfl, hn⟩
    replace hk := hk.trans hn
    replace x := x.kept hn
    replace y := y.kept hn
    replace a := a.kept hn
    clear hn
    replace x_l := x.lt
    replace x_0 := x.at 0 _ rfl
    replace x_f0 := x.free 0
    replace x_1 := x.at 1 _ rfl
    replace x_f1 := x.free 1
    replace y_l := y.lt
    replace y_0 := y.at 0 _ rfl
    replace y_f0 := y.free 0
    replace y_1 := y.at 1 _ rfl
    replace y_f1 := y.free 1
    replace a_l := a.lt
    replace a_0 := a.at 0 _ rfl
    replace a_f0 := a.free 0
    replace a_1 := a.at 1 _ rfl
    replace a_f1 := a.free 1
    go_wp2_with fail
    refine with_boxes1 ?_
    intro X hX b
    have hsz := hk.size
    replace hk := hk.trans hX
    replace x := x.kept hX
    replace y := y.kept hX
    replace a := a.kept hX
    clear hX
    refine (H5.out _).mono ?_
    rintro e w1 ⟨rfl, hn⟩
    replace hk := hk.trans hn
    replace x := x.kept hn
    replace y := y.kept hn
    replace a := a.kept hn
    replace b := b.kept hn
    clear hn
    replace x_l := x.lt
    replace x_0 := x.at 0 _ rfl
    replace x_f0 := x.free 0
    replace x_1 := x.at 1 _ rfl
    replace x_f1 := x.free 1
    replace y_l := y.lt
    replace y_0 := y.at 0 _ rfl
    replace y_f0 := y.free 0
    replace y_1 := y.at 1 _ rfl
    replace y_f1 := y.free 1
    replace a_l := a.lt
    replace a_0 := a.at 0 _ rfl
    replace a_f0 := a.free 0
    replace a_1 := a.at 1 _ rfl
    replace a_f1 := a.free 1
    replace b_l := b.lt
    replace b_0 := b.at 0 _ rfl
    replace b_f0 := b.free 0
    replace b_1 := b.at 1 _ rfl
    replace b_f1 := b.free 1
    go_wp2_with fail
    refine (H6.out _).mono ?_
    rintro e w1 ⟨rfl, hn⟩
    replace hk := hk.trans hn
    replace x := x.kept hn
    replace y := y.kept hn
    replace a := a.kept hn
    replace b := b.kept hn
    clear hn
    go_wp2_with fail
    refine (num_any _ _).mono ?_
    rintro e w1 ⟨rfl, rfl⟩
    go_wp2_with fail
    refine (num_any _ _).mono ?_
    rintro e w1 ⟨rfl, rfl⟩
    go_wp2_with fail
    refine (num_any _ _).mono ?_
    rintro e w1 ⟨rfl, rfl⟩
    go_wp2_with fail
    refine (num_any _ _).mono ?_
    rintro e w1 ⟨rfl, rfl⟩
    go_wp2_with fail
    refine (num_any _ _).mono ?_
    rintro e w1 ⟨rfl, rfl⟩
    go_wp2_with fail
    refine (num_any _ _).mono ?_
    rintro e w1 ⟨rfl, rfl⟩
    replace x_l := x.lt
    replace x_0 := x.at 0 _ rfl
    replace x_f0 := x.free 0
    replace x_1 := x.at 1 _ rfl
    replace x_f1 := x.free 1
    replace y_l := y.lt
    replace y_0 := y.at 0 _ rfl
    replace y_f0 := y.free 0
    replace y_1 := y.at 1 _ rfl
    replace y_f1 := y.free 1
    replace a_l := a.lt
    replace a_0 := a.at 0 _ rfl
    replace a_f0 := a.free 0
    replace a_1 := a.at 1 _ rfl
    replace a_f1 := a.free 1
    replace b_l := b.lt
    replace b_0 := b.at 0 _ rfl
    replace b_f0 := b.free 0
    replace b_1 := b.at 1 _ rfl
    replace b_f1 := b.free 1
    go_wp2
    go_ret
    exact ⟨rfl, hk⟩
theorem lengthAll_walk (v : Int) (w : World) (hp : Pow w) :
    Calls Tryd.prog 4 #[.int .i64 v] w fun e w' => e = .returned (.bool true) ∧ Kept w w' := by
  obtain ⟨q, hq, q0, q1⟩ := masked v 14 16383 rfl (by decide)
  obtain ⟨j, hj, j0, j1⟩ := urest2 v 201 (by decide)
  exact lengthAll_main v q _ j (j - 100) hq q0 q1 hj j0 j1 (by rw [IntKind.wrap_i64]; omega) rfl rfl w hp
end Go.Proofs.YtnbagilcbngdcaaDoor
