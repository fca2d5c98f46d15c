/- Layer 8: length.Parse. -/
import Derived.Test.YtnbagilcbngdcaaDoorLenS
import Derived.Test.YtnbagilcbngdcaaDoorLenNum
import Derived.Test.YtnbagilcbngdcaaDoorSuffix
import Derived.Test.YtnbagilcbngdcaaDoorMg1
namespace Go.Proofs.YtnbagilcbngdcaaDoor
open Go.RowKit
set_option linter.unusedSimpArgs false
set_option linter.unusedVariables false
set_option maxHeartbeats 2000000
theorem lenParse_0bad (s t T : ByteArray) (v : Int) (w : World) (hs : (s.toList == [97, 117, 116, 111]) = false)
    (HC : Hid (∀ wx, Calls Tryd.prog 28 #[.string s, .string ⟨#[37]⟩] wx fun e w' => e = .returned (.tuple #[.string t, .bool false]) ∧ wx = w'))
    (HN : Hid (∀ wx, Calls Tryd.prog 29 #[.string t] wx fun e w' => e = .returned (.int .i64 v) ∧ Kept wx w'))
    (HS : Hid (∀ wx, Kept w wx → Calls Tryd.prog 12 #[lenV 1 v] wx fun e w' => e = .returned (.tuple #[.string T, .int .i64 800]) ∧ Kept wx w')) :
    Calls Tryd.prog 14 #[.string s] w fun e w' => e = .returned (.tuple #[lenV 0 0, .int .i64 800]) ∧ Kept w w' := by
  have Hs := Lib.hid (rfl : v = v)
  have hk : Kept w w := Kept.refl w
  go_enter Tryd.func14, Tryd.ntmps14
  go_wp2_with fail
  refine with_boxes2 ?_
  intro X hX o x
  have hsz := hk.size
  replace hk := hk.trans hX
  clear hX
  refine (HC.out _).mono ?_
  rintro e w1 ⟨rfl, rfl⟩
  go_wp2_with fail
  refine (HN.out _).mono ?_
  rintro e w1 ⟨rfl, hn⟩
  replace hk := hk.trans hn
  replace o := o.kept hn
  replace x := x.kept hn
  clear hn
  replace x_l := x.lt
  replace x_0 := x.at 0 _ rfl
  replace x_f0 := x.free 0
  replace x_1 := x.at 1 _ rfl
  replace x_f1 := x.free 1
  go_wp2_with fail
  refine with_eq ?_
  intro X eX
  have hsz := hk.size
  replace hk := (eX ▸ (by first | ((repeat (first | with_reducible exact hk | with_reducible refine Kept.alloc ?_ _ | with_reducible refine Kept.drew ?_ | with_reducible refine Kept.drewN ?_ _ | with_reducible refine Kept.set ?_ (by first | (simp; done) | (simp; omega) | omega) _)); done) | exact hk | exact (hk.alloc _) | exact ((hk.alloc _).alloc _) | exact (((hk.alloc _).alloc _).alloc _) | exact ((((hk.alloc _).alloc _).alloc _).alloc _) | exact (((((hk.alloc _).alloc _).alloc _).alloc _).alloc _) | exact ((((((hk.alloc _).alloc _).alloc _).alloc _).alloc _).alloc _) | (repeat (first | exact hk | refine Kept.alloc ?_ _ | refine Kept.drew ?_ | refine Kept.drewN ?_ _ | refine Kept.set ?_ (by first | (simp; done) | (simp; omega) | omega) _))) : Kept w X)
  replace o := o.same (X := X) (by rw [eX]; repeat (first | with_reducible rfl | with_reducible refine (Below.heap_setCell _ _ _ _ (by first | omega | (simp; done) | (simp; omega))).trans ?_ | with_reducible refine (heap_drew_ _ _).trans ?_ | with_reducible refine (heap_drewN_ _ _ _).trans ?_))
  replace x : Own X _ _ #[.int .i64 1, .int .i64 v] := eX ▸ ((((x.set 0 _).set 1 _)).is (by rfl))
  clear eX
  go_wp2_with fail
  refine (HS.out _ hk).mono ?_
  rintro e w1 ⟨rfl, hn⟩
  replace hk := hk.trans hn
  replace o := o.kept hn
  replace x := x.kept hn
  clear hn
  replace o_l := o.lt
  replace o_0 := o.at 0 _ rfl
  replace o_f0 := o.free 0
  replace o_1 := o.at 1 _ rfl
  replace o_f1 := o.free 1
  replace x_l := x.lt
  replace x_0 := x.at 0 _ rfl
  replace x_f0 := x.free 0
  replace x_1 := x.at 1 _ rfl
  replace x_f1 := x.free 1
  go_wp2
  exact bodyPost_ret (v := .tuple #[lenV 0 0, .int .i64 800]) (by simp [results, Tryd.results14, go_sem, o_0, o_1, x_0, x_1, o_l, x_l]) rfl ⟨by first | (rw [Hs.out]; done) | rfl, (by first | ((repeat (first | with_reducible exact hk | with_reducible refine Kept.alloc ?_ _ | with_reducible refine Kept.drew ?_ | with_reducible refine Kept.drewN ?_ _ | with_reducible refine Kept.set ?_ (by first | (simp; done) | (simp; omega) | omega) _)); done) | exact hk | exact (hk.alloc _) | exact ((hk.alloc _).alloc _) | exact (((hk.alloc _).alloc _).alloc _) | exact ((((hk.alloc _).alloc _).alloc _).alloc _) | exact (((((hk.alloc _).alloc _).alloc _).alloc _).alloc _) | exact ((((((hk.alloc _).alloc _).alloc _).alloc _).alloc _).alloc _) | (repeat (first | exact hk | refine Kept.alloc ?_ _ | refine Kept.drew ?_ | refine Kept.drewN ?_ _ | refine Kept.set ?_ (by first | (simp; done) | (simp; omega) | omega) _)))⟩
theorem lenParse_0diff (s t T : ByteArray) (v : Int) (w : World) (hs : (s.toList == [97, 117, 116, 111]) = false)
    (HC : Hid (∀ wx, Calls Tryd.prog 28 #[.string s, .string ⟨#[37]⟩] wx fun e w' => e = .returned (.tuple #[.string t, .bool false]) ∧ wx = w'))
    (HN : Hid (∀ wx, Calls Tryd.prog 29 #[.string t] wx fun e w' => e = .returned (.int .i64 v) ∧ Kept wx w'))
    (HS : Hid (∀ wx, Kept w wx → Calls Tryd.prog 12 #[lenV 1 v] wx fun e w' => e = .returned (.tuple #[.string T, .int .i64 0]) ∧ Kept wx w')) (hT : (T.toList == s.toList) = false) :
    Calls Tryd.prog 14 #[.string s] w fun e w' => e = .returned (.tuple #[lenV 0 0, .int .i64 800]) ∧ Kept w w' := by
  have Hs := Lib.hid (rfl : v = v)
  have hk : Kept w w := Kept.refl w
  go_enter Tryd.func14, Tryd.ntmps14
  go_wp2_with fail
  refine with_boxes2 ?_
  intro X hX o x
  have hsz := hk.size
  replace hk := hk.trans hX
  clear hX
  refine (HC.out _).mono ?_
  rintro e w1 ⟨rfl, rfl⟩
  go_wp2_with fail
  refine (HN.out _).mono ?_
  rintro e w1 ⟨rfl, hn⟩
  replace hk := hk.trans hn
  replace o := o.kept hn
  replace x := x.kept hn
  clear hn
  replace x_l := x.lt
  replace x_0 := x.at 0 _ rfl
  replace x_f0 := x.free 0
  replace x_1 := x.at 1 _ rfl
  replace x_f1 := x.free 1
  go_wp2_with fail
  refine with_eq ?_
  intro X eX
  have hsz := hk.size
  replace hk := (eX ▸ (by first | ((repeat (first | with_reducible exact hk | with_reducible refine Kept.alloc ?_ _ | with_reducible refine Kept.drew ?_ | with_reducible refine Kept.drewN ?_ _ | with_reducible refine Kept.set ?_ (by first | (simp; done) | (simp; omega) | omega) _)); done) | exact hk | exact (hk.alloc _) | exact ((hk.alloc _).alloc _) | exact (((hk.alloc _).alloc _).alloc _) | exact ((((hk.alloc _).alloc _).alloc _).alloc _) | exact (((((hk.alloc _).alloc _).alloc _).alloc _).alloc _) | exact ((((((hk.alloc _).alloc _).alloc _).alloc _).alloc _).alloc _) | (repeat (first | exact hk | refine Kept.alloc ?_ _ | refine Kept.drew ?_ | refine Kept.drewN ?_ _ | refine Kept.set ?_ (by first | (simp; done) | (simp; omega) | omega) _))) : Kept w X)
  replace o := o.same (X := X) (by rw [eX]; repeat (first | with_reducible rfl | with_reducible refine (Below.heap_setCell _ _ _ _ (by first | omega | (simp; done) | (simp; omega))).trans ?_ | with_reducible refine (heap_drew_ _ _).trans ?_ | with_reducible refine (heap_drewN_ _ _ _).trans ?_))
  replace x : Own X _ _ #[.int .i64 1, .int .i64 v] := eX ▸ ((((x.set 0 _).set 1 _)).is (by rfl))
  clear eX
  go_wp2_with fail
  refine (HS.out _ hk).mono ?_
  rintro e w1 ⟨rfl, hn⟩
  replace hk := hk.trans hn
  replace o := o.kept hn
  replace x := x.kept hn
  clear hn
  replace o_l := o.lt
  replace o_0 := o.at 0 _ rfl
  replace o_f0 := o.free 0
  replace o_1 := o.at 1 _ rfl
  replace o_f1 := o.free 1
  replace x_l := x.lt
  replace x_0 := x.at 0 _ rfl
  replace x_f0 := x.free 0
  replace x_1 := x.at 1 _ rfl
  replace x_f1 := x.free 1
  go_wp2
  exact bodyPost_ret (v := .tuple #[lenV 0 0, .int .i64 800]) (by simp [results, Tryd.results14, go_sem, o_0, o_1, x_0, x_1, o_l, x_l]) rfl ⟨by first | (rw [Hs.out]; done) | rfl, (by first | ((repeat (first | with_reducible exact hk | with_reducible refine Kept.alloc ?_ _ | with_reducible refine Kept.drew ?_ | with_reducible refine Kept.drewN ?_ _ | with_reducible refine Kept.set ?_ (by first | (simp; done) | (simp; omega) | omega) _)); done) | exact hk | exact (hk.alloc _) | exact ((hk.alloc _).alloc _) | exact (((hk.alloc _).alloc _).alloc _) | exact ((((hk.alloc _).alloc _).alloc _).alloc _) | exact (((((hk.alloc _).alloc _).alloc _).alloc _).alloc _) | exact ((((((hk.alloc _).alloc _).alloc _).alloc _).alloc _).alloc _) | (repeat (first | exact hk | refine Kept.alloc ?_ _ | refine Kept.drew ?_ | refine Kept.drewN ?_ _ | refine Kept.set ?_ (by first | (simp; done) | (simp; omega) | omega) _)))⟩
theorem lenParse_0same (s t T : ByteArray) (v : Int) (w : World) (hs : (s.toList == [97, 117, 116, 111]) = false)
    (HC : Hid (∀ wx, Calls Tryd.prog 28 #[.string s, .string ⟨#[37]⟩] wx fun e w' => e = .returned (.tuple #[.string t, .bool false]) ∧ wx = w'))
    (HN : Hid (∀ wx, Calls Tryd.prog 29 #[.string t] wx fun e w' => e = .returned (.int .i64 v) ∧ Kept wx w'))
    (HS : Hid (∀ wx, Kept w wx → Calls Tryd.prog 12 #[lenV 1 v] wx fun e w' => e = .returned (.tuple #[.string T, .int .i64 0]) ∧ Kept wx w')) (hT : (T.toList == s.toList) = true) :
    Calls Tryd.prog 14 #[.string s] w fun e w' => e = .returned (.tuple #[lenV 1 v, .int .i64 0]) ∧ Kept w w' := by
  have Hs := Lib.hid (rfl : v = v)
  have hk : Kept w w := Kept.refl w
  go_enter Tryd.func14, Tryd.ntmps14
  go_wp2_with fail
  refine with_boxes2 ?_
  intro X hX o x
  have hsz := hk.size
  replace hk := hk.trans hX
  clear hX
  refine (HC.out _).mono ?_
  rintro e w1 ⟨rfl, rfl⟩
  go_wp2_with fail
  refine (HN.out _).mono ?_
  rintro e w1 ⟨rfl, hn⟩
  replace hk := hk.trans hn
  replace o := o.kept hn
  replace x := x.kept hn
  clear hn
  replace x_l := x.lt
  replace x_0 := x.at 0 _ rfl
  replace x_f0 := x.free 0
  replace x_1 := x.at 1 _ rfl
  replace x_f1 := x.free 1
  go_wp2_with fail
  refine with_eq ?_
  intro X eX
  have hsz := hk.size
  replace hk := (eX ▸ (by first | ((repeat (first | with_reducible exact hk | with_reducible refine Kept.alloc ?_ _ | with_reducible refine Kept.drew ?_ | with_reducible refine Kept.drewN ?_ _ | with_reducible refine Kept.set ?_ (by first | (simp; done) | (simp; omega) | omega) _)); done) | exact hk | exact (hk.alloc _) | exact ((hk.alloc _).alloc _) | exact (((hk.alloc _).alloc _).alloc _) | exact ((((hk.alloc _).alloc _).alloc _).alloc _) | exact (((((hk.alloc _).alloc _).alloc _).alloc _).alloc _) | exact ((((((hk.alloc _).alloc _).alloc _).alloc _).alloc _).alloc _) | (repeat (first | exact hk | refine Kept.alloc ?_ _ | refine Kept.drew ?_ | refine Kept.drewN ?_ _ | refine Kept.set ?_ (by first | (simp; done) | (simp; omega) | omega) _))) : Kept w X)
  replace o := o.same (X := X) (by rw [eX]; repeat (first | with_reducible rfl | with_reducible refine (Below.heap_setCell _ _ _ _ (by first | omega | (simp; done) | (simp; omega))).trans ?_ | with_reducible refine (heap_drew_ _ _).trans ?_ | with_reducible refine (heap_drewN_ _ _ _).trans ?_))
  replace x : Own X _ _ #[.int .i64 1, .int .i64 v] := eX ▸ ((((x.set 0 _).set 1 _)).is (by rfl))
  clear eX
  go_wp2_with fail
  refine (HS.out _ hk).mono ?_
  rintro e w1 ⟨rfl, hn⟩
  replace hk := hk.trans hn
  replace o := o.kept hn
  replace x := x.kept hn
  clear hn
  replace o_l := o.lt
  replace o_0 := o.at 0 _ rfl
  replace o_f0 := o.free 0
  replace o_1 := o.at 1 _ rfl
  replace o_f1 := o.free 1
  replace x_l := x.lt
  replace x_0 := x.at 0 _ rfl
  replace x_f0 := x.free 0
  replace x_1 := x.at 1 _ rfl
  replace x_f1 := x.free 1
  go_wp2
  exact bodyPost_ret (v := .tuple #[lenV 1 v, .int .i64 0]) (by simp [results, Tryd.results14, go_sem, o_0, o_1, x_0, x_1, o_l, x_l]) rfl ⟨by first | (rw [Hs.out]; done) | rfl, (by first | ((repeat (first | with_reducible exact hk | with_reducible refine Kept.alloc ?_ _ | with_reducible refine Kept.drew ?_ | with_reducible refine Kept.drewN ?_ _ | with_reducible refine Kept.set ?_ (by first | (simp; done) | (simp; omega) | omega) _)); done) | exact hk | exact (hk.alloc _) | exact ((hk.alloc _).alloc _) | exact (((hk.alloc _).alloc _).alloc _) | exact ((((hk.alloc _).alloc _).alloc _).alloc _) | exact (((((hk.alloc _).alloc _).alloc _).alloc _).alloc _) | exact ((((((hk.alloc _).alloc _).alloc _).alloc _).alloc _).alloc _) | (repeat (first | exact hk | refine Kept.alloc ?_ _ | refine Kept.drew ?_ | refine Kept.drewN ?_ _ | refine Kept.set ?_ (by first | (simp; done) | (simp; omega) | omega) _)))⟩
theorem lenParse_1bad (s t T : ByteArray) (v : Int) (w : World) (hs : (s.toList == [97, 117, 116, 111]) = false)
    (HC : Hid (∀ wx, Calls Tryd.prog 28 #[.string s, .string ⟨#[37]⟩] wx fun e w' => e = .returned (.tuple #[.string t, .bool true]) ∧ wx = w'))
    (HN : Hid (∀ wx, Calls Tryd.prog 29 #[.string t] wx fun e w' => e = .returned (.int .i64 v) ∧ Kept wx w'))
    (HS : Hid (∀ wx, Kept w wx → Calls Tryd.prog 12 #[lenV 2 v] wx fun e w' => e = .returned (.tuple #[.string T, .int .i64 800]) ∧ Kept wx w')) :
    Calls Tryd.prog 14 #[.string s] w fun e w' => e = .returned (.tuple #[lenV 0 0, .int .i64 800]) ∧ Kept w w' := by
  have Hs := Lib.hid (rfl : v = v)
  have hk : Kept w w := Kept.refl w
  go_enter Tryd.func14, Tryd.ntmps14
  go_wp2_with fail
  refine with_boxes2 ?_
  intro X hX o x
  have hsz := hk.size
  replace hk := hk.trans hX
  clear hX
  refine (HC.out _).mono ?_
  rintro e w1 ⟨rfl, rfl⟩
  go_wp2_with fail
  refine (HN.out _).mono ?_
  rintro e w1 ⟨rfl, hn⟩
  replace hk := hk.trans hn
  replace o := o.kept hn
  replace x := x.kept hn
  clear hn
  replace x_l := x.lt
  replace x_0 := x.at 0 _ rfl
  replace x_f0 := x.free 0
  replace x_1 := x.at 1 _ rfl
  replace x_f1 := x.free 1
  go_wp2_with fail
  refine with_eq ?_
  intro X eX
  have hsz := hk.size
  replace hk := (eX ▸ (by first | ((repeat (first | with_reducible exact hk | with_reducible refine Kept.alloc ?_ _ | with_reducible refine Kept.drew ?_ | with_reducible refine Kept.drewN ?_ _ | with_reducible refine Kept.set ?_ (by first | (simp; done) | (simp; omega) | omega) _)); done) | exact hk | exact (hk.alloc _) | exact ((hk.alloc _).alloc _) | exact (((hk.alloc _).alloc _).alloc _) | exact ((((hk.alloc _).alloc _).alloc _).alloc _) | exact (((((hk.alloc _).alloc _).alloc _).alloc _).alloc _) | exact ((((((hk.alloc _).alloc _).alloc _).alloc _).alloc _).alloc _) | (repeat (first | exact hk | refine Kept.alloc ?_ _ | refine Kept.drew ?_ | refine Kept.drewN ?_ _ | refine Kept.set ?_ (by first | (simp; done) | (simp; omega) | omega) _))) : Kept w X)
  replace o := o.same (X := X) (by rw [eX]; repeat (first | with_reducible rfl | with_reducible refine (Below.heap_setCell _ _ _ _ (by first | omega | (simp; done) | (simp; omega))).trans ?_ | with_reducible refine (heap_drew_ _ _).trans ?_ | with_reducible refine (heap_drewN_ _ _ _).trans ?_))
  replace x : Own X _ _ #[.int .i64 2, .int .i64 v] := eX ▸ (((((x.set 0 _).set 1 _).set 0 _)).is (by rfl))
  clear eX
  go_wp2_with fail
  refine (HS.out _ hk).mono ?_
  rintro e w1 ⟨rfl, hn⟩
  replace hk := hk.trans hn
  replace o := o.kept hn
  replace x := x.kept hn
  clear hn
  replace o_l := o.lt
  replace o_0 := o.at 0 _ rfl
  replace o_f0 := o.free 0
  replace o_1 := o.at 1 _ rfl
  replace o_f1 := o.free 1
  replace x_l := x.lt
  replace x_0 := x.at 0 _ rfl
  replace x_f0 := x.free 0
  replace x_1 := x.at 1 _ rfl
  replace x_f1 := x.free 1
  go_wp2
  exact bodyPost_ret (v := .tuple #[lenV 0 0, .int .i64 800]) (by simp [results, Tryd.results14, go_sem, o_0, o_1, x_0, x_1, o_l, x_l]) rfl ⟨by first | (rw [Hs.out]; done) | rfl, (by first | ((repeat (first | with_reducible exact hk | with_reducible refine Kept.alloc ?_ _ | with_reducible refine Kept.drew ?_ | with_reducible refine Kept.drewN ?_ _ | with_reducible refine Kept.set ?_ (by first | (simp; done) | (simp; omega) | omega) _)); done) | exact hk | exact (hk.alloc _) | exact ((hk.alloc _).alloc _) | exact (((hk.alloc _).alloc _).alloc _) | exact ((((hk.alloc _).alloc _).alloc _).alloc _) | exact (((((hk.alloc _).alloc _).alloc _).alloc _).alloc _) | exact ((((((hk.alloc _).alloc _).alloc _).alloc _).alloc _).alloc _) | (repeat (first | exact hk | refine Kept.alloc ?_ _ | refine Kept.drew ?_ | refine Kept.drewN ?_ _ | refine Kept.set ?_ (by first | (simp; done) | (simp; omega) | omega) _)))⟩
theorem lenParse_1diff (s t T : ByteArray) (v : Int) (w : World) (hs : (s.toList == [97, 117, 116, 111]) = false)
    (HC : Hid (∀ wx, Calls Tryd.prog 28 #[.string s, .string ⟨#[37]⟩] wx fun e w' => e = .returned (.tuple #[.string t, .bool true]) ∧ wx = w'))
    (HN : Hid (∀ wx, Calls Tryd.prog 29 #[.string t] wx fun e w' => e = .returned (.int .i64 v) ∧ Kept wx w'))
    (HS : Hid (∀ wx, Kept w wx → Calls Tryd.prog 12 #[lenV 2 v] wx fun e w' => e = .returned (.tuple #[.string T, .int .i64 0]) ∧ Kept wx w')) (hT : (T.toList == s.toList) = false) :
    Calls Tryd.prog 14 #[.string s] w fun e w' => e = .returned (.tuple #[lenV 0 0, .int .i64 800]) ∧ Kept w w' := by
  have Hs := Lib.hid (rfl : v = v)
  have hk : Kept w w := Kept.refl w
  go_enter Tryd.func14, Tryd.ntmps14
  go_wp2_with fail
  refine with_boxes2 ?_
  intro X hX o x
  have hsz := hk.size
  replace hk := hk.trans hX
  clear hX
  refine (HC.out _).mono ?_
  rintro e w1 ⟨rfl, rfl⟩
  go_wp2_with fail
  refine (HN.out _).mono ?_
  rintro e w1 ⟨rfl, hn⟩
  replace hk := hk.trans hn
  replace o := o.kept hn
  replace x := x.kept hn
  clear hn
  replace x_l := x.lt
  replace x_0 := x.at 0 _ rfl
  replace x_f0 := x.free 0
  replace x_1 := x.at 1 _ rfl
  replace x_f1 := x.free 1
  go_wp2_with fail
  refine with_eq ?_
  intro X eX
  have hsz := hk.size
  replace hk := (eX ▸ (by first | ((repeat (first | with_reducible exact hk | with_reducible refine Kept.alloc ?_ _ | with_reducible refine Kept.drew ?_ | with_reducible refine Kept.drewN ?_ _ | with_reducible refine Kept.set ?_ (by first | (simp; done) | (simp; omega) | omega) _)); done) | exact hk | exact (hk.alloc _) | exact ((hk.alloc _).alloc _) | exact (((hk.alloc _).alloc _).alloc _) | exact ((((hk.alloc _).alloc _).alloc _).alloc _) | exact (((((hk.alloc _).alloc _).alloc _).alloc _).alloc _) | exact ((((((hk.alloc _).alloc _).alloc _).alloc _).alloc _).alloc _) | (repeat (first | exact hk | refine Kept.alloc ?_ _ | refine Kept.drew ?_ | refine Kept.drewN ?_ _ | refine Kept.set ?_ (by first | (simp; done) | (simp; omega) | omega) _))) : Kept w X)
  replace o := o.same (X := X) (by rw [eX]; repeat (first | with_reducible rfl | with_reducible refine (Below.heap_setCell _ _ _ _ (by first | omega | (simp; done) | (simp; omega))).trans ?_ | with_reducible refine (heap_drew_ _ _).trans ?_ | with_reducible refine (heap_drewN_ _ _ _).trans ?_))
  replace x : Own X _ _ #[.int .i64 2, .int .i64 v] := eX ▸ (((((x.set 0 _).set 1 _).set 0 _)).is (by rfl))
  clear eX
  go_wp2_with fail
  refine (HS.out _ hk).mono ?_
  rintro e w1 ⟨rfl, hn⟩
  replace hk := hk.trans hn
  replace o := o.kept hn
  replace x := x.kept hn
  clear hn
  replace o_l := o.lt
  replace o_0 := o.at 0 _ rfl
  replace o_f0 := o.free 0
  replace o_1 := o.at 1 _ rfl
  replace o_f1 := o.free 1
  replace x_l := x.lt
  replace x_0 := x.at 0 _ rfl
  replace x_f0 := x.free 0
  replace x_1 := x.at 1 _ rfl
  replace x_f1 := x.free 1
  go_wp2
  exact bodyPost_ret (v := .tuple #[lenV 0 0, .int .i64 800]) (by simp [results, Tryd.results14, go_sem, o_0, o_1, x_0, x_1, o_l, x_l]) rfl ⟨by first | (rw [Hs.out]; done) | rfl, (by first | ((repeat (first | with_reducible exact hk | with_reducible refine Kept.alloc ?_ _ | with_reducible refine Kept.drew ?_ | with_reducible refine Kept.drewN ?_ _ | with_reducible refine Kept.set ?_ (by first | (simp; done) | (simp; omega) | omega) _)); done) | exact hk | exact (hk.alloc _) | exact ((hk.alloc _).alloc _) | exact (((hk.alloc _).alloc _).alloc _) | exact ((((hk.alloc _).alloc _).alloc _).alloc _) | exact (((((hk.alloc _).alloc _).alloc _).alloc _).alloc _) | exact ((((((hk.alloc _).alloc _).alloc _).alloc _).alloc _).alloc _) | (repeat (first | exact hk | refine Kept.alloc ?_ _ | refine Kept.drew ?_ | refine Kept.drewN ?_ _ | refine Kept.set ?_ (by first | (simp; done) | (simp; omega) | omega) _)))⟩
theorem lenParse_1same (s t T : ByteArray) (v : Int) (w : World) (hs : (s.toList == [97, 117, 116, 111]) = false)
    (HC : Hid (∀ wx, Calls Tryd.prog 28 #[.string s, .string ⟨#[37]⟩] wx fun e w' => e = .returned (.tuple #[.string t, .bool true]) ∧ wx = w'))
    (HN : Hid (∀ wx, Calls Tryd.prog 29 #[.string t] wx fun e w' => e = .returned (.int .i64 v) ∧ Kept wx w'))
    (HS : Hid (∀ wx, Kept w wx → Calls Tryd.prog 12 #[lenV 2 v] wx fun e w' => e = .returned (.tuple #[.string T, .int .i64 0]) ∧ Kept wx w')) (hT : (T.toList == s.toList) = true) :
    Calls Tryd.prog 14 #[.string s] w fun e w' => e = .returned (.tuple #[lenV 2 v, .int .i64 0]) ∧ Kept w w' := by
  have Hs := Lib.hid (rfl : v = v)
  have hk : Kept w w := Kept.refl w
  go_enter Tryd.func14, Tryd.ntmps14
  go_wp2_with fail
  refine with_boxes2 ?_
  intro X hX o x
  have hsz := hk.size
  replace hk := hk.trans hX
  clear hX
  refine (HC.out _).mono ?_
  rintro e w1 ⟨rfl, rfl⟩
  go_wp2_with fail
  refine (HN.out _).mono ?_
  rintro e w1 ⟨rfl, hn⟩
  replace hk := hk.trans hn
  replace o := o.kept hn
  replace x := x.kept hn
  clear hn
  replace x_l := x.lt
  replace x_0 := x.at 0 _ rfl
  replace x_f0 := x.free 0
  replace x_1 := x.at 1 _ rfl
  replace x_f1 := x.free 1
  go_wp2_with fail
  refine with_eq ?_
  intro X eX
  have hsz := hk.size
  replace hk := (eX ▸ (by first | ((repeat (first | with_reducible exact hk | with_reducible refine Kept.alloc ?_ _ | with_reducible refine Kept.drew ?_ | with_reducible refine Kept.drewN ?_ _ | with_reducible refine Kept.set ?_ (by first | (simp; done) | (simp; omega) | omega) _)); done) | exact hk | exact (hk.alloc _) | exact ((hk.alloc _).alloc _) | exact (((hk.alloc _).alloc _).alloc _) | exact ((((hk.alloc _).alloc _).alloc _).alloc _) | exact (((((hk.alloc _).alloc _).alloc _).alloc _).alloc _) | exact ((((((hk.alloc _).alloc _).alloc _).alloc _).alloc _).alloc _) | (repeat (first | exact hk | refine Kept.alloc ?_ _ | refine Kept.drew ?_ | refine Kept.drewN ?_ _ | refine Kept.set ?_ (by first | (simp; done) | (simp; omega) | omega) _))) : Kept w X)
  replace o := o.same (X := X) (by rw [eX]; repeat (first | with_reducible rfl | with_reducible refine (Below.heap_setCell _ _ _ _ (by first | omega | (simp; done) | (simp; omega))).trans ?_ | with_reducible refine (heap_drew_ _ _).trans ?_ | with_reducible refine (heap_drewN_ _ _ _).trans ?_))
  replace x : Own X _ _ #[.int .i64 2, .int .i64 v] := eX ▸ (((((x.set 0 _).set 1 _).set 0 _)).is (by rfl))
  clear eX
  go_wp2_with fail
  refine (HS.out _ hk).mono ?_
  rintro e w1 ⟨rfl, hn⟩
  replace hk := hk.trans hn
  replace o := o.kept hn
  replace x := x.kept hn
  clear hn
  replace o_l := o.lt
  replace o_0 := o.at 0 _ rfl
  replace o_f0 := o.free 0
  replace o_1 := o.at 1 _ rfl
  replace o_f1 := o.free 1
  replace x_l := x.lt
  replace x_0 := x.at 0 _ rfl
  replace x_f0 := x.free 0
  replace x_1 := x.at 1 _ rfl
  replace x_f1 := x.free 1
  go_wp2
  exact bodyPost_ret (v := .tuple #[lenV 2 v, .int .i64 0]) (by simp [results, Tryd.results14, go_sem, o_0, o_1, x_0, x_1, o_l, x_l]) rfl ⟨by first | (rw [Hs.out]; done) | rfl, (by first | ((repeat (first | with_reducible exact hk | with_reducible refine Kept.alloc ?_ _ | with_reducible refine Kept.drew ?_ | with_reducible refine Kept.drewN ?_ _ | with_reducible refine Kept.set ?_ (by first | (simp; done) | (simp; omega) | omega) _)); done) | exact hk | exact (hk.alloc _) | exact ((hk.alloc _).alloc _) | exact (((hk.alloc _).alloc _).alloc _) | exact ((((hk.alloc _).alloc _).alloc _).alloc _) | exact (((((hk.alloc _).alloc _).alloc _).alloc _).alloc _) | exact ((((((hk.alloc _).alloc _).alloc _).alloc _).alloc _).alloc _) | (repeat (first | exact hk | refine Kept.alloc ?_ _ | refine Kept.drew ?_ | refine Kept.drewN ?_ _ | refine Kept.set ?_ (by first | (simp; done) | (simp; omega) | omega) _)))⟩
end Go.Proofs.YtnbagilcbngdcaaDoor
