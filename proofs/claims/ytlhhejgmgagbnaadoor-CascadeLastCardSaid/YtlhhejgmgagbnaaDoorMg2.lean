/- Joined texts. -/
import Derived.Test.YtlhhejgmgagbnaaDoorMg1
import Derived.Shelf.Strconv.Itoa3
import Derived.Shelf.Lay
import Derived.Lib.AppendIntMem
import Derived.Ground.NamesProg
import Derived.Lib.ItoaLen
section
namespace Go.Proofs.YtlhhejgmgagbnaaDoor
open Go.RowKit
set_option linter.unusedSimpArgs false
set_option linter.unusedVariables false
/-- a box without declarations -/
def newS : Sty := ⟨⟨0, 0⟩, ⟨0, 0⟩, ⟨1, 0⟩, ⟨0, 0⟩, ⟨1, 0⟩, ⟨1, 0⟩, ⟨1, 0⟩, ⟨1, 0⟩, ⟨1, 0⟩, ⟨1, 0⟩, ⟨1, 0⟩, ⟨1, 0⟩, ⟨0, 0⟩, 0, 1, 0, 0, 0, false⟩
theorem px_any (x : Int) (w : World) :
    Calls Tryd.prog 53 #[.int .i64 x] w fun e w' => e = .returned (lenV 1 x) ∧ Kept w w' := by
  have hk : Kept w w := Kept.refl w
  go_enter Tryd.func53, Tryd.ntmps53
  go_wp2
  exact bodyPost_ret (v := lenV 1 x) (by simp [results, Tryd.results53, go_sem]) rfl ⟨by first | (rw [Hs.out]; done) | rfl, (by first | ((repeat (first | with_reducible exact hk | with_reducible refine Kept.alloc ?_ _ | with_reducible refine Kept.drew ?_ | with_reducible refine Kept.drewN ?_ _ | with_reducible refine Kept.set ?_ (by first | (simp; done) | (simp; omega) | omega) _)); done) | exact hk | exact (hk.alloc _) | exact ((hk.alloc _).alloc _) | exact (((hk.alloc _).alloc _).alloc _) | exact ((((hk.alloc _).alloc _).alloc _).alloc _) | exact (((((hk.alloc _).alloc _).alloc _).alloc _).alloc _) | exact ((((((hk.alloc _).alloc _).alloc _).alloc _).alloc _).alloc _) | (repeat (first | exact hk | refine Kept.alloc ?_ _ | refine Kept.drew ?_ | refine Kept.drewN ?_ _ | refine Kept.set ?_ (by first | (simp; done) | (simp; omega) | omega) _)))⟩
set_option maxHeartbeats 4000000 in
set_option maxRecDepth 20000 in
theorem newStyle_any (w : World) :
    Calls Tryd.prog 27 #[] w fun e w' => e = .returned newS.V ∧ Kept w w' := by
  have Hs := Lib.hid (show newS.V = .agg #[.int .i64 0, .int .i64 0, .int .i64 0, .int .i64 0, .int .i64 1, .int .i64 0, .int .i64 0, .int .i64 0, .int .i64 1, .int .i64 0, .int .i64 1, .int .i64 0, .int .i64 1, .int .i64 0, .int .i64 1, .int .i64 0, .int .i64 1, .int .i64 0, .int .i64 1, .int .i64 0, .int .i64 1, .int .i64 0, .int .i64 1, .int .i64 0, .int .i64 0, .int .i64 0, .int .i64 0, .int .i64 1, .int .i64 0, .int .i64 0, .int .i64 0, .bool false] from rfl)
  have hk : Kept w w := Kept.refl w
  go_enter Tryd.func27, Tryd.ntmps27
  go_wp2_with fail
  refine with_boxes1 ?_
  intro X hX r
  have hsz := hk.size
  replace hk := hk.trans hX
  clear hX
  refine (px_any _ _).mono ?_
  rintro e w1 ⟨rfl, hn⟩
  replace hk := hk.trans hn
  replace r := r.kept hn
  clear hn
  have rl := r.lt
  go_wp2_with (first | (refine here_store 50 _ _ rfl ?_; refine wpList_store_own rfl 50 _ _ rfl _ _ rfl rfl (Own.new _ _ _) (by rfl) (by kernel_rfl) (by rfl) ?_; intro X s hoX hkX; have hsz := hk.size; replace hk := hkX _ (hk.alloc _) (by first | omega | (simp; omega)); have r_l := r.lt; replace r := (r.alloc _).same (hoX _ (by first | omega | (simp; omega))); clear hoX hkX))
  refine wp_loop_rounds 5 ?_
  rw [rounds_succ]
  go_wp2_with fail
  refine (px_any _ _).mono ?_
  rintro e w1 ⟨rfl, hn⟩
  replace hk := hk.trans hn
  replace r := r.kept hn
  replace s := s.kept hn
  clear hn
  have f0 := s.free 8
  have f1 := s.free 9
  have c0 := s.at 8 _ rfl
  have c1 := s.at 9 _ rfl
  go_wp2_with fail
  refine with_eq ?_
  intro X eX
  have hsz := hk.size
  replace hk := (eX ▸ (by first | ((repeat (first | with_reducible exact hk | with_reducible refine Kept.alloc ?_ _ | with_reducible refine Kept.drew ?_ | with_reducible refine Kept.drewN ?_ _ | with_reducible refine Kept.set ?_ (by first | (simp; done) | (simp; omega) | omega) _)); done) | exact hk | exact (hk.alloc _) | exact ((hk.alloc _).alloc _) | exact (((hk.alloc _).alloc _).alloc _) | exact ((((hk.alloc _).alloc _).alloc _).alloc _) | exact (((((hk.alloc _).alloc _).alloc _).alloc _).alloc _) | exact ((((((hk.alloc _).alloc _).alloc _).alloc _).alloc _).alloc _) | (repeat (first | exact hk | refine Kept.alloc ?_ _ | refine Kept.drew ?_ | refine Kept.drewN ?_ _ | refine Kept.set ?_ (by first | (simp; done) | (simp; omega) | omega) _))) : Kept w X)
  replace r := r.same (X := X) (by rw [eX]; repeat (first | with_reducible rfl | with_reducible refine (Below.heap_setCell _ _ _ _ (by first | omega | (simp; done) | (simp; omega))).trans ?_ | with_reducible refine (heap_drew_ _ _).trans ?_ | with_reducible refine (heap_drewN_ _ _ _).trans ?_))
  replace s : Own X _ _ #[.int .i64 0, .int .i64 0, .int .i64 0, .int .i64 0, .int .i64 1, .int .i64 0, .int .i64 0, .int .i64 0, .int .i64 1, .int .i64 0, .int .i64 0, .int .i64 0, .int .i64 0, .int .i64 0, .int .i64 0, .int .i64 0, .int .i64 0, .int .i64 0, .int .i64 0, .int .i64 0, .int .i64 0, .int .i64 0, .int .i64 0, .int .i64 0, .int .i64 0, .int .i64 0, .int .i64 0, .int .i64 1, .int .i64 0, .int .i64 0, .int .i64 0, .bool false] := eX ▸ ((((s.set 8 _).set 9 _)).is (by rfl))
  clear eX
  clear f0 f1 c0 c1
  go_wp2_with fail
  refine (px_any _ _).mono ?_
  rintro e w1 ⟨rfl, hn⟩
  replace hk := hk.trans hn
  replace r := r.kept hn
  replace s := s.kept hn
  clear hn
  have f0 := s.free 16
  have f1 := s.free 17
  have c0 := s.at 16 _ rfl
  have c1 := s.at 17 _ rfl
  go_wp2
  rw [rounds_succ]
  go_wp2_with fail
  refine with_eq ?_
  intro X eX
  have hsz := hk.size
  replace hk := (eX ▸ (by first | ((repeat (first | with_reducible exact hk | with_reducible refine Kept.alloc ?_ _ | with_reducible refine Kept.drew ?_ | with_reducible refine Kept.drewN ?_ _ | with_reducible refine Kept.set ?_ (by first | (simp; done) | (simp; omega) | omega) _)); done) | exact hk | exact (hk.alloc _) | exact ((hk.alloc _).alloc _) | exact (((hk.alloc _).alloc _).alloc _) | exact ((((hk.alloc _).alloc _).alloc _).alloc _) | exact (((((hk.alloc _).alloc _).alloc _).alloc _).alloc _) | exact ((((((hk.alloc _).alloc _).alloc _).alloc _).alloc _).alloc _) | (repeat (first | exact hk | refine Kept.alloc ?_ _ | refine Kept.drew ?_ | refine Kept.drewN ?_ _ | refine Kept.set ?_ (by first | (simp; done) | (simp; omega) | omega) _))) : Kept w X)
  replace r := r.same (X := X) (by rw [eX]; repeat (first | with_reducible rfl | with_reducible refine (Below.heap_setCell _ _ _ _ (by first | omega | (simp; done) | (simp; omega))).trans ?_ | with_reducible refine (heap_drew_ _ _).trans ?_ | with_reducible refine (heap_drewN_ _ _ _).trans ?_))
  replace s : Own X _ _ #[.int .i64 0, .int .i64 0, .int .i64 0, .int .i64 0, .int .i64 1, .int .i64 0, .int .i64 0, .int .i64 0, .int .i64 1, .int .i64 0, .int .i64 0, .int .i64 0, .int .i64 0, .int .i64 0, .int .i64 0, .int .i64 0, .int .i64 1, .int .i64 0, .int .i64 0, .int .i64 0, .int .i64 0, .int .i64 0, .int .i64 0, .int .i64 0, .int .i64 0, .int .i64 0, .int .i64 0, .int .i64 1, .int .i64 0, .int .i64 0, .int .i64 0, .bool false] := eX ▸ ((((s.set 16 _).set 17 _)).is (by rfl))
  clear eX
  clear f0 f1 c0 c1
  go_wp2_with fail
  refine (px_any _ _).mono ?_
  rintro e w1 ⟨rfl, hn⟩
  replace hk := hk.trans hn
  replace r := r.kept hn
  replace s := s.kept hn
  clear hn
  have f0 := s.free 10
  have f1 := s.free 11
  have c0 := s.at 10 _ rfl
  have c1 := s.at 11 _ rfl
  go_wp2_with fail
  refine with_eq ?_
  intro X eX
  have hsz := hk.size
  replace hk := (eX ▸ (by first | ((repeat (first | with_reducible exact hk | with_reducible refine Kept.alloc ?_ _ | with_reducible refine Kept.drew ?_ | with_reducible refine Kept.drewN ?_ _ | with_reducible refine Kept.set ?_ (by first | (simp; done) | (simp; omega) | omega) _)); done) | exact hk | exact (hk.alloc _) | exact ((hk.alloc _).alloc _) | exact (((hk.alloc _).alloc _).alloc _) | exact ((((hk.alloc _).alloc _).alloc _).alloc _) | exact (((((hk.alloc _).alloc _).alloc _).alloc _).alloc _) | exact ((((((hk.alloc _).alloc _).alloc _).alloc _).alloc _).alloc _) | (repeat (first | exact hk | refine Kept.alloc ?_ _ | refine Kept.drew ?_ | refine Kept.drewN ?_ _ | refine Kept.set ?_ (by first | (simp; done) | (simp; omega) | omega) _))) : Kept w X)
  replace r := r.same (X := X) (by rw [eX]; repeat (first | with_reducible rfl | with_reducible refine (Below.heap_setCell _ _ _ _ (by first | omega | (simp; done) | (simp; omega))).trans ?_ | with_reducible refine (heap_drew_ _ _).trans ?_ | with_reducible refine (heap_drewN_ _ _ _).trans ?_))
  replace s : Own X _ _ #[.int .i64 0, .int .i64 0, .int .i64 0, .int .i64 0, .int .i64 1, .int .i64 0, .int .i64 0, .int .i64 0, .int .i64 1, .int .i64 0, .int .i64 1, .int .i64 0, .int .i64 0, .int .i64 0, .int .i64 0, .int .i64 0, .int .i64 1, .int .i64 0, .int .i64 0, .int .i64 0, .int .i64 0, .int .i64 0, .int .i64 0, .int .i64 0, .int .i64 0, .int .i64 0, .int .i64 0, .int .i64 1, .int .i64 0, .int .i64 0, .int .i64 0, .bool false] := eX ▸ ((((s.set 10 _).set 11 _)).is (by rfl))
  clear eX
  clear f0 f1 c0 c1
  go_wp2_with fail
  refine (px_any _ _).mono ?_
  rintro e w1 ⟨rfl, hn⟩
  replace hk := hk.trans hn
  replace r := r.kept hn
  replace s := s.kept hn
  clear hn
  have f0 := s.free 18
  have f1 := s.free 19
  have c0 := s.at 18 _ rfl
  have c1 := s.at 19 _ rfl
  go_wp2
  rw [rounds_succ]
  go_wp2_with fail
  refine with_eq ?_
  intro X eX
  have hsz := hk.size
  replace hk := (eX ▸ (by first | ((repeat (first | with_reducible exact hk | with_reducible refine Kept.alloc ?_ _ | with_reducible refine Kept.drew ?_ | with_reducible refine Kept.drewN ?_ _ | with_reducible refine Kept.set ?_ (by first | (simp; done) | (simp; omega) | omega) _)); done) | exact hk | exact (hk.alloc _) | exact ((hk.alloc _).alloc _) | exact (((hk.alloc _).alloc _).alloc _) | exact ((((hk.alloc _).alloc _).alloc _).alloc _) | exact (((((hk.alloc _).alloc _).alloc _).alloc _).alloc _) | exact ((((((hk.alloc _).alloc _).alloc _).alloc _).alloc _).alloc _) | (repeat (first | exact hk | refine Kept.alloc ?_ _ | refine Kept.drew ?_ | refine Kept.drewN ?_ _ | refine Kept.set ?_ (by first | (simp; done) | (simp; omega) | omega) _))) : Kept w X)
  replace r := r.same (X := X) (by rw [eX]; repeat (first | with_reducible rfl | with_reducible refine (Below.heap_setCell _ _ _ _ (by first | omega | (simp; done) | (simp; omega))).trans ?_ | with_reducible refine (heap_drew_ _ _).trans ?_ | with_reducible refine (heap_drewN_ _ _ _).trans ?_))
  replace s : Own X _ _ #[.int .i64 0, .int .i64 0, .int .i64 0, .int .i64 0, .int .i64 1, .int .i64 0, .int .i64 0, .int .i64 0, .int .i64 1, .int .i64 0, .int .i64 1, .int .i64 0, .int .i64 0, .int .i64 0, .int .i64 0, .int .i64 0, .int .i64 1, .int .i64 0, .int .i64 1, .int .i64 0, .int .i64 0, .int .i64 0, .int .i64 0, .int .i64 0, .int .i64 0, .int .i64 0, .int .i64 0, .int .i64 1, .int .i64 0, .int .i64 0, .int .i64 0, .bool false] := eX ▸ ((((s.set 18 _).set 19 _)).is (by rfl))
  clear eX
  clear f0 f1 c0 c1
  go_wp2_with fail
  refine (px_any _ _).mono ?_
  rintro e w1 ⟨rfl, hn⟩
  replace hk := hk.trans hn
  replace r := r.kept hn
  replace s := s.kept hn
  clear hn
  have f0 := s.free 12
  have f1 := s.free 13
  have c0 := s.at 12 _ rfl
  have c1 := s.at 13 _ rfl
  go_wp2_with fail
  refine with_eq ?_
  intro X eX
  have hsz := hk.size
  replace hk := (eX ▸ (by first | ((repeat (first | with_reducible exact hk | with_reducible refine Kept.alloc ?_ _ | with_reducible refine Kept.drew ?_ | with_reducible refine Kept.drewN ?_ _ | with_reducible refine Kept.set ?_ (by first | (simp; done) | (simp; omega) | omega) _)); done) | exact hk | exact (hk.alloc _) | exact ((hk.alloc _).alloc _) | exact (((hk.alloc _).alloc _).alloc _) | exact ((((hk.alloc _).alloc _).alloc _).alloc _) | exact (((((hk.alloc _).alloc _).alloc _).alloc _).alloc _) | exact ((((((hk.alloc _).alloc _).alloc _).alloc _).alloc _).alloc _) | (repeat (first | exact hk | refine Kept.alloc ?_ _ | refine Kept.drew ?_ | refine Kept.drewN ?_ _ | refine Kept.set ?_ (by first | (simp; done) | (simp; omega) | omega) _))) : Kept w X)
  replace r := r.same (X := X) (by rw [eX]; repeat (first | with_reducible rfl | with_reducible refine (Below.heap_setCell _ _ _ _ (by first | omega | (simp; done) | (simp; omega))).trans ?_ | with_reducible refine (heap_drew_ _ _).trans ?_ | with_reducible refine (heap_drewN_ _ _ _).trans ?_))
  replace s : Own X _ _ #[.int .i64 0, .int .i64 0, .int .i64 0, .int .i64 0, .int .i64 1, .int .i64 0, .int .i64 0, .int .i64 0, .int .i64 1, .int .i64 0, .int .i64 1, .int .i64 0, .int .i64 1, .int .i64 0, .int .i64 0, .int .i64 0, .int .i64 1, .int .i64 0, .int .i64 1, .int .i64 0, .int .i64 0, .int .i64 0, .int .i64 0, .int .i64 0, .int .i64 0, .int .i64 0, .int .i64 0, .int .i64 1, .int .i64 0, .int .i64 0, .int .i64 0, .bool false] := eX ▸ ((((s.set 12 _).set 13 _)).is (by rfl))
  clear eX
  clear f0 f1 c0 c1
  go_wp2_with fail
  refine (px_any _ _).mono ?_
  rintro e w1 ⟨rfl, hn⟩
  replace hk := hk.trans hn
  replace r := r.kept hn
  replace s := s.kept hn
  clear hn
  have f0 := s.free 20
  have f1 := s.free 21
  have c0 := s.at 20 _ rfl
  have c1 := s.at 21 _ rfl
  go_wp2
  rw [rounds_succ]
  go_wp2_with fail
  refine with_eq ?_
  intro X eX
  have hsz := hk.size
  replace hk := (eX ▸ (by first | ((repeat (first | with_reducible exact hk | with_reducible refine Kept.alloc ?_ _ | with_reducible refine Kept.drew ?_ | with_reducible refine Kept.drewN ?_ _ | with_reducible refine Kept.set ?_ (by first | (simp; done) | (simp; omega) | omega) _)); done) | exact hk | exact (hk.alloc _) | exact ((hk.alloc _).alloc _) | exact (((hk.alloc _).alloc _).alloc _) | exact ((((hk.alloc _).alloc _).alloc _).alloc _) | exact (((((hk.alloc _).alloc _).alloc _).alloc _).alloc _) | exact ((((((hk.alloc _).alloc _).alloc _).alloc _).alloc _).alloc _) | (repeat (first | exact hk | refine Kept.alloc ?_ _ | refine Kept.drew ?_ | refine Kept.drewN ?_ _ | refine Kept.set ?_ (by first | (simp; done) | (simp; omega) | omega) _))) : Kept w X)
  replace r := r.same (X := X) (by rw [eX]; repeat (first | with_reducible rfl | with_reducible refine (Below.heap_setCell _ _ _ _ (by first | omega | (simp; done) | (simp; omega))).trans ?_ | with_reducible refine (heap_drew_ _ _).trans ?_ | with_reducible refine (heap_drewN_ _ _ _).trans ?_))
  replace s : Own X _ _ #[.int .i64 0, .int .i64 0, .int .i64 0, .int .i64 0, .int .i64 1, .int .i64 0, .int .i64 0, .int .i64 0, .int .i64 1, .int .i64 0, .int .i64 1, .int .i64 0, .int .i64 1, .int .i64 0, .int .i64 0, .int .i64 0, .int .i64 1, .int .i64 0, .int .i64 1, .int .i64 0, .int .i64 1, .int .i64 0, .int .i64 0, .int .i64 0, .int .i64 0, .int .i64 0, .int .i64 0, .int .i64 1, .int .i64 0, .int .i64 0, .int .i64 0, .bool false] := eX ▸ ((((s.set 20 _).set 21 _)).is (by rfl))
  clear eX
  clear f0 f1 c0 c1
  go_wp2_with fail
  refine (px_any _ _).mono ?_
  rintro e w1 ⟨rfl, hn⟩
  replace hk := hk.trans hn
  replace r := r.kept hn
  replace s := s.kept hn
  clear hn
  have f0 := s.free 14
  have f1 := s.free 15
  have c0 := s.at 14 _ rfl
  have c1 := s.at 15 _ rfl
  go_wp2_with fail
  refine with_eq ?_
  intro X eX
  have hsz := hk.size
  replace hk := (eX ▸ (by first | ((repeat (first | with_reducible exact hk | with_reducible refine Kept.alloc ?_ _ | with_reducible refine Kept.drew ?_ | with_reducible refine Kept.drewN ?_ _ | with_reducible refine Kept.set ?_ (by first | (simp; done) | (simp; omega) | omega) _)); done) | exact hk | exact (hk.alloc _) | exact ((hk.alloc _).alloc _) | exact (((hk.alloc _).alloc _).alloc _) | exact ((((hk.alloc _).alloc _).alloc _).alloc _) | exact (((((hk.alloc _).alloc _).alloc _).alloc _).alloc _) | exact ((((((hk.alloc _).alloc _).alloc _).alloc _).alloc _).alloc _) | (repeat (first | exact hk | refine Kept.alloc ?_ _ | refine Kept.drew ?_ | refine Kept.drewN ?_ _ | refine Kept.set ?_ (by first | (simp; done) | (simp; omega) | omega) _))) : Kept w X)
  replace r := r.same (X := X) (by rw [eX]; repeat (first | with_reducible rfl | with_reducible refine (Below.heap_setCell _ _ _ _ (by first | omega | (simp; done) | (simp; omega))).trans ?_ | with_reducible refine (heap_drew_ _ _).trans ?_ | with_reducible refine (heap_drewN_ _ _ _).trans ?_))
  replace s : Own X _ _ #[.int .i64 0, .int .i64 0, .int .i64 0, .int .i64 0, .int .i64 1, .int .i64 0, .int .i64 0, .int .i64 0, .int .i64 1, .int .i64 0, .int .i64 1, .int .i64 0, .int .i64 1, .int .i64 0, .int .i64 1, .int .i64 0, .int .i64 1, .int .i64 0, .int .i64 1, .int .i64 0, .int .i64 1, .int .i64 0, .int .i64 0, .int .i64 0, .int .i64 0, .int .i64 0, .int .i64 0, .int .i64 1, .int .i64 0, .int .i64 0, .int .i64 0, .bool false] := eX ▸ ((((s.set 14 _).set 15 _)).is (by rfl))
  clear eX
  clear f0 f1 c0 c1
  go_wp2_with fail
  refine (px_any _ _).mono ?_
  rintro e w1 ⟨rfl, hn⟩
  replace hk := hk.trans hn
  replace r := r.kept hn
  replace s := s.kept hn
  clear hn
  have f0 := s.free 22
  have f1 := s.free 23
  have c0 := s.at 22 _ rfl
  have c1 := s.at 23 _ rfl
  go_wp2_with fail
  refine rounds_eq ?_
  intro X eX
  have hsz := hk.size
  replace hk := (eX ▸ (by first | ((repeat (first | with_reducible exact hk | with_reducible refine Kept.alloc ?_ _ | with_reducible refine Kept.drew ?_ | with_reducible refine Kept.drewN ?_ _ | with_reducible refine Kept.set ?_ (by first | (simp; done) | (simp; omega) | omega) _)); done) | exact hk | exact (hk.alloc _) | exact ((hk.alloc _).alloc _) | exact (((hk.alloc _).alloc _).alloc _) | exact ((((hk.alloc _).alloc _).alloc _).alloc _) | exact (((((hk.alloc _).alloc _).alloc _).alloc _).alloc _) | exact ((((((hk.alloc _).alloc _).alloc _).alloc _).alloc _).alloc _) | (repeat (first | exact hk | refine Kept.alloc ?_ _ | refine Kept.drew ?_ | refine Kept.drewN ?_ _ | refine Kept.set ?_ (by first | (simp; done) | (simp; omega) | omega) _))) : Kept w X)
  replace r := r.same (X := X) (by rw [eX]; repeat (first | with_reducible rfl | with_reducible refine (Below.heap_setCell _ _ _ _ (by first | omega | (simp; done) | (simp; omega))).trans ?_ | with_reducible refine (heap_drew_ _ _).trans ?_ | with_reducible refine (heap_drewN_ _ _ _).trans ?_))
  replace s : Own X _ _ #[.int .i64 0, .int .i64 0, .int .i64 0, .int .i64 0, .int .i64 1, .int .i64 0, .int .i64 0, .int .i64 0, .int .i64 1, .int .i64 0, .int .i64 1, .int .i64 0, .int .i64 1, .int .i64 0, .int .i64 1, .int .i64 0, .int .i64 1, .int .i64 0, .int .i64 1, .int .i64 0, .int .i64 1, .int .i64 0, .int .i64 1, .int .i64 0, .int .i64 0, .int .i64 0, .int .i64 0, .int .i64 1, .int .i64 0, .int .i64 0, .int .i64 0, .bool false] := eX ▸ ((((s.set 22 _).set 23 _)).is (by rfl))
  clear eX
  clear f0 f1 c0 c1
  rw [rounds_succ]
  go_wp2_with (first | (refine here_load 50 _ rfl ?_; refine wpList_load_own rfl 50 _ rfl _ rfl s _ Tryd.underlying50 rfl (by kernel_rfl) ?_) | (refine here_store 50 _ _ rfl ?_; refine wpList_store_own rfl 50 _ _ rfl _ _ rfl rfl r (by rfl) (by kernel_rfl) (by rfl) ?_; intro X oX hoX hkX; replace hk := hkX _ hk (by first | omega | (simp; omega)); replace r := oX; replace s := s.same (hoX _ (by first | omega | (simp; omega))); clear oX hoX hkX))
  exact bodyPost_ret (results_own 50 _ Tryd.results27 rfl r Tryd.underlying50 rfl (by kernel_rfl)) rfl ⟨by rw [Hs.out], hk⟩
theorem newStyle_lit (w : World) :
    Calls Tryd.prog 27 #[] w fun e w' => e = .returned (.agg #[.int .i64 0, .int .i64 0, .int .i64 0, .int .i64 0, .int .i64 1, .int .i64 0, .int .i64 0, .int .i64 0, .int .i64 1, .int .i64 0, .int .i64 1, .int .i64 0, .int .i64 1, .int .i64 0, .int .i64 1, .int .i64 0, .int .i64 1, .int .i64 0, .int .i64 1, .int .i64 0, .int .i64 1, .int .i64 0, .int .i64 1, .int .i64 0, .int .i64 0, .int .i64 0, .int .i64 0, .int .i64 1, .int .i64 0, .int .i64 0, .int .i64 0, .bool false]) ∧ Kept w w' := newStyle_any w
end Go.Proofs.YtlhhejgmgagbnaaDoor
end
section
namespace Go.Proofs
open Go.Shelf
shelf_lay LaysM.n171 Nm 171 at Tryd as Tryd.laysItoa
end Go.Proofs
namespace Go.Proofs.YtlhhejgmgagbnaaDoor
open Go.RowKit Go.Shelf
/-- the library's table stands -/
def Pow (w : World) : Prop := Lib.TabIs Tryd.prog w "internal/strconv.uint64pow10" .u64 Lib.pow10Tab
theorem itoa_any (n : Int) (h0 : -9223372036854775808 ≤ n) (h1 : n ≤ 9223372036854775807) (w : World) (hp : Pow w) :
    Calls Tryd.prog 31 #[.int .i64 n] w fun e w' => e = .returned (.string ⟨(Lib.itoa n).toArray⟩) ∧ Kept w w' :=
  (Any.strconv_Itoa Tryd.laysItoa n h0 h1 w hp).mono fun e w' ⟨he, k, os, hw⟩ => ⟨he, by rw [hw]; exact ⟨Lib.below_grow _ _ (Nat.le_refl _) _ _⟩⟩
end Go.Proofs.YtlhhejgmgagbnaaDoor
end
section
namespace Go.Proofs.YtlhhejgmgagbnaaDoor
open Go.RowKit
theorem num_any (x : Int) (w : World) :
    Calls Tryd.prog 17 #[.int .i64 x] w fun e w' => e = .returned (.int .i64 x) ∧ w = w' := by
  go_enter Tryd.func17, Tryd.ntmps17
  go_wp2
  go_ret
  exact ⟨rfl, rfl⟩
end Go.Proofs.YtlhhejgmgagbnaaDoor
end
section
namespace Go.Proofs.YtlhhejgmgagbnaaDoor
open Go.RowKit
set_option linter.unusedSimpArgs false
set_option linter.unusedVariables false
theorem Pow.kept {w w' : World} (h : Pow w) (k : Kept w w') : Pow w' :=
  Lib.tabBelow_of_tabIs h w' k.below
def lenT (k v : Int) : ByteArray := if k = 1 then ⟨(Lib.itoa v).toArray⟩ else if k = 2 then ⟨(Lib.itoa v).toArray⟩ ++ ⟨#[37]⟩ else ⟨#[97, 117, 116, 111]⟩
theorem lenMay_any (k v : Int) (w : World) :
    Calls Tryd.prog 18 #[lenV k v] w fun e w' => e = .returned (.bool (lenB k v)) ∧ Kept w w' := by
  by_cases h0 : k = 0
  · subst h0
    have Hs := Lib.hid (show lenB 0 v = (v == 0) from rfl)
    have hk : Kept w w := Kept.refl w
    go_enter Tryd.func18, Tryd.ntmps18
    go_wp2
    go_ret
    exact ⟨ret_bool (by rw [Hs.out]), (Kept.refl w).alloc _⟩
  by_cases h1 : k = 1
  · subst h1
    have Hs := Lib.hid (show lenB 1 v = inB (-8191) 8191 v from rfl)
    clear h0
    have hk : Kept w w := Kept.refl w
    go_enter Tryd.func18, Tryd.ntmps18
    go_wp2_with fail
    refine with_boxes2 ?_
    intro X hX x l
    have hsz := hk.size
    replace hk := hk.trans hX
    clear hX
    replace x_l := x.lt
    replace x_0 := x.at 0 _ rfl
    replace x_1 := x.at 1 _ rfl
    replace l_l := l.lt
    replace l_0 := l.at 0 _ rfl
    refine (each1_any _ _ _ _ _ l_0).mono ?_
    rintro e w1 ⟨rfl, rfl⟩
    go_wp2
    go_ret
    exact ⟨ret_bool (by rw [Hs.out]), hk⟩
  by_cases h2 : k = 2
  · subst h2
    have Hs := Lib.hid (show lenB 2 v = inB (-100) 100 v from rfl)
    clear h0 h1
    have hk : Kept w w := Kept.refl w
    go_enter Tryd.func18, Tryd.ntmps18
    go_wp2_with fail
    refine with_boxes2 ?_
    intro X hX x l
    have hsz := hk.size
    replace hk := hk.trans hX
    clear hX
    replace x_l := x.lt
    replace x_0 := x.at 0 _ rfl
    replace x_1 := x.at 1 _ rfl
    replace l_l := l.lt
    replace l_0 := l.at 0 _ rfl
    refine (each1_any _ _ _ _ _ l_0).mono ?_
    rintro e w1 ⟨rfl, rfl⟩
    go_wp2
    go_ret
    exact ⟨ret_bool (by rw [Hs.out]), hk⟩
  · have Hs := Lib.hid (show lenB k v = false from by unfold lenB; rw [if_neg h0, if_neg h1, if_neg h2])
    have b0 : (k == 0) = false := by simp [h0]
    have b1 : (k == 1) = false := by simp [h1]
    have b2 : (k == 2) = false := by simp [h2]
    clear h0 h1 h2
    have hk : Kept w w := Kept.refl w
    go_enter Tryd.func18, Tryd.ntmps18
    go_wp2
    go_ret
    exact ⟨ret_bool (by rw [Hs.out]), (Kept.refl w).alloc _⟩
theorem lenB_kinds {k v : Int} (h : lenB k v = true) : (k = 0 ∧ v = 0) ∨ (k = 1 ∧ -8191 ≤ v ∧ v ≤ 8191) ∨ (k = 2 ∧ -100 ≤ v ∧ v ≤ 100) := by
  unfold lenB at h
  by_cases h0 : k = 0
  · rw [if_pos h0] at h; exact .inl ⟨h0, by simpa using h⟩
  · rw [if_neg h0] at h
    by_cases h1 : k = 1
    · rw [if_pos h1] at h; exact .inr (.inl ⟨h1, inB_true.1 h⟩)
    · rw [if_neg h1] at h
      by_cases h2 : k = 2
      · rw [if_pos h2] at h; exact .inr (.inr ⟨h2, inB_true.1 h⟩)
      · rw [if_neg h2] at h; cases h
def showS (k v : Int) : ByteArray × Int := if lenB k v = true then (lenT k v, 0) else (⟨#[]⟩, 800)
theorem lenMay_is (k v : Int) (b : Bool) (w : World) (h : lenB k v = b) :
    Calls Tryd.prog 18 #[lenV k v] w fun e w' => e = .returned (.bool b) ∧ Kept w w' := h ▸ lenMay_any k v w
theorem lenShow_any (k v : Int) (w : World) (hp : Pow w) :
    Calls Tryd.prog 11 #[lenV k v] w fun e w' => e = .returned (.tuple #[.string (showS k v).1, .int .i64 (showS k v).2]) ∧ Kept w w' := by
  cases hb : lenB k v with
  | false =>
    have HB := Lib.hid hb
    rw [show showS k v = (⟨#[]⟩, 800) from if_neg (by rw [hb]; decide)]
    clear hb
    have hk : Kept w w := Kept.refl w
    go_enter Tryd.func11, Tryd.ntmps11
    go_wp2_with fail
    refine with_boxes1 ?_
    intro X hX x
    have hsz := hk.size
    replace hk := hk.trans hX
    clear hX
    replace x_l := x.lt
    replace x_0 := x.at 0 _ rfl
    replace x_1 := x.at 1 _ rfl
    refine (lenMay_is _ _ _ _ HB.out).mono ?_
    rintro e w1 ⟨rfl, hn⟩
    replace hk := hk.trans hn
    replace x := x.kept hn
    clear hn
    replace x_l := x.lt
    replace x_0 := x.at 0 _ rfl
    replace x_1 := x.at 1 _ rfl
    go_wp2
    go_ret2
    exact ⟨rfl, hk⟩
  | true =>
    have HB := Lib.hid hb
    rw [show showS k v = (lenT k v, 0) from if_pos hb]
    rcases lenB_kinds hb with ⟨rfl, rfl⟩ | ⟨rfl, v1, v2⟩ | ⟨rfl, v1, v2⟩
    · rw [show lenT 0 0 = ⟨#[97, 117, 116, 111]⟩ from rfl]
      clear hb
      have hk : Kept w w := Kept.refl w
      go_enter Tryd.func11, Tryd.ntmps11
      go_wp2_with fail
      refine with_boxes1 ?_
      intro X hX x
      have hsz := hk.size
      replace hk := hk.trans hX
      clear hX
      replace x_l := x.lt
      replace x_0 := x.at 0 _ rfl
      replace x_1 := x.at 1 _ rfl
      refine (lenMay_is _ _ _ _ HB.out).mono ?_
      rintro e w1 ⟨rfl, hn⟩
      replace hk := hk.trans hn
      replace x := x.kept hn
      clear hn
      replace x_l := x.lt
      replace x_0 := x.at 0 _ rfl
      replace x_1 := x.at 1 _ rfl
      go_wp2
      go_ret2
      exact ⟨rfl, hk⟩
    · rw [show lenT 1 v = ⟨(Lib.itoa v).toArray⟩ from rfl]
      clear hb
      have hk : Kept w w := Kept.refl w
      go_enter Tryd.func11, Tryd.ntmps11
      go_wp2_with fail
      refine with_boxes1 ?_
      intro X hX x
      have hsz := hk.size
      replace hk := hk.trans hX
      clear hX
      replace x_l := x.lt
      replace x_0 := x.at 0 _ rfl
      replace x_1 := x.at 1 _ rfl
      refine (lenMay_is _ _ _ _ HB.out).mono ?_
      rintro e w1 ⟨rfl, hn⟩
      replace hk := hk.trans hn
      replace x := x.kept hn
      clear hn
      replace x_l := x.lt
      replace x_0 := x.at 0 _ rfl
      replace x_1 := x.at 1 _ rfl
      go_wp2_with fail
      refine (itoa_any v (by omega) (by omega) _ (hp.kept hk)).mono ?_
      rintro e w1 ⟨rfl, hn⟩
      replace hk := hk.trans hn
      replace x := x.kept hn
      clear hn
      replace x_l := x.lt
      replace x_0 := x.at 0 _ rfl
      replace x_1 := x.at 1 _ rfl
      go_wp2
      go_ret2
      exact ⟨rfl, hk⟩
    · rw [show lenT 2 v = ⟨(Lib.itoa v).toArray⟩ ++ ⟨#[37]⟩ from rfl]
      have hsz : (⟨(Lib.itoa v).toArray⟩ : ByteArray).size ≤ 21 := by
        have := Lib.itoa_length_le v (by omega) (by omega)
        show (Lib.itoa v).toArray.size ≤ 21
        simpa using this
      clear hb
      have HI := Lib.hid (fun wx (hx : Pow wx) => itoa_any v (by omega) (by omega) wx hx)
      generalize (⟨(Lib.itoa v).toArray⟩ : ByteArray) = T at *
      have hk : Kept w w := Kept.refl w
      go_enter Tryd.func11, Tryd.ntmps11
      go_wp2_with fail
      refine with_boxes1 ?_
      intro X hX x
      have hsz := hk.size
      replace hk := hk.trans hX
      clear hX
      replace x_l := x.lt
      replace x_0 := x.at 0 _ rfl
      replace x_1 := x.at 1 _ rfl
      refine (lenMay_is _ _ _ _ HB.out).mono ?_
      rintro e w1 ⟨rfl, hn⟩
      replace hk := hk.trans hn
      replace x := x.kept hn
      clear hn
      replace x_l := x.lt
      replace x_0 := x.at 0 _ rfl
      replace x_1 := x.at 1 _ rfl
      go_wp2_with fail
      refine (HI.out _ (hp.kept hk)).mono ?_
      rintro e w1 ⟨rfl, hn⟩
      replace hk := hk.trans hn
      replace x := x.kept hn
      clear hn
      replace x_l := x.lt
      replace x_0 := x.at 0 _ rfl
      replace x_1 := x.at 1 _ rfl
      go_wp2
      go_ret2
      exact ⟨rfl, hk⟩
end Go.Proofs.YtlhhejgmgagbnaaDoor
end
