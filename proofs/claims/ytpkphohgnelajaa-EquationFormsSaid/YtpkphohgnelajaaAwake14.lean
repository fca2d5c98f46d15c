/- Layer 14: Awake14. -/
import Derived.Test.YtpkphohgnelajaaEdges
import Derived.Test.YtpkphohgnelajaaNewS
import Derived.Test.YtpkphohgnelajaaNum
import Derived.Test.YtpkphohgnelajaaRefBlock
namespace Go.Proofs.Ytpkphohgnelajaa
open Go.RowKit
set_option linter.unusedSimpArgs false
set_option linter.unusedVariables false
set_option maxHeartbeats 8000000
set_option maxRecDepth 20000
theorem newInts_cells {a X : World} {b cap n : Nat} {t : TypeId} {cs : Array Value} {zs : List Int} (h : Own X b t cs) (e : cs = (zs.map (Value.int .i64)).toArray) (hn : zs.length = n) (hb : a.heap.size ≤ b) :
    NewInts a X (.slice (some ⟨b, 0, none⟩) n cap) zs := by
  subst hn
  refine .inr ⟨b, cap, rfl, hb, h.lt, fun j hj => ?_⟩
  rw [Nat.zero_add]
  exact h.at j _ (by subst e; simp [List.getD_eq_getElem?_getD, hj])
def awE : Sty := ⟨⟨1, 30⟩, ⟨0, 0⟩, ⟨1, 0⟩, ⟨0, 0⟩, ⟨0, 0⟩, ⟨0, 0⟩, ⟨1, 0⟩, ⟨1, 0⟩, ⟨1, 0⟩, ⟨1, 5⟩, ⟨1, 0⟩, ⟨1, 0⟩, ⟨0, 0⟩, 0, 1, 0, 0, 0, false⟩
def zeroE : Sty := ⟨⟨0, 0⟩, ⟨0, 0⟩, ⟨0, 0⟩, ⟨0, 0⟩, ⟨0, 0⟩, ⟨0, 0⟩, ⟨0, 0⟩, ⟨0, 0⟩, ⟨0, 0⟩, ⟨0, 0⟩, ⟨0, 0⟩, ⟨0, 0⟩, ⟨0, 0⟩, 0, 0, 0, 0, 0, false⟩
theorem awake14_any (w : World) :
    Calls Try.prog 26 #[] w fun e w' => e = .returned (.bool true) ∧ Kept w w' := by
  have hk : Kept w w := Kept.refl w
  go_enter Try.func26, Try.ntmps26
  go_wp2_with fail
  refine (newStyle_lit _).mono ?_
  rintro e w1 ⟨rfl, hn⟩
  replace hk := hk.trans hn
  clear hn
  go_wp2_with (first | (refine here_store 26 _ _ rfl ?_; refine wpList_store_own rfl 26 _ _ rfl _ _ rfl rfl (Own.new _ _ _) (by rfl) (by kernel_rfl) (by rfl) ?_; intro X s hoX hkX; have hsz := hk.size; replace hk := hkX _ (hk.alloc _) (by first | omega | (simp; omega)); clear hoX hkX; have cs0 := s.at 0 _ rfl; have fs0 := s.free 0; have cs1 := s.at 1 _ rfl; have fs1 := s.free 1; have cs8 := s.at 8 _ rfl; have fs8 := s.free 8; have cs9 := s.at 9 _ rfl; have fs9 := s.free 9; have cs10 := s.at 10 _ rfl; have fs10 := s.free 10; have cs11 := s.at 11 _ rfl; have fs11 := s.free 11; have cs19 := s.at 19 _ rfl; have fs19 := s.free 19) | (refine here_load 26 _ rfl ?_; refine wpList_load_own rfl 26 _ rfl _ rfl (((((((s.set 0 _).set 1 _).set 8 _).set 9 _).set 10 _).set 11 _).set 19 _) _ Try.underlying26 rfl (by kernel_rfl) ?_))
  go_wp2_with fail
  refine with_eq ?_
  intro X eX
  have hsz := hk.size
  replace hk := (eX ▸ (by first | ((repeat (first | with_reducible exact hk | with_reducible refine Kept.alloc ?_ _ | with_reducible refine Kept.drew ?_ | with_reducible refine Kept.drewN ?_ _ | with_reducible refine Kept.set ?_ (by first | (simp; done) | (simp; omega) | omega) _)); done) | exact hk | exact (hk.alloc _) | exact ((hk.alloc _).alloc _) | exact (((hk.alloc _).alloc _).alloc _) | exact ((((hk.alloc _).alloc _).alloc _).alloc _) | exact (((((hk.alloc _).alloc _).alloc _).alloc _).alloc _) | exact ((((((hk.alloc _).alloc _).alloc _).alloc _).alloc _).alloc _) | (repeat (first | exact hk | refine Kept.alloc ?_ _ | refine Kept.drew ?_ | refine Kept.drewN ?_ _ | refine Kept.set ?_ (by first | (simp; done) | (simp; omega) | omega) _))) : Kept w X)
  replace s : Own X _ _ #[.int .i64 1, .int .i64 30, .int .i64 0, .int .i64 0, .int .i64 1, .int .i64 0, .int .i64 0, .int .i64 0, .int .i64 0, .int .i64 0, .int .i64 0, .int .i64 0, .int .i64 1, .int .i64 0, .int .i64 1, .int .i64 0, .int .i64 1, .int .i64 0, .int .i64 1, .int .i64 5, .int .i64 1, .int .i64 0, .int .i64 1, .int .i64 0, .int .i64 0, .int .i64 0, .int .i64 0, .int .i64 1, .int .i64 0, .int .i64 0, .int .i64 0, .bool false] := eX ▸ (((((((((s.set 0 _).set 1 _).set 8 _).set 9 _).set 10 _).set 11 _).set 19 _)).is (by rfl))
  clear eX
  clear cs0 fs0 cs1 fs1 cs8 fs8 cs9 fs9 cs10 fs10 cs11 fs11 cs19 fs19
  have h1 : eqS awE 100 = ((32, 30, 33), 0) := by decide +kernel
  have h2 : edgeE awE = 0 := by decide +kernel
  have h3 : edgeE zeroE = 1400 := by decide +kernel
  have h4 : eqS awE (-1) = ((0, 0, 0), 1400) := by decide +kernel
  have h5 := Lib.hid (show edgeXs awE = [0, 5, 0, 0] by decide +kernel)
  go_wp2_with fail
  refine (eqBlock_any awE 100 _).mono ?_
  rintro e w1 ⟨rfl, hn⟩
  replace hk := hk.trans hn
  replace s := s.kept hn
  clear hn
  go_wp2_with (refine here_load 26 _ rfl ?_; refine wpList_load_own rfl 26 _ rfl _ rfl (Own.alloc s _) _ Try.underlying26 rfl (by kernel_rfl) ?_)
  go_wp2_with fail
  refine with_boxes1 ?_
  intro X hX a
  have hsz := hk.size
  replace hk := hk.trans hX
  replace s := s.kept hX
  clear hX
  replace a_l := a.lt
  replace a_0 := a.at 0 _ rfl
  replace a_1 := a.at 1 _ rfl
  replace a_2 := a.at 2 _ rfl
  refine (eqEdges_any awE _).mono ?_
  rintro e w1 ⟨v, rfl, hv, hn⟩
  replace hk := hk.trans hn
  replace s := s.kept hn
  replace a := a.kept hn
  clear hn
  replace a_l := a.lt
  replace a_0 := a.at 0 _ rfl
  replace a_1 := a.at 1 _ rfl
  replace a_2 := a.at 2 _ rfl
  go_wp2_with (refine here_load 26 _ rfl ?_; refine wpList_load_own rfl 26 _ rfl _ rfl s _ Try.underlying26 rfl (by kernel_rfl) ?_)
  go_wp2_with fail
  refine (eqBlock_any awE (-1) _).mono ?_
  rintro e w1 ⟨rfl, hn⟩
  replace hk := hk.trans hn
  replace s := s.kept hn
  replace a := a.kept hn
  replace hv := hv.kept hn
  clear hn
  replace a_l := a.lt
  replace a_0 := a.at 0 _ rfl
  replace a_1 := a.at 1 _ rfl
  replace a_2 := a.at 2 _ rfl
  clear s
  go_wp2_with fail
  refine with_boxes1 ?_
  intro X hX c
  have hsz := hk.size
  replace hk := hk.trans hX
  replace a := a.kept hX
  replace hv := hv.kept hX
  clear hX
  replace a_l := a.lt
  replace a_0 := a.at 0 _ rfl
  replace a_1 := a.at 1 _ rfl
  replace a_2 := a.at 2 _ rfl
  replace c_l := c.lt
  replace c_0 := c.at 0 _ rfl
  replace c_1 := c.at 1 _ rfl
  replace c_2 := c.at 2 _ rfl
  refine (eqEdges_any zeroE _).mono ?_
  rintro e w1 ⟨v2, rfl, hv2, hn⟩
  replace hk := hk.trans hn
  replace a := a.kept hn
  replace hv := hv.kept hn
  replace c := c.kept hn
  clear hn
  replace a_l := a.lt
  replace a_0 := a.at 0 _ rfl
  replace a_1 := a.at 1 _ rfl
  replace a_2 := a.at 2 _ rfl
  replace c_l := c.lt
  replace c_0 := c.at 0 _ rfl
  replace c_1 := c.at 1 _ rfl
  replace c_2 := c.at 2 _ rfl
  go_wp2_with fail
  refine (num_any _ _).mono ?_
  rintro e w1 ⟨rfl, rfl⟩
  rw [h5.out] at hv
  go_wp2_with fail
  refine with_boxes1 ?_
  intro X hX q
  have hsz := hk.size
  replace hk := hk.trans hX
  replace a := a.kept hX
  replace hv := hv.kept hX
  replace c := c.kept hX
  replace hv2 := hv2.kept hX
  clear hX
  replace a_l := a.lt
  replace a_0 := a.at 0 _ rfl
  replace a_1 := a.at 1 _ rfl
  replace a_2 := a.at 2 _ rfl
  replace c_l := c.lt
  replace c_0 := c.at 0 _ rfl
  replace c_1 := c.at 1 _ rfl
  replace c_2 := c.at 2 _ rfl
  replace q_l := q.lt
  replace q_0 := q.at 0 _ rfl
  replace q_1 := q.at 1 _ rfl
  replace q_2 := q.at 2 _ rfl
  replace q_3 := q.at 3 _ rfl
  refine (sameInts_yes hv (newInts_cells (a := w) q rfl rfl (by have := hk.size; omega)) (by decide)).mono ?_
  rintro e w1 ⟨rfl, hn⟩
  replace hk := hk.trans hn
  replace a := a.kept hn
  replace hv := hv.kept hn
  replace c := c.kept hn
  replace hv2 := hv2.kept hn
  replace q := q.kept hn
  clear hn
  replace a_l := a.lt
  replace a_0 := a.at 0 _ rfl
  replace a_1 := a.at 1 _ rfl
  replace a_2 := a.at 2 _ rfl
  replace c_l := c.lt
  replace c_0 := c.at 0 _ rfl
  replace c_1 := c.at 1 _ rfl
  replace c_2 := c.at 2 _ rfl
  replace q_l := q.lt
  replace q_0 := q.at 0 _ rfl
  replace q_1 := q.at 1 _ rfl
  replace q_2 := q.at 2 _ rfl
  replace q_3 := q.at 3 _ rfl
  go_wp2_with fail
  refine (num_any _ _).mono ?_
  rintro e w1 ⟨rfl, rfl⟩
  go_wp2_with fail
  refine (num_any _ _).mono ?_
  rintro e w1 ⟨rfl, rfl⟩
  go_wp2_with fail
  refine (num_any _ _).mono ?_
  rintro e w1 ⟨rfl, rfl⟩
  go_wp2
  go_ret
  exact ⟨rfl, hk⟩
end Go.Proofs.Ytpkphohgnelajaa
