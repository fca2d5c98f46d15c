/- Layer 7: what every program answers. -/
import Derived.Test.YtkapmnbkmljpkaeSpreadRef
import Derived.Test.YtkapmnbkmljpkaeNum
namespace Go.Proofs.Ytkapmnbkmljpkae
open Go.RowKit
set_option linter.unusedSimpArgs false
set_option linter.unusedVariables false
theorem newInts_box {a X : World} {b cap n : Nat} {t : TypeId} {cs : Array Value} {zs : List Int} (h : Own X b t cs) (e : cs = (zs.map (Value.int .i64)).toArray) (hn : zs.length = n) (hb : a.heap.size ≤ b) :
    NewInts a X (.slice (some ⟨b, 0, none⟩) n cap) zs := by
  subst hn
  refine .inr ⟨b, cap, rfl, hb, h.lt, fun j hj => ?_⟩
  rw [Nat.zero_add]
  exact h.at j _ (by subst e; simp [List.getD_eq_getElem?_getD, hj])
set_option maxHeartbeats 1000000 in
theorem awake7_any (w : World) :
    Calls Try.prog 14 #[] w fun e w' => e = .returned (.bool true) ∧ Kept w w' := by
  have e1 : offS 2 10 3 = (3, 0) := by decide
  have e2 : sprE 3 10 2 3 = 0 := by decide
  have e3 : offS 4 1 1 = (0, 700) := by decide
  have e4 : sprE 0 1 (-1) 1 = 700 := by decide
  have x1 : sprXs 3 10 2 3 false = [3, 3, 2] := by decide
  have x2 : sprXs 3 10 2 3 true = [0, 0, 0] := by decide
  have X1 := Lib.hid x1
  have X2 := Lib.hid x2
  clear x1 x2
  have hk : Kept w w := Kept.refl w
  go_enter Try.func14, Try.ntmps14
  go_wp2_with fail
  refine (alignOffset_any _ _ _ _).mono ?_
  rintro e w1 ⟨rfl, hn⟩
  replace hk := hk.trans hn
  clear hn
  go_wp2_with fail
  refine (spread_any _ _ _ _ _ _).mono ?_
  rintro e w1 ⟨v, rfl, hv, hn⟩
  replace hk := hk.trans hn
  clear hn
  go_wp2_with fail
  refine (spread_any _ _ _ _ _ _).mono ?_
  rintro e w1 ⟨u, rfl, hu, hn⟩
  replace hk := hk.trans hn
  replace hv := hv.kept hn
  clear hn
  go_wp2_with fail
  refine (alignOffset_any _ _ _ _).mono ?_
  rintro e w1 ⟨rfl, hn⟩
  replace hk := hk.trans hn
  replace hv := hv.kept hn
  replace hu := hu.kept hn
  clear hn
  go_wp2_with fail
  refine (spread_any _ _ _ _ _ _).mono ?_
  rintro e w1 ⟨t, rfl, ht, hn⟩
  replace hk := hk.trans hn
  replace hv := hv.kept hn
  replace hu := hu.kept hn
  clear hn
  go_wp2_with fail
  refine (num_any _ _).mono ?_
  rintro e w1 ⟨rfl, rfl⟩
  rw [X1.out] at hv
  rw [X2.out] at hu
  go_wp2_with fail
  refine with_boxes1 ?_
  intro X hX p
  have hsz := hk.size
  replace hk := hk.trans hX
  replace hv := hv.kept hX
  replace hu := hu.kept hX
  clear hX
  replace p_l := p.lt
  replace p_0 := p.at 0 _ rfl
  replace p_1 := p.at 1 _ rfl
  replace p_2 := p.at 2 _ rfl
  refine (sameInts_yes hv (newInts_box (a := w) p rfl rfl (by omega)) (by decide)).mono ?_
  rintro e w1 ⟨rfl, hn⟩
  replace hk := hk.trans hn
  replace hv := hv.kept hn
  replace hu := hu.kept hn
  replace p := p.kept hn
  clear hn
  replace p_l := p.lt
  replace p_0 := p.at 0 _ rfl
  replace p_1 := p.at 1 _ rfl
  replace p_2 := p.at 2 _ rfl
  go_wp2_with fail
  refine (num_any _ _).mono ?_
  rintro e w1 ⟨rfl, rfl⟩
  go_wp2_with fail
  refine with_boxes1 ?_
  intro X hX q
  have hsz := hk.size
  replace hk := hk.trans hX
  replace hv := hv.kept hX
  replace hu := hu.kept hX
  replace p := p.kept hX
  clear hX
  replace p_l := p.lt
  replace p_0 := p.at 0 _ rfl
  replace p_1 := p.at 1 _ rfl
  replace p_2 := p.at 2 _ rfl
  replace q_l := q.lt
  replace q_0 := q.at 0 _ rfl
  replace q_1 := q.at 1 _ rfl
  replace q_2 := q.at 2 _ rfl
  refine (sameInts_yes hu (newInts_box (a := w) q rfl rfl (by omega)) (by decide)).mono ?_
  rintro e w1 ⟨rfl, hn⟩
  replace hk := hk.trans hn
  replace hv := hv.kept hn
  replace hu := hu.kept hn
  replace p := p.kept hn
  replace q := q.kept hn
  clear hn
  replace p_l := p.lt
  replace p_0 := p.at 0 _ rfl
  replace p_1 := p.at 1 _ rfl
  replace p_2 := p.at 2 _ rfl
  replace q_l := q.lt
  replace q_0 := q.at 0 _ rfl
  replace q_1 := q.at 1 _ rfl
  replace q_2 := q.at 2 _ rfl
  go_wp2_with fail
  refine (num_any _ _).mono ?_
  rintro e w1 ⟨rfl, rfl⟩
  go_wp2_with fail
  refine (num_any _ _).mono ?_
  rintro e w1 ⟨rfl, rfl⟩
  go_wp2_with fail
  refine (num_any _ _).mono ?_
  rintro e w1 ⟨rfl, rfl⟩
  go_wp2
  go_ret
  exact ⟨rfl, (by first | ((repeat (first | with_reducible exact hk | with_reducible refine Kept.alloc ?_ _ | with_reducible refine Kept.drew ?_ | with_reducible refine Kept.drewN ?_ _ | with_reducible refine Kept.set ?_ (by first | (simp; done) | (simp; omega) | omega) _)); done) | exact hk | exact (hk.alloc _) | exact ((hk.alloc _).alloc _) | exact (((hk.alloc _).alloc _).alloc _) | exact ((((hk.alloc _).alloc _).alloc _).alloc _) | exact (((((hk.alloc _).alloc _).alloc _).alloc _).alloc _) | exact ((((((hk.alloc _).alloc _).alloc _).alloc _).alloc _).alloc _) | (repeat (first | exact hk | refine Kept.alloc ?_ _ | refine Kept.drew ?_ | refine Kept.drewN ?_ _ | refine Kept.set ?_ (by first | (simp; done) | (simp; omega) | omega) _)))⟩
end Go.Proofs.Ytkapmnbkmljpkae
