/- Layer 19: is an item one? -/
import Derived.Test.YticnfoppdgeioaaWish
namespace Go.Proofs.Yticnfoppdgeioaa
open Go.RowKit
set_option linter.unusedSimpArgs false
set_option linter.unusedVariables false
theorem true_first (b : Bool) : b = true ∨ b = false := by cases b <;> simp
theorem false_first (b : Bool) : b = false ∨ b = true := by cases b <;> simp
def itemB (x : Item) : Bool := (inB 0 4194304 x.base && inB 0 4194304 x.min) && inB 0 1073741824 x.max && (inB 0 100 x.grow && inB 0 100 x.shrink) && inB (-4194304) 4194304 x.extra
set_option maxHeartbeats 1000000 in
theorem oddItem_any (x : Item) (w : World) :
    Calls Try.prog 28 #[x.V] w fun e w' => e = .returned (.bool (!itemB x)) ∧ Kept w w' := by
  have hk : Kept w w := Kept.refl w
  go_enter Try.func28, Try.ntmps28
  go_wp2_with fail
  refine with_boxes2 ?_
  intro X hX b q
  have hsz := hk.size
  replace hk := hk.trans hX
  clear hX
  replace b_l := b.lt
  replace b_0 := b.at 0 _ rfl
  replace b_1 := b.at 1 _ rfl
  replace b_2 := b.at 2 _ rfl
  replace b_3 := b.at 3 _ rfl
  replace b_4 := b.at 4 _ rfl
  replace b_5 := b.at 5 _ rfl
  replace q_l := q.lt
  replace q_0 := q.at 0 _ rfl
  replace q_1 := q.at 1 _ rfl
  refine (each2_any _ _ _ _ _ _ q_0 q_1).mono ?_
  rintro e w1 ⟨rfl, rfl⟩
  clear q
  clear q_l q_0 q_1
  rcases false_first (inB 0 4194304 x.base && inB 0 4194304 x.min) with h | h
  · have Hs := Lib.hid (show itemB x = false by unfold itemB; simp only [h]; rfl)
    go_wp2
    go_ret
    exact ⟨ret_bool (by rw [Hs.out]; rfl), hk⟩
  go_wp2_with fail
  refine with_boxes1 ?_
  intro X hX q
  have hsz := hk.size
  replace hk := hk.trans hX
  replace b := b.kept hX
  clear hX
  replace b_l := b.lt
  replace b_0 := b.at 0 _ rfl
  replace b_1 := b.at 1 _ rfl
  replace b_2 := b.at 2 _ rfl
  replace b_3 := b.at 3 _ rfl
  replace b_4 := b.at 4 _ rfl
  replace b_5 := b.at 5 _ rfl
  replace q_l := q.lt
  replace q_0 := q.at 0 _ rfl
  refine (each1_any _ _ _ _ _ q_0).mono ?_
  rintro e w1 ⟨rfl, rfl⟩
  clear q
  clear q_l q_0
  rcases false_first (inB 0 1073741824 x.max) with h2 | h2
  · have Hs := Lib.hid (show itemB x = false by unfold itemB; simp only [h, h2]; rfl)
    go_wp2
    go_ret
    exact ⟨ret_bool (by rw [Hs.out]; rfl), hk⟩
  go_wp2_with fail
  refine with_boxes1 ?_
  intro X hX q
  have hsz := hk.size
  replace hk := hk.trans hX
  replace b := b.kept hX
  clear hX
  replace b_l := b.lt
  replace b_0 := b.at 0 _ rfl
  replace b_1 := b.at 1 _ rfl
  replace b_2 := b.at 2 _ rfl
  replace b_3 := b.at 3 _ rfl
  replace b_4 := b.at 4 _ rfl
  replace b_5 := b.at 5 _ rfl
  replace q_l := q.lt
  replace q_0 := q.at 0 _ rfl
  replace q_1 := q.at 1 _ rfl
  refine (each2_any _ _ _ _ _ _ q_0 q_1).mono ?_
  rintro e w1 ⟨rfl, rfl⟩
  clear q
  clear q_l q_0 q_1
  rcases false_first (inB 0 100 x.grow && inB 0 100 x.shrink) with h3 | h3
  · have Hs := Lib.hid (show itemB x = false by unfold itemB; simp only [h, h2, h3]; rfl)
    go_wp2
    go_ret
    exact ⟨ret_bool (by rw [Hs.out]; rfl), hk⟩
  go_wp2_with fail
  refine with_boxes1 ?_
  intro X hX q
  have hsz := hk.size
  replace hk := hk.trans hX
  replace b := b.kept hX
  clear hX
  replace b_l := b.lt
  replace b_0 := b.at 0 _ rfl
  replace b_1 := b.at 1 _ rfl
  replace b_2 := b.at 2 _ rfl
  replace b_3 := b.at 3 _ rfl
  replace b_4 := b.at 4 _ rfl
  replace b_5 := b.at 5 _ rfl
  replace q_l := q.lt
  replace q_0 := q.at 0 _ rfl
  refine (each1_any _ _ _ _ _ q_0).mono ?_
  rintro e w1 ⟨rfl, rfl⟩
  clear q
  clear q_l q_0
  rcases false_first (inB (-4194304) 4194304 x.extra) with h4 | h4
  · have Hs := Lib.hid (show itemB x = false by unfold itemB; simp only [h, h2, h3, h4]; rfl)
    go_wp2
    go_ret
    exact ⟨ret_bool (by rw [Hs.out]; rfl), hk⟩
  have Hs := Lib.hid (show itemB x = true by unfold itemB; simp only [h, h2, h3, h4]; rfl)
  go_wp2
  go_ret
  exact ⟨ret_bool (by rw [Hs.out]; rfl), hk⟩
end Go.Proofs.Yticnfoppdgeioaa
