/- Layer 19: items; how long one is where none grows or shrinks. -/
import Derived.Test.YticnfoppdgeioaaClampC
import Derived.Test.YticnfoppdgeioaaBoxes
import Derived.WalkLawsBesides
namespace Go.Proofs.Yticnfoppdgeioaa
open Go.RowKit
set_option linter.unusedSimpArgs false
set_option linter.unusedVariables false
/-- an item -/
structure Item where
  base : Int
  min : Int
  max : Int
  grow : Int
  shrink : Int
  extra : Int
abbrev Item.V (x : Item) : Value := .agg #[.int .i64 x.base, .int .i64 x.min, .int .i64 x.max, .int .i64 x.grow, .int .i64 x.shrink, .int .i64 x.extra]
def wishS (x : Item) : Int := clampS x.base x.min x.max
theorem refWish_any (x : Item) (w : World) :
    Calls Try.prog 25 #[x.V] w fun e w' => e = .returned (.int .i64 (wishS x)) ∧ Kept w w' := by
  have hk : Kept w w := Kept.refl w
  go_enter Try.func25, Try.ntmps25
  go_wp2_with fail
  refine with_boxes1 ?_
  intro X hX b
  have hsz := hk.size
  replace hk := hk.trans hX
  clear hX
  replace b_l := b.lt
  replace b_0 := b.at 0 _ rfl
  replace b_1 := b.at 1 _ rfl
  replace b_2 := b.at 2 _ rfl
  replace b_3 := b.at 3 _ rfl
  replace b_4 := b.at 4 _ rfl
  replace b_5 := b.at 5 _ rfl
  refine (refClamp_any _ _ _ _).mono ?_
  rintro e w1 ⟨rfl, rfl⟩
  go_wp2
  go_ret
  exact ⟨rfl, hk⟩
theorem rowWish_any (x : Item) (w : World) :
    Calls Try.prog 36 #[x.V] w fun e w' => e = .returned (.int .i64 (wishS x)) ∧ Kept w w' := by
  have hk : Kept w w := Kept.refl w
  go_enter Try.func36, Try.ntmps36
  go_wp2_with fail
  refine with_boxes1 ?_
  intro X hX b
  have hsz := hk.size
  replace hk := hk.trans hX
  clear hX
  replace b_l := b.lt
  replace b_0 := b.at 0 _ rfl
  replace b_1 := b.at 1 _ rfl
  replace b_2 := b.at 2 _ rfl
  replace b_3 := b.at 3 _ rfl
  replace b_4 := b.at 4 _ rfl
  replace b_5 := b.at 5 _ rfl
  refine (usedBetween_any _ _ _ _).mono ?_
  rintro e w1 ⟨rfl, rfl⟩
  go_wp2
  go_ret
  exact ⟨rfl, hk⟩
end Go.Proofs.Yticnfoppdgeioaa
