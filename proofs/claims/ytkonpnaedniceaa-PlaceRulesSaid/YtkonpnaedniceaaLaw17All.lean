/- Layer 17: what every program answers that is one; every Place; they stay. -/
import Derived.Test.YtkonpnaedniceaaRefPlace
import Derived.Test.YtkonpnaedniceaaRowExclusions
import Derived.Test.YtkonpnaedniceaaCells
namespace Go.Proofs.Ytkonpnaedniceaa
open Go.RowKit Go.Deep
set_option linter.unusedSimpArgs false
set_option linter.unusedVariables false
/-- rows of numbers written out -/
def zR (l : List (List Int)) (i j : Nat) : Int := (l.getD i []).getD j 0
theorem placePlace_is (v : Value) (n : Nat) (Z : Nat → Nat → Int) (room y side clear si sb : Int) (x : Exc) (E : Int) (w : World) (hv : RV 5 w v n (intC Z)) (hn : n ≤ 4611686018427387904) (hx : placeR (excOf Z) room n y side clear si sb = (x, E)) :
    Calls Try.prog 12 #[v, .int .i64 room, .int .i64 y, .int .i64 side, .int .i64 clear, .agg #[.int .i64 si, .int .i64 sb]] w fun e w' => e = .returned (.tuple #[x.V, .int .i64 E]) ∧ Kept w w' := by
  have := placePlace_any v n Z room y side clear si sb w hv hn
  rw [hx] at this
  exact this
theorem rv_nil (k : Nat) (w : World) (C : Nat → Nat → Value) : RV k w (.slice none 0 0) 0 C := .inl ⟨rfl, none, 0, rfl⟩
def a17 : Nat → Nat → Int := zR [[70, 3, 30, 10, 2]]
theorem a17_a : placeR (excOf (zR [])) 100 0 3 2 0 30 10 = (⟨70, 3, 30, 10, 2⟩, 0) := by rfl
theorem a17_b : placeR (excOf a17) 100 1 3 1 0 80 5 = (⟨0, 13, 80, 5, 1⟩, 0) := by rfl
theorem a17_c : placeR (excOf (zR [])) 100 0 3 0 0 0 0 = (zeroE, 1700) := by rfl
set_option maxRecDepth 20000 in
set_option maxHeartbeats 4000000 in
theorem awake17_any (w : World) :
    Calls Try.prog 11 #[] w fun e w' => e = .returned (.bool true) ∧ Kept w w' := by
  have hk : Kept w w := Kept.refl w
  go_enter Try.func11, Try.ntmps11
  go_wp2_with fail
  refine (placePlace_is _ 0 (zR []) _ _ _ _ _ _ _ _ _ (rv_nil _ _ _) (by decide) a17_a).mono ?_
  rintro e w1 ⟨rfl, hn⟩
  replace hk := hk.trans hn
  clear hn
  go_wp2_with fail
  refine with_boxes2 ?_
  intro X hX a q
  have hsz := hk.size
  replace hk := hk.trans hX
  clear hX
  replace a_l := a.lt
  replace a_0 := a.at 0 _ rfl
  replace a_1 := a.at 1 _ rfl
  replace a_2 := a.at 2 _ rfl
  replace a_3 := a.at 3 _ rfl
  replace a_4 := a.at 4 _ rfl
  refine (placePlace_is _ 1 a17 _ _ _ _ _ _ _ _ _ (rv_lit q 5 1 (by decide) (intC a17) rfl) (by decide) a17_b).mono ?_
  rintro e w1 ⟨rfl, hn⟩
  replace hk := hk.trans hn
  replace a := a.kept hn
  replace q := q.kept hn
  clear hn
  replace a_l := a.lt
  replace a_0 := a.at 0 _ rfl
  replace a_1 := a.at 1 _ rfl
  replace a_2 := a.at 2 _ rfl
  replace a_3 := a.at 3 _ rfl
  replace a_4 := a.at 4 _ rfl
  go_wp2_with fail
  refine with_boxes1 ?_
  intro X hX b
  have hsz := hk.size
  replace hk := hk.trans hX
  replace a := a.kept hX
  replace q := q.kept hX
  clear hX
  replace a_l := a.lt
  replace a_0 := a.at 0 _ rfl
  replace a_1 := a.at 1 _ rfl
  replace a_2 := a.at 2 _ rfl
  replace a_3 := a.at 3 _ rfl
  replace a_4 := a.at 4 _ rfl
  replace b_l := b.lt
  replace b_0 := b.at 0 _ rfl
  replace b_1 := b.at 1 _ rfl
  replace b_2 := b.at 2 _ rfl
  replace b_3 := b.at 3 _ rfl
  replace b_4 := b.at 4 _ rfl
  refine (placePlace_is _ 0 (zR []) _ _ _ _ _ _ _ _ _ (rv_nil _ _ _) (by decide) a17_c).mono ?_
  rintro e w1 ⟨rfl, hn⟩
  replace hk := hk.trans hn
  replace a := a.kept hn
  replace q := q.kept hn
  replace b := b.kept hn
  clear hn
  replace a_l := a.lt
  replace a_0 := a.at 0 _ rfl
  replace a_1 := a.at 1 _ rfl
  replace a_2 := a.at 2 _ rfl
  replace a_3 := a.at 3 _ rfl
  replace a_4 := a.at 4 _ rfl
  replace b_l := b.lt
  replace b_0 := b.at 0 _ rfl
  replace b_1 := b.at 1 _ rfl
  replace b_2 := b.at 2 _ rfl
  replace b_3 := b.at 3 _ rfl
  replace b_4 := b.at 4 _ rfl
  go_wp2_with fail
  refine with_boxes1 ?_
  intro X hX c
  have hsz := hk.size
  replace hk := hk.trans hX
  replace a := a.kept hX
  replace q := q.kept hX
  replace b := b.kept hX
  clear hX
  replace a_l := a.lt
  replace a_0 := a.at 0 _ rfl
  replace a_1 := a.at 1 _ rfl
  replace a_2 := a.at 2 _ rfl
  replace a_3 := a.at 3 _ rfl
  replace a_4 := a.at 4 _ rfl
  replace b_l := b.lt
  replace b_0 := b.at 0 _ rfl
  replace b_1 := b.at 1 _ rfl
  replace b_2 := b.at 2 _ rfl
  replace b_3 := b.at 3 _ rfl
  replace b_4 := b.at 4 _ rfl
  replace c_l := c.lt
  replace c_0 := c.at 0 _ rfl
  replace c_1 := c.at 1 _ rfl
  replace c_2 := c.at 2 _ rfl
  replace c_3 := c.at 3 _ rfl
  replace c_4 := c.at 4 _ rfl
  refine (num_any _ _).mono ?_
  rintro e w1 ⟨rfl, rfl⟩
  go_wp2_with fail
  refine (num_any _ _).mono ?_
  rintro e w1 ⟨rfl, rfl⟩
  go_wp2_with fail
  refine (num_any _ _).mono ?_
  rintro e w1 ⟨rfl, rfl⟩
  go_wp2
  go_ret
  exact ⟨rfl, hk⟩
end Go.Proofs.Ytkonpnaedniceaa
