/- Layer 3: a rectangle that is moved is moved by as much: all modes. -/
import Derived.Test.YtjehmhgafibgbaaDoorMoves0
import Derived.Test.YtjehmhgafibgbaaDoorMoves1
import Derived.Test.YtjehmhgafibgbaaDoorMoves2
import Derived.Test.YtjehmhgafibgbaaDoorMoves3
import Derived.Test.YtjehmhgafibgbaaDoorMoves4
import Derived.Test.YtjehmhgafibgbaaDoorMoves5
import Derived.Test.YtjehmhgafibgbaaDoorMovesZ
import Derived.Test.YtjehmhgafibgbaaDoorLaw3Table
namespace Go.Proofs.YtjehmhgafibgbaaDoor
open Go.RowKit
set_option linter.unusedSimpArgs false
set_option linter.unusedVariables false
theorem phys_moves0 (a b : Int) (a1 : 0 ≤ a) (a2 : a ≤ 510) (b1 : 0 ≤ b) (b2 : b ≤ 510) : physS 0 0 500 300 a b 20 10 = ((a, b, 20, 10), 0) := by
  rw [physS_ok (by decide) (by omega) (by omega) (by omega) (by omega) (by omega) (by omega), show farB 0 0 0 = false by decide, show farB 0 0 2 = false by decide, show vertB 0 0 = false by decide]
  simp only [turn_near, turn_far (i := 500) (a := a) (s := 20) (by omega) (by omega) (by omega), turn_far (i := 300) (a := b) (s := 10) (by omega) (by omega) (by omega)]
  simp
theorem phys_moves1 (a b : Int) (a1 : 0 ≤ a) (a2 : a ≤ 510) (b1 : 0 ≤ b) (b2 : b ≤ 510) : physS 0 1 500 300 a b 20 10 = ((480 - a, b, 20, 10), 0) := by
  rw [physS_ok (by decide) (by omega) (by omega) (by omega) (by omega) (by omega) (by omega), show farB 0 1 0 = true by decide, show farB 0 1 2 = false by decide, show vertB 0 1 = false by decide]
  simp only [turn_near, turn_far (i := 500) (a := a) (s := 20) (by omega) (by omega) (by omega), turn_far (i := 300) (a := b) (s := 10) (by omega) (by omega) (by omega)]
  simp
  try omega
theorem phys_moves2 (a b : Int) (a1 : 0 ≤ a) (a2 : a ≤ 510) (b1 : 0 ≤ b) (b2 : b ≤ 510) : physS 1 0 500 300 a b 20 10 = ((290 - b, a, 10, 20), 0) := by
  rw [physS_ok (by decide) (by omega) (by omega) (by omega) (by omega) (by omega) (by omega), show farB 1 0 0 = false by decide, show farB 1 0 2 = true by decide, show vertB 1 0 = true by decide]
  simp only [turn_near, turn_far (i := 500) (a := a) (s := 20) (by omega) (by omega) (by omega), turn_far (i := 300) (a := b) (s := 10) (by omega) (by omega) (by omega)]
  simp
  try omega
theorem phys_moves3 (a b : Int) (a1 : 0 ≤ a) (a2 : a ≤ 510) (b1 : 0 ≤ b) (b2 : b ≤ 510) : physS 1 1 500 300 a b 20 10 = ((290 - b, 480 - a, 10, 20), 0) := by
  rw [physS_ok (by decide) (by omega) (by omega) (by omega) (by omega) (by omega) (by omega), show farB 1 1 0 = true by decide, show farB 1 1 2 = true by decide, show vertB 1 1 = true by decide]
  simp only [turn_near, turn_far (i := 500) (a := a) (s := 20) (by omega) (by omega) (by omega), turn_far (i := 300) (a := b) (s := 10) (by omega) (by omega) (by omega)]
  simp
  try omega
theorem phys_moves4 (a b : Int) (a1 : 0 ≤ a) (a2 : a ≤ 510) (b1 : 0 ≤ b) (b2 : b ≤ 510) : physS 2 0 500 300 a b 20 10 = ((b, a, 10, 20), 0) := by
  rw [physS_ok (by decide) (by omega) (by omega) (by omega) (by omega) (by omega) (by omega), show farB 2 0 0 = false by decide, show farB 2 0 2 = false by decide, show vertB 2 0 = true by decide]
  simp only [turn_near, turn_far (i := 500) (a := a) (s := 20) (by omega) (by omega) (by omega), turn_far (i := 300) (a := b) (s := 10) (by omega) (by omega) (by omega)]
  simp
  try omega
theorem phys_moves5 (a b : Int) (a1 : 0 ≤ a) (a2 : a ≤ 510) (b1 : 0 ≤ b) (b2 : b ≤ 510) : physS 2 1 500 300 a b 20 10 = ((b, 480 - a, 10, 20), 0) := by
  rw [physS_ok (by decide) (by omega) (by omega) (by omega) (by omega) (by omega) (by omega), show farB 2 1 0 = true by decide, show farB 2 1 2 = false by decide, show vertB 2 1 = true by decide]
  simp only [turn_near, turn_far (i := 500) (a := a) (s := 20) (by omega) (by omega) (by omega), turn_far (i := 300) (a := b) (s := 10) (by omega) (by omega) (by omega)]
  simp
  try omega
set_option maxHeartbeats 1000000 in
theorem geomMoves_no (wm di x y by_ : Int) (w : World) (ht : Tab w) (h1 : modeMayB wm di = false) :
    Calls Tryd.prog 7 #[modeV wm di, .int .i64 x, .int .i64 y, .int .i64 by_] w fun e w' => e = .returned (.bool true) ∧ Kept w w' := by
  have e0 : ∀ a b, physS wm di 500 300 a b 20 10 = ((0, 0, 0, 0), 300) := fun a b => if_neg (by simp [physOkB, h1])
  have hk : Kept w w := Kept.refl w
  go_enter Tryd.func7, Tryd.ntmps7
  go_wp2_with fail
  refine with_boxes1 ?_
  intro X hX m
  have hsz := hk.size
  replace hk := hk.trans hX
  clear hX
  replace m_l := m.lt
  replace m_0 := m.at 0 _ rfl
  replace m_1 := m.at 1 _ rfl
  refine (awake3_any _ (ht.kept hk)).mono ?_
  rintro e w1 ⟨rfl, hn⟩
  replace hk := hk.trans hn
  replace m := m.kept hn
  clear hn
  replace m_l := m.lt
  replace m_0 := m.at 0 _ rfl
  replace m_1 := m.at 1 _ rfl
  go_wp2_with fail
  refine with_boxes2 ?_
  intro X hX i r
  have hsz := hk.size
  replace hk := hk.trans hX
  replace m := m.kept hX
  clear hX
  replace m_l := m.lt
  replace m_0 := m.at 0 _ rfl
  replace m_1 := m.at 1 _ rfl
  replace i_l := i.lt
  replace i_0 := i.at 0 _ rfl
  replace i_1 := i.at 1 _ rfl
  replace r_l := r.lt
  replace r_0 := r.at 0 _ rfl
  replace r_1 := r.at 1 _ rfl
  replace r_2 := r.at 2 _ rfl
  replace r_3 := r.at 3 _ rfl
  refine (phys_any _ _ _ _ _ _ _ _ _ (ht.kept hk)).mono ?_
  rintro e w1 ⟨rfl, hn⟩
  replace hk := hk.trans hn
  replace m := m.kept hn
  replace i := i.kept hn
  replace r := r.kept hn
  clear hn
  replace m_l := m.lt
  replace m_0 := m.at 0 _ rfl
  replace m_1 := m.at 1 _ rfl
  replace i_l := i.lt
  replace i_0 := i.at 0 _ rfl
  replace i_1 := i.at 1 _ rfl
  replace r_l := r.lt
  replace r_0 := r.at 0 _ rfl
  replace r_1 := r.at 1 _ rfl
  replace r_2 := r.at 2 _ rfl
  replace r_3 := r.at 3 _ rfl
  go_wp2_with fail
  refine with_boxes1 ?_
  intro X hX p
  have hsz := hk.size
  replace hk := hk.trans hX
  replace m := m.kept hX
  replace i := i.kept hX
  replace r := r.kept hX
  clear hX
  replace m_l := m.lt
  replace m_0 := m.at 0 _ rfl
  replace m_1 := m.at 1 _ rfl
  replace i_l := i.lt
  replace i_0 := i.at 0 _ rfl
  replace i_1 := i.at 1 _ rfl
  replace r_l := r.lt
  replace r_0 := r.at 0 _ rfl
  replace r_1 := r.at 1 _ rfl
  replace r_2 := r.at 2 _ rfl
  replace r_3 := r.at 3 _ rfl
  replace p_l := p.lt
  replace p_0 := p.at 0 _ rfl
  replace p_1 := p.at 1 _ rfl
  replace p_2 := p.at 2 _ rfl
  replace p_3 := p.at 3 _ rfl
  refine (num_any _ _).mono ?_
  rintro e w1 ⟨rfl, rfl⟩
  go_wp2_with fail
  refine (refModeMay_any _ _ _).mono ?_
  rintro e w1 ⟨rfl, hn⟩
  replace hk := hk.trans hn
  replace m := m.kept hn
  replace i := i.kept hn
  replace r := r.kept hn
  replace p := p.kept hn
  clear hn
  replace m_l := m.lt
  replace m_0 := m.at 0 _ rfl
  replace m_1 := m.at 1 _ rfl
  replace i_l := i.lt
  replace i_0 := i.at 0 _ rfl
  replace i_1 := i.at 1 _ rfl
  replace r_l := r.lt
  replace r_0 := r.at 0 _ rfl
  replace r_1 := r.at 1 _ rfl
  replace r_2 := r.at 2 _ rfl
  replace r_3 := r.at 3 _ rfl
  replace p_l := p.lt
  replace p_0 := p.at 0 _ rfl
  replace p_1 := p.at 1 _ rfl
  replace p_2 := p.at 2 _ rfl
  replace p_3 := p.at 3 _ rfl
  go_wp2
  go_ret
  exact ⟨rfl, (by first | ((repeat (first | with_reducible exact hk | with_reducible refine Kept.alloc ?_ _ | with_reducible refine Kept.drew ?_ | with_reducible refine Kept.drewN ?_ _ | with_reducible refine Kept.set ?_ (by first | (simp; done) | (simp; omega) | omega) _)); done) | exact hk | exact (hk.alloc _) | exact ((hk.alloc _).alloc _) | exact (((hk.alloc _).alloc _).alloc _) | exact ((((hk.alloc _).alloc _).alloc _).alloc _) | exact (((((hk.alloc _).alloc _).alloc _).alloc _).alloc _) | exact ((((((hk.alloc _).alloc _).alloc _).alloc _).alloc _).alloc _) | (repeat (first | exact hk | refine Kept.alloc ?_ _ | refine Kept.drew ?_ | refine Kept.drewN ?_ _ | refine Kept.set ?_ (by first | (simp; done) | (simp; omega) | omega) _)))⟩
theorem geomMoves_walk (wm di x y by_ : Int) (w : World) (ht : Tab w) :
    Calls Tryd.prog 7 #[modeV wm di, .int .i64 x, .int .i64 y, .int .i64 by_] w fun e w' => e = .returned (.bool true) ∧ Kept w w' := by
  obtain ⟨a, hx, a1, a2⟩ := masked x 8 255 (by decide) (by decide)
  obtain ⟨b, hy, b1, b2⟩ := masked y 8 255 (by decide) (by decide)
  obtain ⟨d, hd, d1, d2⟩ := masked by_ 8 255 (by decide) (by decide)
  cases h1 : modeMayB wm di with
  | false => exact geomMoves_no wm di x y by_ w ht h1
  | true =>
    obtain ⟨⟨m1, m2⟩, m3, m4⟩ := modeMayB_true.1 h1
    rcases (by omega : d = 0 ∨ 0 < d) with rfl | hp
    · rcases (by omega : wm = 0 ∨ wm = 1 ∨ wm = 2) with rfl | rfl | rfl <;> rcases (by omega : di = 0 ∨ di = 1) with rfl | rfl
      · exact moves_z0 0 0 a b x y by_ _ _ _ _ (by omega) (by omega) hd hx a1 a2 hy b1 b2 (phys_moves0 a b a1 (by omega) b1 (by omega)) (phys_moves0 a b a1 (by omega) b1 (by omega)) (phys_moves0 a b a1 (by omega) b1 (by omega)) (by decide) w ht
      · exact moves_z0 0 1 a b x y by_ _ _ _ _ (by omega) (by omega) hd hx a1 a2 hy b1 b2 (phys_moves1 a b a1 (by omega) b1 (by omega)) (phys_moves1 a b a1 (by omega) b1 (by omega)) (phys_moves1 a b a1 (by omega) b1 (by omega)) (by decide) w ht
      · exact moves_z1 1 0 a b x y by_ _ _ _ _ (by omega) (by omega) hd hx a1 a2 hy b1 b2 (phys_moves2 a b a1 (by omega) b1 (by omega)) (phys_moves2 a b a1 (by omega) b1 (by omega)) (phys_moves2 a b a1 (by omega) b1 (by omega)) (by decide) w ht
      · exact moves_z1 1 1 a b x y by_ _ _ _ _ (by omega) (by omega) hd hx a1 a2 hy b1 b2 (phys_moves3 a b a1 (by omega) b1 (by omega)) (phys_moves3 a b a1 (by omega) b1 (by omega)) (phys_moves3 a b a1 (by omega) b1 (by omega)) (by decide) w ht
      · exact moves_z1 2 0 a b x y by_ _ _ _ _ (by omega) (by omega) hd hx a1 a2 hy b1 b2 (phys_moves4 a b a1 (by omega) b1 (by omega)) (phys_moves4 a b a1 (by omega) b1 (by omega)) (phys_moves4 a b a1 (by omega) b1 (by omega)) (by decide) w ht
      · exact moves_z1 2 1 a b x y by_ _ _ _ _ (by omega) (by omega) hd hx a1 a2 hy b1 b2 (phys_moves5 a b a1 (by omega) b1 (by omega)) (phys_moves5 a b a1 (by omega) b1 (by omega)) (phys_moves5 a b a1 (by omega) b1 (by omega)) (by decide) w ht
    · rcases (by omega : wm = 0 ∨ wm = 1 ∨ wm = 2) with rfl | rfl | rfl <;> rcases (by omega : di = 0 ∨ di = 1) with rfl | rfl
      · exact moves_0 0 0 a b x y by_ _ _ _ _ _ _ d (by omega) (by omega) hp d2 (by omega) (by omega) hd hx a1 a2 hy b1 b2 (phys_moves0 a b (by omega) (by omega) (by omega) (by omega)) (phys_moves0 (a + d) b (by omega) (by omega) (by omega) (by omega)) (phys_moves0 a (b + d) (by omega) (by omega) (by omega) (by omega)) (by decide) w ht
      · exact moves_1 0 1 a b x y by_ _ _ _ _ _ _ d (by omega) (by omega) hp d2 (by omega) (by omega) hd hx a1 a2 hy b1 b2 (phys_moves1 a b (by omega) (by omega) (by omega) (by omega)) (phys_moves1 (a + d) b (by omega) (by omega) (by omega) (by omega)) (phys_moves1 a (b + d) (by omega) (by omega) (by omega) (by omega)) (by decide) w ht
      · exact moves_2 1 0 a b x y by_ _ _ _ _ _ _ d (by omega) (by omega) hp d2 (by omega) (by omega) hd hx a1 a2 hy b1 b2 (phys_moves2 a b (by omega) (by omega) (by omega) (by omega)) (phys_moves2 (a + d) b (by omega) (by omega) (by omega) (by omega)) (phys_moves2 a (b + d) (by omega) (by omega) (by omega) (by omega)) (by decide) w ht
      · exact moves_3 1 1 a b x y by_ _ _ _ _ _ _ d (by omega) (by omega) hp d2 (by omega) (by omega) hd hx a1 a2 hy b1 b2 (phys_moves3 a b (by omega) (by omega) (by omega) (by omega)) (phys_moves3 (a + d) b (by omega) (by omega) (by omega) (by omega)) (phys_moves3 a (b + d) (by omega) (by omega) (by omega) (by omega)) (by decide) w ht
      · exact moves_4 2 0 a b x y by_ _ _ _ _ _ _ d (by omega) (by omega) hp d2 (by omega) (by omega) hd hx a1 a2 hy b1 b2 (phys_moves4 a b (by omega) (by omega) (by omega) (by omega)) (phys_moves4 (a + d) b (by omega) (by omega) (by omega) (by omega)) (phys_moves4 a (b + d) (by omega) (by omega) (by omega) (by omega)) (by decide) w ht
      · exact moves_5 2 1 a b x y by_ _ _ _ _ _ _ d (by omega) (by omega) hp d2 (by omega) (by omega) hd hx a1 a2 hy b1 b2 (phys_moves5 a b (by omega) (by omega) (by omega) (by omega)) (phys_moves5 (a + d) b (by omega) (by omega) (by omega) (by omega)) (phys_moves5 a (b + d) (by omega) (by omega) (by omega) (by omega)) (by decide) w ht
end Go.Proofs.YtjehmhgafibgbaaDoor
