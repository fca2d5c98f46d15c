/- Layer 16: exclusions, one by one. -/
import Derived.Test.YtkonpnaedniceaaUnit
import Derived.Test.YtkonpnaedniceaaBoxes
import Derived.WalkLawsBesides
namespace Go.Proofs.Ytkonpnaedniceaa
open Go.RowKit
set_option linter.unusedSimpArgs false
set_option linter.unusedVariables false
theorem false_first1 (b : Bool) : b = false ∨ b = true := by cases b <;> simp
/-- an exclusion -/
structure Exc where
  ai : Int
  ab : Int
  si : Int
  sb : Int
  side : Int
abbrev Exc.V (x : Exc) : Value := .agg #[.int .i64 x.ai, .int .i64 x.ab, .int .i64 x.si, .int .i64 x.sb, .int .i64 x.side]
def excB (x : Exc) : Bool := inB 1 2 x.side && (inB 0 4194304 x.si && inB 0 4194304 x.sb && inB 0 4194304 x.ab) && mayB x.ai
theorem excB_parts {x : Exc} (h : excB x = true) : (1 ≤ x.side ∧ x.side ≤ 2) ∧ (0 ≤ x.si ∧ x.si ≤ 4194304) ∧ (0 ≤ x.sb ∧ x.sb ≤ 4194304) ∧ (0 ≤ x.ab ∧ x.ab ≤ 4194304) ∧ -1073741824 ≤ x.ai ∧ x.ai ≤ 1073741824 := by
  unfold excB at h
  simp only [Bool.and_eq_true, inB_true, mayB_true] at h
  omega
def endS (x : Exc) : Int := x.ab + x.sb
def meetsB (x : Exc) (y h : Int) : Bool := decide (x.ab < y + max 1 h) && decide (y < endS x)
def clearsB (clear side : Int) : Bool := (side == 1 && (clear == 1 || clear == 3)) || (side == 2 && (clear == 2 || clear == 3))
theorem besideEnd_any (x : Exc) (w : World) (h : -4611686018427387904 ≤ x.ab + x.sb ∧ x.ab + x.sb ≤ 4611686018427387904) :
    Calls Try.prog 35 #[x.V] w fun e w' => e = .returned (.int .i64 (endS x)) ∧ Kept w w' := by
  have Hs := Lib.hid (show endS x = x.ab + x.sb from rfl)
  have hk : Kept w w := Kept.refl w
  go_enter Try.func35, Try.ntmps35
  go_wp2
  go_ret
  exact ⟨ret_int (by rw [Hs.out]), (by first | ((repeat (first | with_reducible exact hk | with_reducible refine Kept.alloc ?_ _ | with_reducible refine Kept.drew ?_ | with_reducible refine Kept.drewN ?_ _ | with_reducible refine Kept.set ?_ (by first | (simp; done) | (simp; omega) | omega) _)); done) | exact hk | exact (hk.alloc _) | exact ((hk.alloc _).alloc _) | exact (((hk.alloc _).alloc _).alloc _) | exact ((((hk.alloc _).alloc _).alloc _).alloc _) | exact (((((hk.alloc _).alloc _).alloc _).alloc _).alloc _) | exact ((((((hk.alloc _).alloc _).alloc _).alloc _).alloc _).alloc _) | (repeat (first | exact hk | refine Kept.alloc ?_ _ | refine Kept.drew ?_ | refine Kept.drewN ?_ _ | refine Kept.set ?_ (by first | (simp; done) | (simp; omega) | omega) _)))⟩
theorem besideMeets_any (x : Exc) (y h : Int) (w : World) (hx : 0 ≤ x.ab ∧ x.ab ≤ 8388608 ∧ 0 ≤ x.sb ∧ x.sb ≤ 8388608) (hy : 0 ≤ y ∧ y ≤ 1073741824) (hh : h ≤ 1073741824) :
    Calls Try.prog 36 #[x.V, .int .i64 y, .int .i64 h] w fun e w' => e = .returned (.bool (meetsB x y h)) ∧ Kept w w' := by
  have hs : meetsB x y h = (decide (x.ab < y + max 1 h) && decide (y < endS x)) := rfl
  obtain ⟨m, hm⟩ : ∃ m, max 1 h = m := ⟨_, rfl⟩
  rw [hm] at hs
  have hmb : 1 ≤ m ∧ m ≤ 1073741824 := by omega
  rcases (by omega : h < 1 ∨ h = 1 ∨ 1 < h) with h1 | h1 | h1
  · obtain rfl : m = 1 := by omega
    by_cases h2 : x.ab < y + 1
    · have Hs := Lib.hid (show meetsB x y h = decide (y < endS x) by rw [hs, decide_eq_true h2, Bool.true_and])
      clear hs hm
      have hk : Kept w w := Kept.refl w
      go_enter Try.func36, Try.ntmps36
      go_wp2_with fail
      refine with_boxes1 ?_
      intro X hX b
      have hsz := hk.size
      replace hk := hk.trans hX
      clear hX
      replace b_l := b.lt
      replace b_0 := b.at 0 _ rfl
      replace b_1 := b.at 1 _ rfl
      replace b_2 := b.at 2 _ rfl
      replace b_3 := b.at 3 _ rfl
      replace b_4 := b.at 4 _ rfl
      refine (besideEnd_any x _ (by omega)).mono ?_
      rintro e w1 ⟨rfl, hn⟩
      replace hk := hk.trans hn
      replace b := b.kept hn
      clear hn
      replace b_l := b.lt
      replace b_0 := b.at 0 _ rfl
      replace b_1 := b.at 1 _ rfl
      replace b_2 := b.at 2 _ rfl
      replace b_3 := b.at 3 _ rfl
      replace b_4 := b.at 4 _ rfl
      go_wp2
      go_ret
      exact ⟨ret_bool (by rw [Hs.out]), hk⟩
    · have Hs := Lib.hid (show meetsB x y h = false by rw [hs, decide_eq_false h2, Bool.false_and])
      clear hs hm
      have hk : Kept w w := Kept.refl w
      go_enter Try.func36, Try.ntmps36
      go_wp2
      go_ret
      exact ⟨ret_bool (by rw [Hs.out]), (by first | ((repeat (first | with_reducible exact hk | with_reducible refine Kept.alloc ?_ _ | with_reducible refine Kept.drew ?_ | with_reducible refine Kept.drewN ?_ _ | with_reducible refine Kept.set ?_ (by first | (simp; done) | (simp; omega) | omega) _)); done) | exact hk | exact (hk.alloc _) | exact ((hk.alloc _).alloc _) | exact (((hk.alloc _).alloc _).alloc _) | exact ((((hk.alloc _).alloc _).alloc _).alloc _) | exact (((((hk.alloc _).alloc _).alloc _).alloc _).alloc _) | exact ((((((hk.alloc _).alloc _).alloc _).alloc _).alloc _).alloc _) | (repeat (first | exact hk | refine Kept.alloc ?_ _ | refine Kept.drew ?_ | refine Kept.drewN ?_ _ | refine Kept.set ?_ (by first | (simp; done) | (simp; omega) | omega) _)))⟩
  · subst h1
    obtain rfl : m = 1 := by omega
    by_cases h2 : x.ab < y + 1
    · have Hs := Lib.hid (show meetsB x y 1 = decide (y < endS x) by rw [hs, decide_eq_true h2, Bool.true_and])
      clear hs hm
      have hk : Kept w w := Kept.refl w
      go_enter Try.func36, Try.ntmps36
      go_wp2_with fail
      refine with_boxes1 ?_
      intro X hX b
      have hsz := hk.size
      replace hk := hk.trans hX
      clear hX
      replace b_l := b.lt
      replace b_0 := b.at 0 _ rfl
      replace b_1 := b.at 1 _ rfl
      replace b_2 := b.at 2 _ rfl
      replace b_3 := b.at 3 _ rfl
      replace b_4 := b.at 4 _ rfl
      refine (besideEnd_any x _ (by omega)).mono ?_
      rintro e w1 ⟨rfl, hn⟩
      replace hk := hk.trans hn
      replace b := b.kept hn
      clear hn
      replace b_l := b.lt
      replace b_0 := b.at 0 _ rfl
      replace b_1 := b.at 1 _ rfl
      replace b_2 := b.at 2 _ rfl
      replace b_3 := b.at 3 _ rfl
      replace b_4 := b.at 4 _ rfl
      go_wp2
      go_ret
      exact ⟨ret_bool (by rw [Hs.out]), hk⟩
    · have Hs := Lib.hid (show meetsB x y 1 = false by rw [hs, decide_eq_false h2, Bool.false_and])
      clear hs hm
      have hk : Kept w w := Kept.refl w
      go_enter Try.func36, Try.ntmps36
      go_wp2
      go_ret
      exact ⟨ret_bool (by rw [Hs.out]), (by first | ((repeat (first | with_reducible exact hk | with_reducible refine Kept.alloc ?_ _ | with_reducible refine Kept.drew ?_ | with_reducible refine Kept.drewN ?_ _ | with_reducible refine Kept.set ?_ (by first | (simp; done) | (simp; omega) | omega) _)); done) | exact hk | exact (hk.alloc _) | exact ((hk.alloc _).alloc _) | exact (((hk.alloc _).alloc _).alloc _) | exact ((((hk.alloc _).alloc _).alloc _).alloc _) | exact (((((hk.alloc _).alloc _).alloc _).alloc _).alloc _) | exact ((((((hk.alloc _).alloc _).alloc _).alloc _).alloc _).alloc _) | (repeat (first | exact hk | refine Kept.alloc ?_ _ | refine Kept.drew ?_ | refine Kept.drewN ?_ _ | refine Kept.set ?_ (by first | (simp; done) | (simp; omega) | omega) _)))⟩
  · obtain rfl : m = h := by omega
    by_cases h2 : x.ab < y + m
    · have Hs := Lib.hid (show meetsB x y m = decide (y < endS x) by rw [hs, decide_eq_true h2, Bool.true_and])
      clear hs hm
      have hk : Kept w w := Kept.refl w
      go_enter Try.func36, Try.ntmps36
      go_wp2_with fail
      refine with_boxes1 ?_
      intro X hX b
      have hsz := hk.size
      replace hk := hk.trans hX
      clear hX
      replace b_l := b.lt
      replace b_0 := b.at 0 _ rfl
      replace b_1 := b.at 1 _ rfl
      replace b_2 := b.at 2 _ rfl
      replace b_3 := b.at 3 _ rfl
      replace b_4 := b.at 4 _ rfl
      refine (besideEnd_any x _ (by omega)).mono ?_
      rintro e w1 ⟨rfl, hn⟩
      replace hk := hk.trans hn
      replace b := b.kept hn
      clear hn
      replace b_l := b.lt
      replace b_0 := b.at 0 _ rfl
      replace b_1 := b.at 1 _ rfl
      replace b_2 := b.at 2 _ rfl
      replace b_3 := b.at 3 _ rfl
      replace b_4 := b.at 4 _ rfl
      go_wp2
      go_ret
      exact ⟨ret_bool (by rw [Hs.out]), hk⟩
    · have Hs := Lib.hid (show meetsB x y m = false by rw [hs, decide_eq_false h2, Bool.false_and])
      clear hs hm
      have hk : Kept w w := Kept.refl w
      go_enter Try.func36, Try.ntmps36
      go_wp2
      go_ret
      exact ⟨ret_bool (by rw [Hs.out]), (by first | ((repeat (first | with_reducible exact hk | with_reducible refine Kept.alloc ?_ _ | with_reducible refine Kept.drew ?_ | with_reducible refine Kept.drewN ?_ _ | with_reducible refine Kept.set ?_ (by first | (simp; done) | (simp; omega) | omega) _)); done) | exact hk | exact (hk.alloc _) | exact ((hk.alloc _).alloc _) | exact (((hk.alloc _).alloc _).alloc _) | exact ((((hk.alloc _).alloc _).alloc _).alloc _) | exact (((((hk.alloc _).alloc _).alloc _).alloc _).alloc _) | exact ((((((hk.alloc _).alloc _).alloc _).alloc _).alloc _).alloc _) | (repeat (first | exact hk | refine Kept.alloc ?_ _ | refine Kept.drew ?_ | refine Kept.drewN ?_ _ | refine Kept.set ?_ (by first | (simp; done) | (simp; omega) | omega) _)))⟩
theorem besideClears_any (c s : Int) (w : World) :
    Calls Try.prog 34 #[.int .i64 c, .int .i64 s] w fun e w' => e = .returned (.bool (clearsB c s)) ∧ w = w' := by
  have hs : clearsB c s = ((s == 1 && (c == 1 || c == 3)) || (s == 2 && (c == 2 || c == 3))) := rfl
  have Hs := Lib.hid hs
  clear hs
  rcases (by omega : s = 1 ∨ s = 2 ∨ (s ≠ 1 ∧ s ≠ 2)) with rfl | rfl | ⟨h1, h2⟩ <;> rcases (by omega : c = 1 ∨ c = 2 ∨ c = 3 ∨ (c ≠ 1 ∧ c ≠ 2 ∧ c ≠ 3)) with rfl | rfl | rfl | ⟨h3, h4, h5⟩
  all_goals
    try replace h1 : (s == 1) = false := by simpa using h1
    try replace h2 : (s == 2) = false := by simpa using h2
    try replace h3 : (c == 1) = false := by simpa using h3
    try replace h4 : (c == 2) = false := by simpa using h4
    try replace h5 : (c == 3) = false := by simpa using h5
    go_enter Try.func34, Try.ntmps34
    go_wp2
    go_ret
    exact ⟨ret_bool (by rw [Hs.out]; first | rfl | (simp [*]; done)), rfl⟩
set_option maxHeartbeats 1000000 in
theorem oddExc_any (x : Exc) (w : World) :
    Calls Try.prog 24 #[x.V] w fun e w' => e = .returned (.bool (!excB x)) ∧ Kept w w' := by
  have hk : Kept w w := Kept.refl w
  go_enter Try.func24, Try.ntmps24
  go_wp2
  go_region
  · skip
    go_wp2_with fail
    refine with_boxes4d ?_
    intro X hX b m z q
    have hsz := hk.size
    replace hk := hk.trans hX
    clear hX
    replace b_l := b.lt
    replace b_0 := b.at 0 _ rfl
    replace b_1 := b.at 1 _ rfl
    replace b_2 := b.at 2 _ rfl
    replace b_3 := b.at 3 _ rfl
    replace b_4 := b.at 4 _ rfl
    replace m_l := m.lt
    replace m_0 := m.at 0 _ rfl
    replace m_1 := m.at 1 _ rfl
    replace z_l := z.lt
    replace z_0 := z.at 0 _ rfl
    replace z_1 := z.at 1 _ rfl
    replace q_l := q.lt
    replace q_0 := q.at 0 _ rfl
    refine (each1_any _ _ _ _ _ q_0).mono ?_
    rintro e w1 ⟨rfl, rfl⟩
    clear q
    clear q_l q_0
    rcases false_first1 (inB 1 2 x.side) with h | h
    · have Hs := Lib.hid (show excB x = false by unfold excB; simp only [h]; rfl)
      go_wp2
      go_ret
      exact ⟨ret_bool (by rw [Hs.out]; rfl), hk⟩
    go_wp2_with fail
    refine with_boxes1 ?_
    intro X hX q
    have hsz := hk.size
    replace hk := hk.trans hX
    replace b := b.kept hX
    replace m := m.kept hX
    replace z := z.kept hX
    clear hX
    replace b_l := b.lt
    replace b_0 := b.at 0 _ rfl
    replace b_1 := b.at 1 _ rfl
    replace b_2 := b.at 2 _ rfl
    replace b_3 := b.at 3 _ rfl
    replace b_4 := b.at 4 _ rfl
    replace m_l := m.lt
    replace m_0 := m.at 0 _ rfl
    replace m_1 := m.at 1 _ rfl
    replace z_l := z.lt
    replace z_0 := z.at 0 _ rfl
    replace z_1 := z.at 1 _ rfl
    replace q_l := q.lt
    replace q_0 := q.at 0 _ rfl
    replace q_1 := q.at 1 _ rfl
    replace q_2 := q.at 2 _ rfl
    refine (each3_any _ _ _ _ _ _ _ q_0 q_1 q_2).mono ?_
    rintro e w1 ⟨rfl, rfl⟩
    clear q
    clear q_l q_0 q_1 q_2
    rcases false_first1 (inB 0 4194304 x.si && inB 0 4194304 x.sb && inB 0 4194304 x.ab) with h2 | h2
    · have Hs := Lib.hid (show excB x = false by unfold excB; simp only [h, h2]; rfl)
      go_wp2
      go_ret
      exact ⟨ret_bool (by rw [Hs.out]; rfl), hk⟩
    go_wp2_with fail
    refine (unitMay_any _ _).mono ?_
    rintro e w1 ⟨rfl, hn⟩
    replace hk := hk.trans hn
    replace b := b.kept hn
    replace m := m.kept hn
    replace z := z.kept hn
    clear hn
    replace b_l := b.lt
    replace b_0 := b.at 0 _ rfl
    replace b_1 := b.at 1 _ rfl
    replace b_2 := b.at 2 _ rfl
    replace b_3 := b.at 3 _ rfl
    replace b_4 := b.at 4 _ rfl
    replace m_l := m.lt
    replace m_0 := m.at 0 _ rfl
    replace m_1 := m.at 1 _ rfl
    replace z_l := z.lt
    replace z_0 := z.at 0 _ rfl
    replace z_1 := z.at 1 _ rfl
    rcases false_first1 (mayB x.ai) with h3 | h3
    · have Hs := Lib.hid (show excB x = false by unfold excB; simp only [h, h2, h3]; rfl)
      go_wp2
      go_ret
      exact ⟨ret_bool (by rw [Hs.out]; rfl), hk⟩
    have Hs := Lib.hid (show excB x = true by unfold excB; simp only [h, h2, h3]; rfl)
    go_wp2
    go_ret
    exact ⟨ret_bool (by rw [Hs.out]; rfl), hk⟩
  · skip
    go_wp2_with fail
    refine with_boxes4d ?_
    intro X hX b z m q
    have hsz := hk.size
    replace hk := hk.trans hX
    clear hX
    replace b_l := b.lt
    replace b_0 := b.at 0 _ rfl
    replace b_1 := b.at 1 _ rfl
    replace b_2 := b.at 2 _ rfl
    replace b_3 := b.at 3 _ rfl
    replace b_4 := b.at 4 _ rfl
    replace z_l := z.lt
    replace z_0 := z.at 0 _ rfl
    replace z_1 := z.at 1 _ rfl
    replace m_l := m.lt
    replace m_0 := m.at 0 _ rfl
    replace m_1 := m.at 1 _ rfl
    replace q_l := q.lt
    replace q_0 := q.at 0 _ rfl
    refine (each1_any _ _ _ _ _ q_0).mono ?_
    rintro e w1 ⟨rfl, rfl⟩
    clear q
    clear q_l q_0
    rcases false_first1 (inB 1 2 x.side) with h | h
    · have Hs := Lib.hid (show excB x = false by unfold excB; simp only [h]; rfl)
      go_wp2
      go_ret
      exact ⟨ret_bool (by rw [Hs.out]; rfl), hk⟩
    go_wp2_with fail
    refine with_boxes1 ?_
    intro X hX q
    have hsz := hk.size
    replace hk := hk.trans hX
    replace b := b.kept hX
    replace z := z.kept hX
    replace m := m.kept hX
    clear hX
    replace b_l := b.lt
    replace b_0 := b.at 0 _ rfl
    replace b_1 := b.at 1 _ rfl
    replace b_2 := b.at 2 _ rfl
    replace b_3 := b.at 3 _ rfl
    replace b_4 := b.at 4 _ rfl
    replace z_l := z.lt
    replace z_0 := z.at 0 _ rfl
    replace z_1 := z.at 1 _ rfl
    replace m_l := m.lt
    replace m_0 := m.at 0 _ rfl
    replace m_1 := m.at 1 _ rfl
    replace q_l := q.lt
    replace q_0 := q.at 0 _ rfl
    replace q_1 := q.at 1 _ rfl
    replace q_2 := q.at 2 _ rfl
    refine (each3_any _ _ _ _ _ _ _ q_0 q_1 q_2).mono ?_
    rintro e w1 ⟨rfl, rfl⟩
    clear q
    clear q_l q_0 q_1 q_2
    rcases false_first1 (inB 0 4194304 x.si && inB 0 4194304 x.sb && inB 0 4194304 x.ab) with h2 | h2
    · have Hs := Lib.hid (show excB x = false by unfold excB; simp only [h, h2]; rfl)
      go_wp2
      go_ret
      exact ⟨ret_bool (by rw [Hs.out]; rfl), hk⟩
    go_wp2_with fail
    refine (unitMay_any _ _).mono ?_
    rintro e w1 ⟨rfl, hn⟩
    replace hk := hk.trans hn
    replace b := b.kept hn
    replace z := z.kept hn
    replace m := m.kept hn
    clear hn
    replace b_l := b.lt
    replace b_0 := b.at 0 _ rfl
    replace b_1 := b.at 1 _ rfl
    replace b_2 := b.at 2 _ rfl
    replace b_3 := b.at 3 _ rfl
    replace b_4 := b.at 4 _ rfl
    replace z_l := z.lt
    replace z_0 := z.at 0 _ rfl
    replace z_1 := z.at 1 _ rfl
    replace m_l := m.lt
    replace m_0 := m.at 0 _ rfl
    replace m_1 := m.at 1 _ rfl
    rcases false_first1 (mayB x.ai) with h3 | h3
    · have Hs := Lib.hid (show excB x = false by unfold excB; simp only [h, h2, h3]; rfl)
      go_wp2
      go_ret
      exact ⟨ret_bool (by rw [Hs.out]; rfl), hk⟩
    have Hs := Lib.hid (show excB x = true by unfold excB; simp only [h, h2, h3]; rfl)
    go_wp2
    go_ret
    exact ⟨ret_bool (by rw [Hs.out]; rfl), hk⟩
end Go.Proofs.Ytkonpnaedniceaa
