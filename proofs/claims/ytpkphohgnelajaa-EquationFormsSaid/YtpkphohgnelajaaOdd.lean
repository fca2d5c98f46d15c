/- Layer 10: slices.Contains over none, one, two numbers. -/
import Derived.Test.YtpkphohgnelajaaUsed
namespace Go.Proofs.Ytpkphohgnelajaa
open Go.RowKit
set_option linter.unusedSimpArgs false
set_option linter.unusedVariables false
theorem index0_any (x : Int) (o : Option Addr) (c : Nat) (w : World) :
    Calls Try.prog 52 #[.slice o 0 c, .int .i64 x] w fun e w' => e = .returned (.int .i64 (-1)) ∧ w = w' := by
  go_enter Try.func52, Try.ntmps52
  go_wp2
  refine wp_loop_rounds 1 ?_
  rw [rounds_succ]
  go_wp2
  go_ret
  exact ⟨rfl, rfl⟩
theorem index1_any (x a : Int) (g c : Nat) (w : World) (h : w.cell? ⟨g, 0, none⟩ = some (.int .i64 a)) :
    Calls Try.prog 52 #[.slice (some ⟨g, 0, none⟩) 1 c, .int .i64 x] w fun e w' => e = .returned (.int .i64 (if x = a then 0 else -1)) ∧ w = w' := by
  cases hx : (x == a)
  · have hs : (if x = a then (0 : Int) else -1) = -1 := if_neg (by simpa using hx)
    rw [hs]
    clear hs
    go_enter Try.func52, Try.ntmps52
    go_wp2
    refine wp_loop_rounds 2 ?_
    rw [rounds_succ]
    go_wp2
    rw [rounds_succ]
    go_wp2
    go_ret
    exact ⟨rfl, rfl⟩
  · obtain rfl : x = a := by simpa using hx
    rw [if_pos rfl]
    clear hx
    go_enter Try.func52, Try.ntmps52
    go_wp2
    refine wp_loop_rounds 1 ?_
    rw [rounds_succ]
    go_wp2
    go_ret
    exact ⟨rfl, rfl⟩
theorem index2_any (x a b : Int) (g c : Nat) (w : World) (h : w.cell? ⟨g, 0, none⟩ = some (.int .i64 a)) (h2 : w.cell? ⟨g, 1, none⟩ = some (.int .i64 b)) :
    Calls Try.prog 52 #[.slice (some ⟨g, 0, none⟩) 2 c, .int .i64 x] w fun e w' => e = .returned (.int .i64 (if x = a then 0 else if x = b then 1 else -1)) ∧ w = w' := by
  cases hx : (x == a)
  · cases hy : (x == b)
    · have hs : (if x = a then (0 : Int) else if x = b then 1 else -1) = -1 := by rw [if_neg (by simpa using hx), if_neg (by simpa using hy)]
      rw [hs]
      clear hs
      go_enter Try.func52, Try.ntmps52
      go_wp2
      refine wp_loop_rounds 3 ?_
      rw [rounds_succ]
      go_wp2
      rw [rounds_succ]
      go_wp2
      rw [rounds_succ]
      go_wp2
      go_ret
      exact ⟨rfl, rfl⟩
    · have hs : (if x = a then (0 : Int) else if x = b then 1 else -1) = 1 := by rw [if_neg (by simpa using hx), if_pos (by simpa using hy)]
      rw [hs]
      clear hs
      obtain rfl : x = b := by simpa using hy
      clear hy
      go_enter Try.func52, Try.ntmps52
      go_wp2
      refine wp_loop_rounds 2 ?_
      rw [rounds_succ]
      go_wp2
      rw [rounds_succ]
      go_wp2
      go_ret
      exact ⟨rfl, rfl⟩
  · obtain rfl : x = a := by simpa using hx
    rw [if_pos rfl]
    clear hx
    go_enter Try.func52, Try.ntmps52
    go_wp2
    refine wp_loop_rounds 2 ?_
    rw [rounds_succ]
    go_wp2
    go_ret
    exact ⟨rfl, rfl⟩
/-- a slice of at most two numbers, as it lies -/
inductive FewAt (w : World) : Value → List Int → Prop
  | none (o : Option Addr) (c : Nat) : FewAt w (.slice o 0 c) []
  | one (g c : Nat) (a : Int) (h : w.cell? ⟨g, 0, none⟩ = some (.int .i64 a)) : FewAt w (.slice (some ⟨g, 0, none⟩) 1 c) [a]
  | two (g c : Nat) (a b : Int) (h : w.cell? ⟨g, 0, none⟩ = some (.int .i64 a)) (h2 : w.cell? ⟨g, 1, none⟩ = some (.int .i64 b)) : FewAt w (.slice (some ⟨g, 0, none⟩) 2 c) [a, b]
theorem containsFew_any (x : Int) (v : Value) (l : List Int) (w : World) (h : FewAt w v l) :
    Calls Try.prog 44 #[v, .int .i64 x] w fun e w' => e = .returned (.bool (l.contains x)) ∧ w = w' := by
  cases h with
  | none o c =>
    go_enter Try.func44, Try.ntmps44
    go_wp2_with fail
    refine (index0_any _ _ _ _).mono ?_
    rintro e w1 ⟨rfl, rfl⟩
    go_wp2
    go_ret
    exact ⟨rfl, rfl⟩
  | one g c a h =>
    cases hx : (x == a)
    · have hs : (if x = a then (0 : Int) else -1) = -1 := if_neg (by simpa using hx)
      have hr : [a].contains x = false := by simp; simpa using hx
      rw [hr]
      go_enter Try.func44, Try.ntmps44
      go_wp2_with fail
      refine (index1_any _ _ _ _ _ h).mono ?_
      rintro e w1 ⟨rfl, rfl⟩
      clear hr
      simp only [hs]
      go_wp2
      go_ret
      exact ⟨rfl, rfl⟩
    · obtain rfl : x = a := by simpa using hx
      have hs : (if x = x then (0 : Int) else -1) = 0 := if_pos rfl
      have hr : [x].contains x = true := by simp
      rw [hr]
      go_enter Try.func44, Try.ntmps44
      go_wp2_with fail
      refine (index1_any _ _ _ _ _ h).mono ?_
      rintro e w1 ⟨rfl, rfl⟩
      clear hr
      simp only [hs]
      go_wp2
      go_ret
      exact ⟨rfl, rfl⟩
  | two g c a b h h2 =>
    cases hx : (x == a)
    · cases hy : (x == b)
      · have hs : (if x = a then (0 : Int) else if x = b then 1 else -1) = -1 := by rw [if_neg (by simpa using hx), if_neg (by simpa using hy)]
        have hr : [a, b].contains x = false := by simp; exact ⟨by simpa using hx, by simpa using hy⟩
        rw [hr]
        go_enter Try.func44, Try.ntmps44
        go_wp2_with fail
        refine (index2_any _ _ _ _ _ _ h h2).mono ?_
        rintro e w1 ⟨rfl, rfl⟩
        clear hr
        simp only [hs]
        go_wp2
        go_ret
        exact ⟨rfl, rfl⟩
      · have hs : (if x = a then (0 : Int) else if x = b then 1 else -1) = 1 := by rw [if_neg (by simpa using hx), if_pos (by simpa using hy)]
        have hr : [a, b].contains x = true := by simp; exact .inr (by simpa using hy)
        rw [hr]
        go_enter Try.func44, Try.ntmps44
        go_wp2_with fail
        refine (index2_any _ _ _ _ _ _ h h2).mono ?_
        rintro e w1 ⟨rfl, rfl⟩
        clear hr
        simp only [hs]
        go_wp2
        go_ret
        exact ⟨rfl, rfl⟩
    · have hs : (if x = a then (0 : Int) else if x = b then 1 else -1) = 0 := by rw [if_pos (by simpa using hx)]
      have hr : [a, b].contains x = true := by simp; exact .inl (by simpa using hx)
      rw [hr]
      go_enter Try.func44, Try.ntmps44
      go_wp2_with fail
      refine (index2_any _ _ _ _ _ _ h h2).mono ?_
      rintro e w1 ⟨rfl, rfl⟩
      clear hr
      simp only [hs]
      go_wp2
      go_ret
      exact ⟨rfl, rfl⟩
theorem FewAt.kept {w w' : World} {v : Value} {l : List Int} (h : FewAt w v l) (k : Kept w w') : FewAt w' v l := by
  cases h with
  | none o c => exact .none o c
  | one g c a h => exact .one g c a ((k.cell (World.block_lt_of_cell? w _ h)).trans h)
  | two g c a b h h2 => exact .two g c a b ((k.cell (World.block_lt_of_cell? w _ h)).trans h) ((k.cell (World.block_lt_of_cell? w _ h2)).trans h2)
/-- is a length odd for a least number, with kinds left out? -/
def oddB (least : Int) (out : List Int) (k v : Int) : Bool := !lenB k v || decide (v < least) || out.contains k
set_option maxHeartbeats 1000000 in
theorem oddLength_any (least : Int) (out : List Int) (k v : Int) (p q : Nat) (s : Value) (w : World) (hp : w.cell? ⟨p, 0, none⟩ = some (.int .i64 least)) (hq : w.cell? ⟨q, 0, none⟩ = some s) (hs : FewAt w s out) :
    Calls Try.prog 42 #[lenV k v, .pointer (some ⟨p, 0, none⟩), .pointer (some ⟨q, 0, none⟩)] w fun e w' => e = .returned (.bool (oddB least out k v)) ∧ Kept w w' := by
  have hpl : p < w.heap.size := World.block_lt_of_cell? w _ hp
  have hql : q < w.heap.size := World.block_lt_of_cell? w _ hq
  cases hl : lenB k v
  · have hr : oddB least out k v = true := by unfold oddB; rw [hl]; rfl
    have HR := Lib.hid hr
    clear hr
    have hk : Kept w w := Kept.refl w
    go_enter Try.func42, Try.ntmps42
    go_wp2_with fail
    refine with_boxes1 ?_
    intro X hX m
    have hsz := hk.size
    replace hk := hk.trans hX
    clear hX
    replace m_l := m.lt
    replace m_0 := m.at 0 _ rfl
    replace m_1 := m.at 1 _ rfl
    refine (lengthMay_any _ _ _).mono ?_
    rintro e w1 ⟨rfl, hn⟩
    replace hk := hk.trans hn
    replace m := m.kept hn
    clear hn
    replace m_l := m.lt
    replace m_0 := m.at 0 _ rfl
    replace m_1 := m.at 1 _ rfl
    go_wp2
    go_ret
    exact ⟨by rw [HR.out]; rfl, hk⟩
  · rcases Int.lt_or_le v least with h | h
    · have hr : oddB least out k v = true := by unfold oddB; rw [hl, decide_eq_true h]; rfl
      have HR := Lib.hid hr
      clear hr
      have hk : Kept w w := Kept.refl w
      go_enter Try.func42, Try.ntmps42
      go_wp2_with fail
      refine with_boxes1 ?_
      intro X hX m
      have hsz := hk.size
      replace hk := hk.trans hX
      clear hX
      replace m_l := m.lt
      replace m_0 := m.at 0 _ rfl
      replace m_1 := m.at 1 _ rfl
      refine (lengthMay_any _ _ _).mono ?_
      rintro e w1 ⟨rfl, hn⟩
      replace hk := hk.trans hn
      replace m := m.kept hn
      clear hn
      replace m_l := m.lt
      replace m_0 := m.at 0 _ rfl
      replace m_1 := m.at 1 _ rfl
      have c1 := (hk.cell hpl).trans hp
      go_wp2
      go_ret
      exact ⟨by rw [HR.out]; rfl, hk⟩
    · have hr : oddB least out k v = out.contains k := by unfold oddB; rw [hl, decide_eq_false (by omega)]; rfl
      have HR := Lib.hid hr
      clear hr
      have hk : Kept w w := Kept.refl w
      go_enter Try.func42, Try.ntmps42
      go_wp2_with fail
      refine with_boxes1 ?_
      intro X hX m
      have hsz := hk.size
      replace hk := hk.trans hX
      clear hX
      replace m_l := m.lt
      replace m_0 := m.at 0 _ rfl
      replace m_1 := m.at 1 _ rfl
      refine (lengthMay_any _ _ _).mono ?_
      rintro e w1 ⟨rfl, hn⟩
      replace hk := hk.trans hn
      replace m := m.kept hn
      clear hn
      replace m_l := m.lt
      replace m_0 := m.at 0 _ rfl
      replace m_1 := m.at 1 _ rfl
      have c1 := (hk.cell hpl).trans hp
      have c2 := (hk.cell hql).trans hq
      go_wp2_with fail
      refine (containsFew_any _ _ _ _ (hs.kept hk)).mono ?_
      rintro e w1 ⟨rfl, rfl⟩
      go_wp2
      go_ret
      exact ⟨ret_bool (by rw [HR.out, decide_eq_false (show ¬ v < least by omega)]; simp), hk⟩
end Go.Proofs.Ytpkphohgnelajaa
