/- Layer 13: a size along the lines between a style's least and greatest one. -/
import Derived.Test.YtpkphohgnelajaaRefMay
import Derived.Deep.RegionHeld3
namespace Go.Proofs.Ytpkphohgnelajaa
open Go.RowKit
set_option linter.unusedSimpArgs false
set_option linter.unusedVariables false
theorem held4 {w W w1 : World} {b i0 i1 i2 i3 : Nat} {v0 v1 v2 v3 : Value} (h : Kept w W ∧ W.cell? ⟨b, i0, none⟩ = some v0 ∧ W.cell? ⟨b, i1, none⟩ = some v1 ∧ W.cell? ⟨b, i2, none⟩ = some v2 ∧ W.cell? ⟨b, i3, none⟩ = some v3) (k : Kept W w1) :
    Kept w w1 ∧ w1.cell? ⟨b, i0, none⟩ = some v0 ∧ w1.cell? ⟨b, i1, none⟩ = some v1 ∧ w1.cell? ⟨b, i2, none⟩ = some v2 ∧ w1.cell? ⟨b, i3, none⟩ = some v3 := by
  obtain ⟨h, h0, h1, h2, h3⟩ := h
  exact ⟨h.trans k, (k.cell (World.block_lt_of_cell? _ _ h0)).trans h0, (k.cell (World.block_lt_of_cell? _ _ h1)).trans h1, (k.cell (World.block_lt_of_cell? _ _ h2)).trans h2, (k.cell (World.block_lt_of_cell? _ _ h3)).trans h3⟩
/-- a size along the lines between a style's least and greatest one, at least 0 -/
def minS (s : Sty) (room : Int) : Int := (usedS s.mn.k s.mn.v room 0).1
def maxS (s : Sty) (room : Int) : Int := (usedS s.mx.k s.mx.v room 1073741824).1
def betweenS (s : Sty) (room x : Int) : Int := clampS x (minS s room) (maxS s room)
def inlineS (s : Sty) (room x : Int) : Int := max 0 (betweenS s room x)
theorem usedMin_any (s : Sty) (room : Int) (w : World) :
    Calls Try.prog 40 #[s.mn.V, .int .i64 room, .int .i64 0] w fun e w' => e = .returned (.int .i64 (minS s room)) ∧ Kept w w' := usedLength_any _ _ _ _ _
theorem usedMax_any (s : Sty) (room : Int) (w : World) :
    Calls Try.prog 40 #[s.mx.V, .int .i64 room, .int .i64 1073741824] w fun e w' => e = .returned (.int .i64 (maxS s room)) ∧ Kept w w' := usedLength_any _ _ _ _ _
theorem between_any (s : Sty) (room x : Int) (w : World) :
    Calls Try.prog 34 #[.int .i64 x, .int .i64 (minS s room), .int .i64 (maxS s room)] w fun e w' => e = .returned (.int .i64 (betweenS s room x)) ∧ w = w' := usedBetween_any _ _ _ _
theorem refBetween_any (s : Sty) (room x : Int) (w : World) :
    Calls Try.prog 16 #[.int .i64 x, .int .i64 (minS s room), .int .i64 (maxS s room)] w fun e w' => e = .returned (.int .i64 (betweenS s room x)) ∧ w = w' := refClamp_any _ _ _ _
theorem refUsedMin_any (s : Sty) (room : Int) (w : World) :
    Calls Try.prog 33 #[s.mn.V, .int .i64 room, .int .i64 0] w fun e w' => e = .returned (.tuple #[.int .i64 (minS s room), .int .i64 (usedS s.mn.k s.mn.v room 0).2]) ∧ Kept w w' := refUsed_any _ _ _ _ _
theorem refUsedMax_any (s : Sty) (room : Int) (w : World) :
    Calls Try.prog 33 #[s.mx.V, .int .i64 room, .int .i64 1073741824] w fun e w' => e = .returned (.tuple #[.int .i64 (maxS s room), .int .i64 (usedS s.mx.k s.mx.v room 1073741824).2]) ∧ Kept w w' := refUsed_any _ _ _ _ _
set_option maxHeartbeats 4000000 in
set_option maxRecDepth 20000 in
theorem usedInline_any (s : Sty) (room x : Int) (w : World) :
    Calls Try.prog 30 #[s.V, .int .i64 room, .int .i64 x] w fun e w' => e = .returned (.int .i64 (inlineS s room x)) ∧ Kept w w' := by
  have hs : inlineS s room x = max 0 (betweenS s room x) := rfl
  have Hs := Lib.hid hs
  clear hs
  rcases (by omega : betweenS s room x < 0 ∨ betweenS s room x = 0 ∨ 0 < betweenS s room x) with h | h | h
  all_goals
    have hk : Kept w w := Kept.refl w
    go_enter Try.func30, Try.ntmps30
    go_wp2_with fail
    refine code_boxes1 ?_
    intro X hX st
    have hsz := hk.size
    replace hk := hk.trans hX
    clear hX
    have hS := held4 ⟨hk, st.at 4 _ rfl, st.at 5 _ rfl, st.at 6 _ rfl, st.at 7 _ rfl⟩ (Kept.refl _).drew
    go_region_held3 (fun W => Kept w W ∧ W.cell? ⟨w.heap.size, 4, none⟩ = some (.int .i64 s.mn.k) ∧ W.cell? ⟨w.heap.size, 5, none⟩ = some (.int .i64 s.mn.v) ∧ W.cell? ⟨w.heap.size, 6, none⟩ = some (.int .i64 s.mx.k) ∧ W.cell? ⟨w.heap.size, 7, none⟩ = some (.int .i64 s.mx.v))
      (first | exact hS | assumption | exact held4 ‹Kept w _ ∧ _› hn)
      (first
        | (go_at_call 40; (with_reducible refine (usedMin_any s room _).mono ?_); rintro e w3 ⟨rfl, hn⟩)
        | (go_at_call 40; (with_reducible refine (usedMax_any s room _).mono ?_); rintro e w3 ⟨rfl, hn⟩)
        | (go_at_call 34; (with_reducible refine (between_any s room x _).mono ?_); rintro e w3 ⟨rfl, rfl⟩))
    go_wp2
    go_ret
    exact ⟨ret_int (by rw [Hs.out]; omega), (‹Kept w _ ∧ _›).1⟩

/-- a size along the lines between a style's least and greatest one, in full -/
def clampInS (s : Sty) (room x : Int) : Int × Int := if mayS s = true ∧ inB 0 4194304 room = true ∧ mayB x = true then (inlineS s room x, 0) else (0, 1300)

set_option maxHeartbeats 4000000 in
set_option maxRecDepth 20000 in
theorem clampInline_any (s : Sty) (room x : Int) (w : World) :
    Calls Try.prog 13 #[s.V, .int .i64 room, .int .i64 x] w fun e w' => e = .returned (.tuple #[.int .i64 (clampInS s room x).1, .int .i64 (clampInS s room x).2]) ∧ Kept w w' := by
  have hk : Kept w w := Kept.refl w
  go_enter Try.func13, Try.ntmps13
  go_wp2_with (refine here_load 26 _ rfl ?_; refine wpList_load_own rfl 26 _ rfl _ rfl (Own.new _ _ _) _ Try.underlying26 rfl (by kernel_rfl) ?_)
  go_wp2_with fail
  refine with_boxes1 ?_
  intro X hX st
  have hsz := hk.size
  replace hk := hk.trans hX
  clear hX
  refine (cascadeMay_any s _).mono ?_
  rintro e w1 ⟨rfl, hn⟩
  replace hk := hk.trans hn
  replace st := st.kept hn
  clear hn
  rcases false_first (mayS s) with h | h
  · have Hs := Lib.hid (show clampInS s room x = (0, 1300) from if_neg (by simp [h]))
    go_wp2
    go_ret2
    exact ⟨by rw [Hs.out]; rfl, hk⟩
  rcases false_first (inB 0 4194304 room) with h2 | h2
  · have Hs := Lib.hid (show clampInS s room x = (0, 1300) from if_neg (by simp [h2]))
    go_wp2_with fail
    refine with_boxes1 ?_
    intro X hX a
    have hsz := hk.size
    replace hk := hk.trans hX
    replace st := st.kept hX
    clear hX
    replace a_l := a.lt
    replace a_0 := a.at 0 _ rfl
    refine (each1_any _ _ _ _ _ a_0).mono ?_
    rintro e w1 ⟨rfl, rfl⟩
    clear a
    clear a_l a_0
    go_wp2
    go_ret2
    exact ⟨by rw [Hs.out]; rfl, hk⟩
  go_wp2_with fail
  refine with_boxes1 ?_
  intro X hX a
  have hsz := hk.size
  replace hk := hk.trans hX
  replace st := st.kept hX
  clear hX
  replace a_l := a.lt
  replace a_0 := a.at 0 _ rfl
  refine (each1_any _ _ _ _ _ a_0).mono ?_
  rintro e w1 ⟨rfl, rfl⟩
  clear a
  clear a_l a_0
  rcases false_first (mayB x) with h3 | h3
  · have Hs := Lib.hid (show clampInS s room x = (0, 1300) from if_neg (by simp [h3]))
    go_wp2_with fail
    refine (unitMay_any _ _).mono ?_
    rintro e w1 ⟨rfl, hn⟩
    replace hk := hk.trans hn
    replace st := st.kept hn
    clear hn
    go_wp2
    go_ret2
    exact ⟨by rw [Hs.out]; rfl, hk⟩
  have Hs := Lib.hid (show clampInS s room x = (inlineS s room x, 0) from if_pos ⟨h, h2, h3⟩)
  go_wp2_with fail
  refine (unitMay_any _ _).mono ?_
  rintro e w1 ⟨rfl, hn⟩
  replace hk := hk.trans hn
  replace st := st.kept hn
  clear hn
  go_wp2_with (refine here_load 26 _ rfl ?_; refine wpList_load_own rfl 26 _ rfl _ rfl st _ Try.underlying26 rfl (by kernel_rfl) ?_)
  go_wp2_with fail
  refine (usedInline_any s _ _ _).mono ?_
  rintro e w1 ⟨rfl, hn⟩
  replace hk := hk.trans hn
  replace st := st.kept hn
  clear hn
  go_wp2
  go_ret2
  exact ⟨by rw [Hs.out]; rfl, hk⟩
theorem refUpTo11_any (x m : Int) (w : World) :
    Calls Try.prog 46 #[.int .i64 x, .int .i64 m] w fun e w' => e = .returned (.bool (inB 0 m x)) ∧ w = w' := by
  rcases (by omega : x < 0 ∨ (0 ≤ x ∧ x ≤ m) ∨ (0 ≤ x ∧ m < x)) with h | ⟨h, h5⟩ | ⟨h, h5⟩
  · have Hs := Lib.hid (show inB 0 m x = false from inB_false.2 (by omega))
    go_enter Try.func46, Try.ntmps46
    go_wp2
    go_ret
    exact ⟨ret_bool (by rw [Hs.out]; first | done | (simp; done) | (simp; omega)), rfl⟩
  · have Hs := Lib.hid (show inB 0 m x = true from inB_true.2 ⟨h, h5⟩)
    go_enter Try.func46, Try.ntmps46
    go_wp2
    go_ret
    exact ⟨ret_bool (by rw [Hs.out]; first | done | (simp; done) | (simp; omega)), rfl⟩
  · have Hs := Lib.hid (show inB 0 m x = false from inB_false.2 (by omega))
    go_enter Try.func46, Try.ntmps46
    go_wp2
    go_ret
    exact ⟨ret_bool (by rw [Hs.out]; first | done | (simp; done) | (simp; omega)), rfl⟩
theorem refRoom_any (x : Int) (w : World) :
    Calls Try.prog 31 #[.int .i64 x] w fun e w' => e = .returned (.bool (inB 0 4194304 x)) ∧ w = w' := by
  go_enter Try.func31, Try.ntmps31
  go_wp2_with fail
  refine (refUpTo11_any _ _ _).mono ?_
  rintro e w1 ⟨rfl, rfl⟩
  go_wp2
  go_ret
  exact ⟨rfl, rfl⟩
set_option maxHeartbeats 4000000 in
set_option maxRecDepth 20000 in
theorem refClampInline_any (s : Sty) (room x : Int) (w : World) :
    Calls Try.prog 14 #[s.V, .int .i64 room, .int .i64 x] w fun e w' => e = .returned (.tuple #[.int .i64 (clampInS s room x).1, .int .i64 (clampInS s room x).2]) ∧ Kept w w' := by
  have hk : Kept w w := Kept.refl w
  go_enter Try.func14, Try.ntmps14
  go_wp2_with (refine here_load 26 _ rfl ?_; refine wpList_load_own rfl 26 _ rfl _ rfl (Own.new _ _ _) _ Try.underlying26 rfl (by kernel_rfl) ?_)
  go_wp2_with fail
  refine with_boxes1 ?_
  intro X hX st
  have hsz := hk.size
  replace hk := hk.trans hX
  clear hX
  refine (refStyleMay_any s _).mono ?_
  rintro e w1 ⟨rfl, hn⟩
  replace hk := hk.trans hn
  replace st := st.kept hn
  clear hn
  rcases false_first (mayS s) with h | h
  · have Hs := Lib.hid (show clampInS s room x = (0, 1300) from if_neg (by simp [h]))
    go_wp2
    go_ret2
    exact ⟨by rw [Hs.out]; rfl, hk⟩
  rcases false_first (inB 0 4194304 room) with h2 | h2
  · have Hs := Lib.hid (show clampInS s room x = (0, 1300) from if_neg (by simp [h2]))
    go_wp2_with fail
    refine (refRoom_any _ _).mono ?_
    rintro e w1 ⟨rfl, rfl⟩
    go_wp2
    go_ret2
    exact ⟨by rw [Hs.out]; rfl, hk⟩
  go_wp2_with fail
  refine (refRoom_any _ _).mono ?_
  rintro e w1 ⟨rfl, rfl⟩
  rcases false_first (mayB x) with h3 | h3
  · have Hs := Lib.hid (show clampInS s room x = (0, 1300) from if_neg (by simp [h3]))
    go_wp2_with fail
    refine (refMay_any _ _).mono ?_
    rintro e w1 ⟨rfl, rfl⟩
    go_wp2
    go_ret2
    exact ⟨by rw [Hs.out]; rfl, hk⟩
  have Hs := Lib.hid (show clampInS s room x = (max 0 (betweenS s room x), 0) from if_pos ⟨h, h2, h3⟩)
  go_wp2_with fail
  refine (refMay_any _ _).mono ?_
  rintro e w1 ⟨rfl, rfl⟩
  have c4 := st.at 4 _ rfl
  have c5 := st.at 5 _ rfl
  go_wp2_with fail
  refine (refUsedMin_any s room _).mono ?_
  rintro e w1 ⟨rfl, hn⟩
  replace hk := hk.trans hn
  replace st := st.kept hn
  clear hn
  have c6 := st.at 6 _ rfl
  have c7 := st.at 7 _ rfl
  go_wp2_with fail
  refine (refUsedMax_any s room _).mono ?_
  rintro e w1 ⟨rfl, hn⟩
  replace hk := hk.trans hn
  replace st := st.kept hn
  clear hn
  go_wp2_with fail
  refine (refBetween_any s room x _).mono ?_
  rintro e w1 ⟨rfl, rfl⟩
  rcases (by omega : betweenS s room x < 0 ∨ betweenS s room x = 0 ∨ 0 < betweenS s room x) with h | h | h
  all_goals
    go_wp2
    go_ret2
    exact ⟨by rw [Hs.out]; first | rfl | (show Ending.returned (Value.tuple #[.int _ _, _]) = Ending.returned (Value.tuple #[.int _ _, _]); congr 5; omega), hk⟩
end Go.Proofs.Ytpkphohgnelajaa
