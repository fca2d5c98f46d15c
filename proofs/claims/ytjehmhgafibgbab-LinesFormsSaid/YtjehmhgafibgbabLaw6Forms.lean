/- Layer 6: words, places, rooms that may not be. -/
import Derived.Test.YtjehmhgafibgbabAwake6
import Derived.Test.YtjehmhgafibgbabMask
import Derived.Laws.MakeOwn
namespace Go.Proofs.Ytjehmhgafibgbab
open Go.RowKit
set_option linter.unusedSimpArgs false
set_option linter.unusedVariables false
theorem wordInfo : (Try.prog.info? 33).map (fun i => (i.zero, i.size, i.bytes)) = some (some (.agg #[.string ByteArray.empty, .int .i64 0, .int .i64 0]), 3, 32) := by kernel_rfl
def zeroWord : Array Value := #[.string ByteArray.empty, .int .i64 0, .int .i64 0]
theorem make_words (m : Int) (M : Nat) (h0 : 0 ≤ m) (h1 : m ≤ 100000) (hM : m.toNat = M) (w : World) :
    (Instr.makeSlice 22 (.int .i64 m) (.int .i64 m)).run Try.prog w = .ok (.slice (some ⟨w.heap.size, 0, none⟩) M M) (w.alloc (.cells (madeCells zeroWord (M * 3)) 33)) := by
  obtain ⟨i0, hi, hz0, hz1, hz2⟩ := info_parts wordInfo
  have := run_make (P := Try.prog) w 22 33 i0 _ Try.underlying22 hi hz0 .i64 .i64 m m h0 (Int.le_refl _) (by rw [hz2]; omega) (by omega)
  rw [hM, hz1] at this
  exact this
theorem made_word (M i : Nat) (h : i < M) : (madeCells zeroWord (M * 3))[i * 3]? = some (.string ByteArray.empty) ∧ (madeCells zeroWord (M * 3))[i * 3 + 1]? = some (.int .i64 0) ∧ (madeCells zeroWord (M * 3))[i * 3 + 2]? = some (.int .i64 0) := by
  have key : ∀ j, j < M * 3 → (madeCells zeroWord (M * 3))[j]? = some (zeroWord[j % 3]!) := fun j hj => by
    unfold madeCells
    rw [Array.getElem?_map, Array.getElem?_range, if_pos hj]; rfl
  refine ⟨?_, ?_, ?_⟩
  · rw [key _ (by omega), show i * 3 % 3 = 0 by omega]; rfl
  · rw [key _ (by omega), show (i * 3 + 1) % 3 = 1 by omega]; rfl
  · rw [key _ (by omega), show (i * 3 + 2) % 3 = 2 by omega]; rfl
theorem wv_made {w : World} {b M : Nat} {t : TypeId} (h : Own w b t (madeCells zeroWord (M * 3))) (hp : 0 < M) : WV w (.slice (some ⟨b, 0, none⟩) M M) M S0 G0 G0 :=
  wv_lit h hp (Nat.le_refl _) fun i hi => made_word M i hi
theorem a2_may : mayW 2 (advL [5, 6]) = true := by decide
theorem a2_each : lineN (advL [5, 6]) 2 (-1073741824) = 2 :=
  (lineN_each fun f hf => (kS_is _ (-1073741824) hf).unique ⟨fun j hj => by omega, by omega, fun h => by
    match f, h with
    | 0, _ => decide⟩).1
theorem forms_break2 (v : Value) (w : World) (h : WV w v 2 S0 (advL [5, 6]) G0) :
    Calls Try.prog 8 #[v, .int .i64 (-1073741824)] w fun e w' => ∃ o cap, e = .returned (.tuple #[.slice o 2 cap, .int .i64 0]) ∧ Kept w w' :=
  (linesBreak_good v 2 S0 _ G0 w h (-1073741824) a2_may (by decide)).mono fun e w' ⟨u, he, hu, hk⟩ => by
    rw [a2_each] at hu
    rcases hu with ⟨h0, _⟩ | ⟨b, cap, cur, hv, _⟩
    · omega
    · exact ⟨_, cap, by rw [he, hv], hk⟩
theorem forms_break0 (w : World) :
    Calls Try.prog 8 #[.slice none 0 0, .int .i64 9] w fun e w' => ∃ sl cp, e = .returned (.tuple #[.slice sl 0 cp, .int .i64 0]) ∧ Kept w w' :=
  (linesBreak_good _ 0 S0 G0 G0 w (.inl ⟨rfl, none, 0, rfl⟩) 9 rfl (by decide)).mono fun e w' ⟨u, he, hu, hk⟩ => by
    rcases hu with ⟨h0, o, cp, hv, _⟩ | ⟨g, cp, cur, hv, h3, _⟩
    · exact ⟨o, cp, by rw [he, hv], hk⟩
    · have := lineN_le G0 0 9; omega
set_option maxRecDepth 20000 in
set_option maxHeartbeats 2000000 in
theorem linesForms_0 (c x d : Int) (M : Nat) (hi : wrap64 ((IntKind.u64.wrap c).tmod 3) = 0) (q : Int) (hq : bits .and .i64 x 1023 = q) (hqd : 1 + q = d) (d1 : 1 ≤ d) (d2 : d ≤ 1024) (hM : (80 + d).toNat = M) (hMp : 80 < M) (w : World) :
    Calls Try.prog 4 #[.int .i64 c, .int .i64 x] w fun e w' => e = .returned (.bool true) ∧ Kept w w' := by
  have hmk := make_words (80 + d) M (by omega) (by omega) hM
  have hb : mayW 1 (advL [-d]) = false := by unfold mayW; rw [allB_no (k := 0) (by decide) (by rw [inB_false]; show (-d) < 0 ∨ _; omega)]; simp
  have Hb := Lib.hid hb
  have r1 := Lib.hid (show mayB (1073741824 + d) = false by rw [Bool.eq_false_iff, ne_eq, mayB_true]; omega)
  have r2 := Lib.hid (show mayB (-1073741824 - d) = false by rw [Bool.eq_false_iff, ne_eq, mayB_true]; omega)
  replace hM := Lib.hid hM
  have hk : Kept w w := Kept.refl w
  go_enter Try.func4, Try.ntmps4
  go_wp2_with fail
  refine (awake6_any _).mono ?_
  rintro e w1 ⟨rfl, hn⟩
  replace hk := hk.trans hn
  clear hn
  go_wp2_with fail
  refine with_boxes5 ?_
  intro X hX ws b0 b1 b2 bb
  have hsz := hk.size
  replace hk := hk.trans hX
  clear hX
  replace bb_l := bb.lt
  replace bb_0 := bb.at 0 _ rfl
  replace bb_1 := bb.at 1 _ rfl
  replace bb_2 := bb.at 2 _ rfl
  refine (linesFill_wrong _ 1 S0 (advL [-d]) G0 _ (wv_one b0) 0 9 (.inl Hb.out)).mono ?_
  rintro e w1 ⟨rfl, hn⟩
  replace hk := hk.trans hn
  replace ws := ws.kept hn
  replace b0 := b0.kept hn
  replace b1 := b1.kept hn
  replace b2 := b2.kept hn
  replace bb := bb.kept hn
  clear hn
  replace bb_l := bb.lt
  replace bb_0 := bb.at 0 _ rfl
  replace bb_1 := bb.at 1 _ rfl
  replace bb_2 := bb.at 2 _ rfl
  clear hmk
  go_wp2_with fail
  refine with_boxes1 ?_
  intro X hX B0
  have hsz := hk.size
  replace hk := hk.trans hX
  replace ws := ws.kept hX
  replace b0 := b0.kept hX
  replace b1 := b1.kept hX
  replace b2 := b2.kept hX
  replace bb := bb.kept hX
  clear hX B0
  replace bb_l := bb.lt
  replace bb_0 := bb.at 0 _ rfl
  replace bb_1 := bb.at 1 _ rfl
  replace bb_2 := bb.at 2 _ rfl
  refine (linesBreak_wrong _ 1 S0 (advL [-d]) G0 _ (wv_one b0) 9 (.inl Hb.out)).mono ?_
  rintro e w1 ⟨rfl, hn⟩
  replace hk := hk.trans hn
  replace ws := ws.kept hn
  replace b0 := b0.kept hn
  replace b1 := b1.kept hn
  replace b2 := b2.kept hn
  replace bb := bb.kept hn
  clear hn
  replace bb_l := bb.lt
  replace bb_0 := bb.at 0 _ rfl
  replace bb_1 := bb.at 1 _ rfl
  replace bb_2 := bb.at 2 _ rfl
  go_wp2_with fail
  refine (linesFill_wrong _ 2 S0 _ G0 _ (wv_two ws) (-d) 9 (.inr (.inl (by omega)))).mono ?_
  rintro e w1 ⟨rfl, hn⟩
  replace hk := hk.trans hn
  replace ws := ws.kept hn
  replace b0 := b0.kept hn
  replace b1 := b1.kept hn
  replace b2 := b2.kept hn
  replace bb := bb.kept hn
  clear hn
  replace bb_l := bb.lt
  replace bb_0 := bb.at 0 _ rfl
  replace bb_1 := bb.at 1 _ rfl
  replace bb_2 := bb.at 2 _ rfl
  go_wp2_with fail
  refine with_boxes1 ?_
  intro X hX B0
  have hsz := hk.size
  replace hk := hk.trans hX
  replace ws := ws.kept hX
  replace b0 := b0.kept hX
  replace b1 := b1.kept hX
  replace b2 := b2.kept hX
  replace bb := bb.kept hX
  clear hX B0
  replace bb_l := bb.lt
  replace bb_0 := bb.at 0 _ rfl
  replace bb_1 := bb.at 1 _ rfl
  replace bb_2 := bb.at 2 _ rfl
  refine (linesFill_wrong _ 2 S0 _ G0 _ (wv_two ws) (1 + d) 9 (.inr (.inr (.inl (by simp; omega))))).mono ?_
  rintro e w1 ⟨rfl, hn⟩
  replace hk := hk.trans hn
  replace ws := ws.kept hn
  replace b0 := b0.kept hn
  replace b1 := b1.kept hn
  replace b2 := b2.kept hn
  replace bb := bb.kept hn
  clear hn
  replace bb_l := bb.lt
  replace bb_0 := bb.at 0 _ rfl
  replace bb_1 := bb.at 1 _ rfl
  replace bb_2 := bb.at 2 _ rfl
  go_wp2_with fail
  refine with_boxes1 ?_
  intro X hX B0
  have hsz := hk.size
  replace hk := hk.trans hX
  replace ws := ws.kept hX
  replace b0 := b0.kept hX
  replace b1 := b1.kept hX
  replace b2 := b2.kept hX
  replace bb := bb.kept hX
  clear hX B0
  replace bb_l := bb.lt
  replace bb_0 := bb.at 0 _ rfl
  replace bb_1 := bb.at 1 _ rfl
  replace bb_2 := bb.at 2 _ rfl
  refine (linesFill_wrong _ 2 S0 _ G0 _ (wv_two ws) 0 (1073741824 + d) (.inr (.inr (.inr r1.out)))).mono ?_
  rintro e w1 ⟨rfl, hn⟩
  replace hk := hk.trans hn
  replace ws := ws.kept hn
  replace b0 := b0.kept hn
  replace b1 := b1.kept hn
  replace b2 := b2.kept hn
  replace bb := bb.kept hn
  clear hn
  replace bb_l := bb.lt
  replace bb_0 := bb.at 0 _ rfl
  replace bb_1 := bb.at 1 _ rfl
  replace bb_2 := bb.at 2 _ rfl
  go_wp2_with fail
  refine with_boxes1 ?_
  intro X hX B0
  have hsz := hk.size
  replace hk := hk.trans hX
  replace ws := ws.kept hX
  replace b0 := b0.kept hX
  replace b1 := b1.kept hX
  replace b2 := b2.kept hX
  replace bb := bb.kept hX
  clear hX B0
  replace bb_l := bb.lt
  replace bb_0 := bb.at 0 _ rfl
  replace bb_1 := bb.at 1 _ rfl
  replace bb_2 := bb.at 2 _ rfl
  refine (linesBreak_wrong _ 2 S0 _ G0 _ (wv_two ws) (-1073741824 - d) (.inr r2.out)).mono ?_
  rintro e w1 ⟨rfl, hn⟩
  replace hk := hk.trans hn
  replace ws := ws.kept hn
  replace b0 := b0.kept hn
  replace b1 := b1.kept hn
  replace b2 := b2.kept hn
  replace bb := bb.kept hn
  clear hn
  replace bb_l := bb.lt
  replace bb_0 := bb.at 0 _ rfl
  replace bb_1 := bb.at 1 _ rfl
  replace bb_2 := bb.at 2 _ rfl
  go_wp2_with fail
  refine (forms_break0 _).mono ?_
  rintro e w1 ⟨s1, c1, rfl, hn⟩
  replace hk := hk.trans hn
  replace ws := ws.kept hn
  replace b0 := b0.kept hn
  replace b1 := b1.kept hn
  replace b2 := b2.kept hn
  replace bb := bb.kept hn
  clear hn
  replace bb_l := bb.lt
  replace bb_0 := bb.at 0 _ rfl
  replace bb_1 := bb.at 1 _ rfl
  replace bb_2 := bb.at 2 _ rfl
  go_wp2_with fail
  refine (forms_break2 _ _ (wv_two ws)).mono ?_
  rintro e w1 ⟨s2, c2, rfl, hn⟩
  replace hk := hk.trans hn
  replace ws := ws.kept hn
  replace b0 := b0.kept hn
  replace b1 := b1.kept hn
  replace b2 := b2.kept hn
  replace bb := bb.kept hn
  clear hn
  replace bb_l := bb.lt
  replace bb_0 := bb.at 0 _ rfl
  replace bb_1 := bb.at 1 _ rfl
  replace bb_2 := bb.at 2 _ rfl
  go_wp2_with fail
  refine (linesMay_any _ 1 S0 (advL [-d]) G0 _ (wv_one b0)).mono ?_
  rintro e w1 ⟨rfl, hn⟩
  replace hk := hk.trans hn
  replace ws := ws.kept hn
  replace b0 := b0.kept hn
  replace b1 := b1.kept hn
  replace b2 := b2.kept hn
  replace bb := bb.kept hn
  clear hn
  replace bb_l := bb.lt
  replace bb_0 := bb.at 0 _ rfl
  replace bb_1 := bb.at 1 _ rfl
  replace bb_2 := bb.at 2 _ rfl
  go_wp2_with fail
  refine (num_any _ _).mono ?_
  rintro e w1 ⟨rfl, rfl⟩
  go_wp2_with fail
  refine (num_any _ _).mono ?_
  rintro e w1 ⟨rfl, rfl⟩
  go_wp2_with fail
  refine (num_any _ _).mono ?_
  rintro e w1 ⟨rfl, rfl⟩
  go_wp2_with fail
  refine (num_any _ _).mono ?_
  rintro e w1 ⟨rfl, rfl⟩
  go_wp2_with fail
  refine (num_any _ _).mono ?_
  rintro e w1 ⟨rfl, rfl⟩
  go_wp2_with fail
  refine (num_any _ _).mono ?_
  rintro e w1 ⟨rfl, rfl⟩
  go_wp2_with fail
  refine (num_any _ _).mono ?_
  rintro e w1 ⟨rfl, rfl⟩
  go_wp2_with fail
  refine (num_any _ _).mono ?_
  rintro e w1 ⟨rfl, rfl⟩
  go_wp2
  go_ret
  exact ⟨rfl, hk⟩
set_option maxRecDepth 20000 in
set_option maxHeartbeats 2000000 in
theorem linesForms_1 (c x d : Int) (M : Nat) (hi : wrap64 ((IntKind.u64.wrap c).tmod 3) = 1) (q : Int) (hq : bits .and .i64 x 1023 = q) (hqd : 1 + q = d) (d1 : 1 ≤ d) (d2 : d ≤ 1024) (hM : (80 + d).toNat = M) (hMp : 80 < M) (w : World) :
    Calls Try.prog 4 #[.int .i64 c, .int .i64 x] w fun e w' => e = .returned (.bool true) ∧ Kept w w' := by
  have hmk := make_words (80 + d) M (by omega) (by omega) hM
  have hb : mayW 1 (advL [4194304 + d]) = false := by unfold mayW; rw [allB_no (k := 0) (by decide) (by rw [inB_false]; show (4194304 + d) < 0 ∨ 4194304 < (4194304 + d); omega)]; simp
  have Hb := Lib.hid hb
  have r1 := Lib.hid (show mayB (1073741824 + d) = false by rw [Bool.eq_false_iff, ne_eq, mayB_true]; omega)
  have r2 := Lib.hid (show mayB (-1073741824 - d) = false by rw [Bool.eq_false_iff, ne_eq, mayB_true]; omega)
  replace hM := Lib.hid hM
  have hk : Kept w w := Kept.refl w
  go_enter Try.func4, Try.ntmps4
  go_wp2_with fail
  refine (awake6_any _).mono ?_
  rintro e w1 ⟨rfl, hn⟩
  replace hk := hk.trans hn
  clear hn
  go_wp2_with fail
  refine with_boxes5 ?_
  intro X hX ws b0 b1 b2 bb
  have hsz := hk.size
  replace hk := hk.trans hX
  clear hX
  replace bb_l := bb.lt
  replace bb_0 := bb.at 0 _ rfl
  replace bb_1 := bb.at 1 _ rfl
  replace bb_2 := bb.at 2 _ rfl
  refine (linesFill_wrong _ 1 S0 (advL [4194304 + d]) G0 _ (wv_one b1) 0 9 (.inl Hb.out)).mono ?_
  rintro e w1 ⟨rfl, hn⟩
  replace hk := hk.trans hn
  replace ws := ws.kept hn
  replace b0 := b0.kept hn
  replace b1 := b1.kept hn
  replace b2 := b2.kept hn
  replace bb := bb.kept hn
  clear hn
  replace bb_l := bb.lt
  replace bb_0 := bb.at 0 _ rfl
  replace bb_1 := bb.at 1 _ rfl
  replace bb_2 := bb.at 2 _ rfl
  clear hmk
  go_wp2_with fail
  refine with_boxes1 ?_
  intro X hX B0
  have hsz := hk.size
  replace hk := hk.trans hX
  replace ws := ws.kept hX
  replace b0 := b0.kept hX
  replace b1 := b1.kept hX
  replace b2 := b2.kept hX
  replace bb := bb.kept hX
  clear hX B0
  replace bb_l := bb.lt
  replace bb_0 := bb.at 0 _ rfl
  replace bb_1 := bb.at 1 _ rfl
  replace bb_2 := bb.at 2 _ rfl
  refine (linesBreak_wrong _ 1 S0 (advL [4194304 + d]) G0 _ (wv_one b1) 9 (.inl Hb.out)).mono ?_
  rintro e w1 ⟨rfl, hn⟩
  replace hk := hk.trans hn
  replace ws := ws.kept hn
  replace b0 := b0.kept hn
  replace b1 := b1.kept hn
  replace b2 := b2.kept hn
  replace bb := bb.kept hn
  clear hn
  replace bb_l := bb.lt
  replace bb_0 := bb.at 0 _ rfl
  replace bb_1 := bb.at 1 _ rfl
  replace bb_2 := bb.at 2 _ rfl
  go_wp2_with fail
  refine (linesFill_wrong _ 2 S0 _ G0 _ (wv_two ws) (-d) 9 (.inr (.inl (by omega)))).mono ?_
  rintro e w1 ⟨rfl, hn⟩
  replace hk := hk.trans hn
  replace ws := ws.kept hn
  replace b0 := b0.kept hn
  replace b1 := b1.kept hn
  replace b2 := b2.kept hn
  replace bb := bb.kept hn
  clear hn
  replace bb_l := bb.lt
  replace bb_0 := bb.at 0 _ rfl
  replace bb_1 := bb.at 1 _ rfl
  replace bb_2 := bb.at 2 _ rfl
  go_wp2_with fail
  refine with_boxes1 ?_
  intro X hX B0
  have hsz := hk.size
  replace hk := hk.trans hX
  replace ws := ws.kept hX
  replace b0 := b0.kept hX
  replace b1 := b1.kept hX
  replace b2 := b2.kept hX
  replace bb := bb.kept hX
  clear hX B0
  replace bb_l := bb.lt
  replace bb_0 := bb.at 0 _ rfl
  replace bb_1 := bb.at 1 _ rfl
  replace bb_2 := bb.at 2 _ rfl
  refine (linesFill_wrong _ 2 S0 _ G0 _ (wv_two ws) (1 + d) 9 (.inr (.inr (.inl (by simp; omega))))).mono ?_
  rintro e w1 ⟨rfl, hn⟩
  replace hk := hk.trans hn
  replace ws := ws.kept hn
  replace b0 := b0.kept hn
  replace b1 := b1.kept hn
  replace b2 := b2.kept hn
  replace bb := bb.kept hn
  clear hn
  replace bb_l := bb.lt
  replace bb_0 := bb.at 0 _ rfl
  replace bb_1 := bb.at 1 _ rfl
  replace bb_2 := bb.at 2 _ rfl
  go_wp2_with fail
  refine with_boxes1 ?_
  intro X hX B0
  have hsz := hk.size
  replace hk := hk.trans hX
  replace ws := ws.kept hX
  replace b0 := b0.kept hX
  replace b1 := b1.kept hX
  replace b2 := b2.kept hX
  replace bb := bb.kept hX
  clear hX B0
  replace bb_l := bb.lt
  replace bb_0 := bb.at 0 _ rfl
  replace bb_1 := bb.at 1 _ rfl
  replace bb_2 := bb.at 2 _ rfl
  refine (linesFill_wrong _ 2 S0 _ G0 _ (wv_two ws) 0 (1073741824 + d) (.inr (.inr (.inr r1.out)))).mono ?_
  rintro e w1 ⟨rfl, hn⟩
  replace hk := hk.trans hn
  replace ws := ws.kept hn
  replace b0 := b0.kept hn
  replace b1 := b1.kept hn
  replace b2 := b2.kept hn
  replace bb := bb.kept hn
  clear hn
  replace bb_l := bb.lt
  replace bb_0 := bb.at 0 _ rfl
  replace bb_1 := bb.at 1 _ rfl
  replace bb_2 := bb.at 2 _ rfl
  go_wp2_with fail
  refine with_boxes1 ?_
  intro X hX B0
  have hsz := hk.size
  replace hk := hk.trans hX
  replace ws := ws.kept hX
  replace b0 := b0.kept hX
  replace b1 := b1.kept hX
  replace b2 := b2.kept hX
  replace bb := bb.kept hX
  clear hX B0
  replace bb_l := bb.lt
  replace bb_0 := bb.at 0 _ rfl
  replace bb_1 := bb.at 1 _ rfl
  replace bb_2 := bb.at 2 _ rfl
  refine (linesBreak_wrong _ 2 S0 _ G0 _ (wv_two ws) (-1073741824 - d) (.inr r2.out)).mono ?_
  rintro e w1 ⟨rfl, hn⟩
  replace hk := hk.trans hn
  replace ws := ws.kept hn
  replace b0 := b0.kept hn
  replace b1 := b1.kept hn
  replace b2 := b2.kept hn
  replace bb := bb.kept hn
  clear hn
  replace bb_l := bb.lt
  replace bb_0 := bb.at 0 _ rfl
  replace bb_1 := bb.at 1 _ rfl
  replace bb_2 := bb.at 2 _ rfl
  go_wp2_with fail
  refine (forms_break0 _).mono ?_
  rintro e w1 ⟨s1, c1, rfl, hn⟩
  replace hk := hk.trans hn
  replace ws := ws.kept hn
  replace b0 := b0.kept hn
  replace b1 := b1.kept hn
  replace b2 := b2.kept hn
  replace bb := bb.kept hn
  clear hn
  replace bb_l := bb.lt
  replace bb_0 := bb.at 0 _ rfl
  replace bb_1 := bb.at 1 _ rfl
  replace bb_2 := bb.at 2 _ rfl
  go_wp2_with fail
  refine (forms_break2 _ _ (wv_two ws)).mono ?_
  rintro e w1 ⟨s2, c2, rfl, hn⟩
  replace hk := hk.trans hn
  replace ws := ws.kept hn
  replace b0 := b0.kept hn
  replace b1 := b1.kept hn
  replace b2 := b2.kept hn
  replace bb := bb.kept hn
  clear hn
  replace bb_l := bb.lt
  replace bb_0 := bb.at 0 _ rfl
  replace bb_1 := bb.at 1 _ rfl
  replace bb_2 := bb.at 2 _ rfl
  go_wp2_with fail
  refine (linesMay_any _ 1 S0 (advL [4194304 + d]) G0 _ (wv_one b1)).mono ?_
  rintro e w1 ⟨rfl, hn⟩
  replace hk := hk.trans hn
  replace ws := ws.kept hn
  replace b0 := b0.kept hn
  replace b1 := b1.kept hn
  replace b2 := b2.kept hn
  replace bb := bb.kept hn
  clear hn
  replace bb_l := bb.lt
  replace bb_0 := bb.at 0 _ rfl
  replace bb_1 := bb.at 1 _ rfl
  replace bb_2 := bb.at 2 _ rfl
  go_wp2_with fail
  refine (num_any _ _).mono ?_
  rintro e w1 ⟨rfl, rfl⟩
  go_wp2_with fail
  refine (num_any _ _).mono ?_
  rintro e w1 ⟨rfl, rfl⟩
  go_wp2_with fail
  refine (num_any _ _).mono ?_
  rintro e w1 ⟨rfl, rfl⟩
  go_wp2_with fail
  refine (num_any _ _).mono ?_
  rintro e w1 ⟨rfl, rfl⟩
  go_wp2_with fail
  refine (num_any _ _).mono ?_
  rintro e w1 ⟨rfl, rfl⟩
  go_wp2_with fail
  refine (num_any _ _).mono ?_
  rintro e w1 ⟨rfl, rfl⟩
  go_wp2_with fail
  refine (num_any _ _).mono ?_
  rintro e w1 ⟨rfl, rfl⟩
  go_wp2_with fail
  refine (num_any _ _).mono ?_
  rintro e w1 ⟨rfl, rfl⟩
  go_wp2
  go_ret
  exact ⟨rfl, hk⟩
set_option maxRecDepth 20000 in
set_option maxHeartbeats 2000000 in
theorem linesForms_2 (c x d : Int) (M : Nat) (hi : wrap64 ((IntKind.u64.wrap c).tmod 3) = 2) (q : Int) (hq : bits .and .i64 x 1023 = q) (hqd : 1 + q = d) (d1 : 1 ≤ d) (d2 : d ≤ 1024) (hM : (80 + d).toNat = M) (hMp : 80 < M) (w : World) :
    Calls Try.prog 4 #[.int .i64 c, .int .i64 x] w fun e w' => e = .returned (.bool true) ∧ Kept w w' := by
  have hmk := make_words (80 + d) M (by omega) (by omega) hM
  have hb : mayW M G0 = false := by unfold mayW; rw [decide_eq_false (by omega)]; rfl
  have Hb := Lib.hid hb
  have r1 := Lib.hid (show mayB (1073741824 + d) = false by rw [Bool.eq_false_iff, ne_eq, mayB_true]; omega)
  have r2 := Lib.hid (show mayB (-1073741824 - d) = false by rw [Bool.eq_false_iff, ne_eq, mayB_true]; omega)
  replace hM := Lib.hid hM
  have hk : Kept w w := Kept.refl w
  go_enter Try.func4, Try.ntmps4
  go_wp2_with fail
  refine (awake6_any _).mono ?_
  rintro e w1 ⟨rfl, hn⟩
  replace hk := hk.trans hn
  clear hn
  go_wp2_with fail
  refine with_boxes5 ?_
  intro X hX ws b0 b1 b2 bb
  have hsz := hk.size
  replace hk := hk.trans hX
  clear hX
  replace bb_l := bb.lt
  replace bb_0 := bb.at 0 _ rfl
  replace bb_1 := bb.at 1 _ rfl
  replace bb_2 := bb.at 2 _ rfl
  refine (linesFill_wrong _ M S0 G0 G0 _ (wv_made b2 (by omega)) 0 9 (.inl Hb.out)).mono ?_
  rintro e w1 ⟨rfl, hn⟩
  replace hk := hk.trans hn
  replace ws := ws.kept hn
  replace b0 := b0.kept hn
  replace b1 := b1.kept hn
  replace b2 := b2.kept hn
  replace bb := bb.kept hn
  clear hn
  replace bb_l := bb.lt
  replace bb_0 := bb.at 0 _ rfl
  replace bb_1 := bb.at 1 _ rfl
  replace bb_2 := bb.at 2 _ rfl
  clear hmk
  go_wp2_with fail
  refine with_boxes1 ?_
  intro X hX B0
  have hsz := hk.size
  replace hk := hk.trans hX
  replace ws := ws.kept hX
  replace b0 := b0.kept hX
  replace b1 := b1.kept hX
  replace b2 := b2.kept hX
  replace bb := bb.kept hX
  clear hX B0
  replace bb_l := bb.lt
  replace bb_0 := bb.at 0 _ rfl
  replace bb_1 := bb.at 1 _ rfl
  replace bb_2 := bb.at 2 _ rfl
  refine (linesBreak_wrong _ M S0 G0 G0 _ (wv_made b2 (by omega)) 9 (.inl Hb.out)).mono ?_
  rintro e w1 ⟨rfl, hn⟩
  replace hk := hk.trans hn
  replace ws := ws.kept hn
  replace b0 := b0.kept hn
  replace b1 := b1.kept hn
  replace b2 := b2.kept hn
  replace bb := bb.kept hn
  clear hn
  replace bb_l := bb.lt
  replace bb_0 := bb.at 0 _ rfl
  replace bb_1 := bb.at 1 _ rfl
  replace bb_2 := bb.at 2 _ rfl
  go_wp2_with fail
  refine (linesFill_wrong _ 2 S0 _ G0 _ (wv_two ws) (-d) 9 (.inr (.inl (by omega)))).mono ?_
  rintro e w1 ⟨rfl, hn⟩
  replace hk := hk.trans hn
  replace ws := ws.kept hn
  replace b0 := b0.kept hn
  replace b1 := b1.kept hn
  replace b2 := b2.kept hn
  replace bb := bb.kept hn
  clear hn
  replace bb_l := bb.lt
  replace bb_0 := bb.at 0 _ rfl
  replace bb_1 := bb.at 1 _ rfl
  replace bb_2 := bb.at 2 _ rfl
  go_wp2_with fail
  refine with_boxes1 ?_
  intro X hX B0
  have hsz := hk.size
  replace hk := hk.trans hX
  replace ws := ws.kept hX
  replace b0 := b0.kept hX
  replace b1 := b1.kept hX
  replace b2 := b2.kept hX
  replace bb := bb.kept hX
  clear hX B0
  replace bb_l := bb.lt
  replace bb_0 := bb.at 0 _ rfl
  replace bb_1 := bb.at 1 _ rfl
  replace bb_2 := bb.at 2 _ rfl
  refine (linesFill_wrong _ 2 S0 _ G0 _ (wv_two ws) (1 + d) 9 (.inr (.inr (.inl (by simp; omega))))).mono ?_
  rintro e w1 ⟨rfl, hn⟩
  replace hk := hk.trans hn
  replace ws := ws.kept hn
  replace b0 := b0.kept hn
  replace b1 := b1.kept hn
  replace b2 := b2.kept hn
  replace bb := bb.kept hn
  clear hn
  replace bb_l := bb.lt
  replace bb_0 := bb.at 0 _ rfl
  replace bb_1 := bb.at 1 _ rfl
  replace bb_2 := bb.at 2 _ rfl
  go_wp2_with fail
  refine with_boxes1 ?_
  intro X hX B0
  have hsz := hk.size
  replace hk := hk.trans hX
  replace ws := ws.kept hX
  replace b0 := b0.kept hX
  replace b1 := b1.kept hX
  replace b2 := b2.kept hX
  replace bb := bb.kept hX
  clear hX B0
  replace bb_l := bb.lt
  replace bb_0 := bb.at 0 _ rfl
  replace bb_1 := bb.at 1 _ rfl
  replace bb_2 := bb.at 2 _ rfl
  refine (linesFill_wrong _ 2 S0 _ G0 _ (wv_two ws) 0 (1073741824 + d) (.inr (.inr (.inr r1.out)))).mono ?_
  rintro e w1 ⟨rfl, hn⟩
  replace hk := hk.trans hn
  replace ws := ws.kept hn
  replace b0 := b0.kept hn
  replace b1 := b1.kept hn
  replace b2 := b2.kept hn
  replace bb := bb.kept hn
  clear hn
  replace bb_l := bb.lt
  replace bb_0 := bb.at 0 _ rfl
  replace bb_1 := bb.at 1 _ rfl
  replace bb_2 := bb.at 2 _ rfl
  go_wp2_with fail
  refine with_boxes1 ?_
  intro X hX B0
  have hsz := hk.size
  replace hk := hk.trans hX
  replace ws := ws.kept hX
  replace b0 := b0.kept hX
  replace b1 := b1.kept hX
  replace b2 := b2.kept hX
  replace bb := bb.kept hX
  clear hX B0
  replace bb_l := bb.lt
  replace bb_0 := bb.at 0 _ rfl
  replace bb_1 := bb.at 1 _ rfl
  replace bb_2 := bb.at 2 _ rfl
  refine (linesBreak_wrong _ 2 S0 _ G0 _ (wv_two ws) (-1073741824 - d) (.inr r2.out)).mono ?_
  rintro e w1 ⟨rfl, hn⟩
  replace hk := hk.trans hn
  replace ws := ws.kept hn
  replace b0 := b0.kept hn
  replace b1 := b1.kept hn
  replace b2 := b2.kept hn
  replace bb := bb.kept hn
  clear hn
  replace bb_l := bb.lt
  replace bb_0 := bb.at 0 _ rfl
  replace bb_1 := bb.at 1 _ rfl
  replace bb_2 := bb.at 2 _ rfl
  go_wp2_with fail
  refine (forms_break0 _).mono ?_
  rintro e w1 ⟨s1, c1, rfl, hn⟩
  replace hk := hk.trans hn
  replace ws := ws.kept hn
  replace b0 := b0.kept hn
  replace b1 := b1.kept hn
  replace b2 := b2.kept hn
  replace bb := bb.kept hn
  clear hn
  replace bb_l := bb.lt
  replace bb_0 := bb.at 0 _ rfl
  replace bb_1 := bb.at 1 _ rfl
  replace bb_2 := bb.at 2 _ rfl
  go_wp2_with fail
  refine (forms_break2 _ _ (wv_two ws)).mono ?_
  rintro e w1 ⟨s2, c2, rfl, hn⟩
  replace hk := hk.trans hn
  replace ws := ws.kept hn
  replace b0 := b0.kept hn
  replace b1 := b1.kept hn
  replace b2 := b2.kept hn
  replace bb := bb.kept hn
  clear hn
  replace bb_l := bb.lt
  replace bb_0 := bb.at 0 _ rfl
  replace bb_1 := bb.at 1 _ rfl
  replace bb_2 := bb.at 2 _ rfl
  go_wp2_with fail
  refine (linesMay_any _ M S0 G0 G0 _ (wv_made b2 (by omega))).mono ?_
  rintro e w1 ⟨rfl, hn⟩
  replace hk := hk.trans hn
  replace ws := ws.kept hn
  replace b0 := b0.kept hn
  replace b1 := b1.kept hn
  replace b2 := b2.kept hn
  replace bb := bb.kept hn
  clear hn
  replace bb_l := bb.lt
  replace bb_0 := bb.at 0 _ rfl
  replace bb_1 := bb.at 1 _ rfl
  replace bb_2 := bb.at 2 _ rfl
  go_wp2_with fail
  refine (num_any _ _).mono ?_
  rintro e w1 ⟨rfl, rfl⟩
  go_wp2_with fail
  refine (num_any _ _).mono ?_
  rintro e w1 ⟨rfl, rfl⟩
  go_wp2_with fail
  refine (num_any _ _).mono ?_
  rintro e w1 ⟨rfl, rfl⟩
  go_wp2_with fail
  refine (num_any _ _).mono ?_
  rintro e w1 ⟨rfl, rfl⟩
  go_wp2_with fail
  refine (num_any _ _).mono ?_
  rintro e w1 ⟨rfl, rfl⟩
  go_wp2_with fail
  refine (num_any _ _).mono ?_
  rintro e w1 ⟨rfl, rfl⟩
  go_wp2_with fail
  refine (num_any _ _).mono ?_
  rintro e w1 ⟨rfl, rfl⟩
  go_wp2_with fail
  refine (num_any _ _).mono ?_
  rintro e w1 ⟨rfl, rfl⟩
  go_wp2
  go_ret
  exact ⟨rfl, hk⟩
theorem linesForms_walk (c x : Int) (w : World) :
    Calls Try.prog 4 #[.int .i64 c, .int .i64 x] w fun e w' => e = .returned (.bool true) ∧ Kept w w' := by
  obtain ⟨q, hq, q1, q2⟩ := masked x 10 1023 (by decide) (by decide)
  obtain ⟨i, hi, i1, i2⟩ := urest c 3 (by decide) (by decide)
  rcases (by omega : i = 0 ∨ i = 1 ∨ i = 2) with rfl | rfl | rfl
  · exact linesForms_0 c x (1 + q) _ hi q hq rfl (by omega) (by omega) rfl (by omega) w
  · exact linesForms_1 c x (1 + q) _ hi q hq rfl (by omega) (by omega) rfl (by omega) w
  · exact linesForms_2 c x (1 + q) _ hi q hq rfl (by omega) (by omega) rfl (by omega) w
end Go.Proofs.Ytjehmhgafibgbab
