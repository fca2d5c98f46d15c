/- Layer 5: words.Split. -/
import Derived.Test.YtbegdnpckjfgbaaWordsS
import Derived.Test.YtbegdnpckjfgbaaClone
import Derived.Test.YtbegdnpckjfgbaaShape
import Derived.Laws.OwnMore
namespace Go.Proofs.Ytbegdnpckjfgbaa
open Go.RowKit Go.Lib
set_option linter.unusedSimpArgs false
set_option linter.unusedVariables false
set_option maxHeartbeats 1000000 in
theorem word_any (s : ByteArray) (w : World) (hm : s.size ≤ 140737488351232) :
    Calls Try.prog 37 #[.string s] w fun e w' => e = .returned (.agg #[.string s, .int .i64 (widthS s), .int .i64 0]) ∧ Kept w w' := by
  have Hs := Lib.hid (rfl : widthS s = widthS s)
  have hk : Kept w w := Kept.refl w
  go_enter Try.func37, Try.ntmps37
  go_wp2_with fail
  refine with_boxes1 ?_
  intro X hX o
  have hsz := hk.size
  replace hk := hk.trans hX
  clear hX
  refine (clone_any _ _ hm).mono ?_
  rintro e w1 ⟨rfl, hn⟩
  replace hk := hk.trans hn
  replace o := o.kept hn
  clear hn
  go_wp2_with fail
  refine (glyphWidth_any _ _).mono ?_
  rintro e w1 ⟨rfl, hn⟩
  replace hk := hk.trans hn
  replace o := o.kept hn
  clear hn
  replace o_l := o.lt
  replace o_0 := o.at 0 _ rfl
  replace o_f0 := o.free 0
  replace o_1 := o.at 1 _ rfl
  replace o_f1 := o.free 1
  replace o_2 := o.at 2 _ rfl
  replace o_f2 := o.free 2
  go_wp2
  exact bodyPost_ret (v := .agg #[.string s, .int .i64 (widthS s), .int .i64 0]) (by simp [results, Try.results37, go_sem, o_0, o_1, o_2, o_l]) rfl ⟨by first | (rw [Hs.out]; done) | rfl, (by first | ((repeat (first | with_reducible exact hk | with_reducible refine Kept.alloc ?_ _ | with_reducible refine Kept.drew ?_ | with_reducible refine Kept.drewN ?_ _ | with_reducible refine Kept.set ?_ (by first | (simp; done) | (simp; omega) | omega) _)); done) | exact hk | exact (hk.alloc _) | exact ((hk.alloc _).alloc _) | exact (((hk.alloc _).alloc _).alloc _) | exact ((((hk.alloc _).alloc _).alloc _).alloc _) | exact (((((hk.alloc _).alloc _).alloc _).alloc _).alloc _) | exact ((((((hk.alloc _).alloc _).alloc _).alloc _).alloc _).alloc _) | (repeat (first | exact hk | refine Kept.alloc ?_ _ | refine Kept.drew ?_ | refine Kept.drewN ?_ _ | refine Kept.set ?_ (by first | (simp; done) | (simp; omega) | omega) _)))⟩
/-- the iterator's block -/
def Iter (w : World) (k : Nat) (s : ByteArray) (pos : Nat) : Prop := w.heap[k]? = some (.stringIter s pos)
theorem Iter.lt {w : World} {k : Nat} {s : ByteArray} {pos : Nat} (h : Iter w k s pos) : k < w.heap.size := (Array.getElem?_eq_some_iff.1 h).1
theorem Iter.kept {w w' : World} {k : Nat} {s : ByteArray} {pos : Nat} (h : Iter w k s pos) (hk : Kept w w') : Iter w' k s pos := (hk.below.block k h.lt).trans h
theorem Iter.alloc {w : World} {k : Nat} {s : ByteArray} {pos : Nat} (h : Iter w k s pos) (o : Obj) : Iter (w.alloc o) k s pos := h.kept ((Kept.refl w).alloc o)
theorem Iter.grown {w w' : World} {k : Nat} {s : ByteArray} {pos : Nat} (h : Iter w k s pos) {row : Option Nat} (hg : w.grownBy w' row) (hr : ∀ q, row = some q → k < q) : Iter w' k s pos :=
  (hg.block k h.lt (fun e => by have := hr k e.symm; omega)).trans h
theorem Iter.set {w : World} {k : Nat} {s : ByteArray} {pos : Nat} (h : Iter w k s pos) {p : Addr} (hp : k < p.block) (v : Value) : Iter (w.setCell p v) k s pos := (Below.heap_setCell w p v k (by omega)).trans h
theorem Iter.pos {w : World} {k : Nat} {s : ByteArray} {pos : Nat} (h : Iter w k s pos) : w.iterPos k = pos := by unfold World.iterPos; rw [h]
theorem iter_new (w : World) (s : ByteArray) : Iter (w.iter s 0) w.heap.size s 0 := World.iter_heap w s 0
theorem owns_iter {w : World} {base : Nat} {e : TypeId} {size : Nat} {v : Value} {n : Nat} {xs : List Value} (h : w.ownsRow base e size v n xs) {k : Nat} (hk : k < base) (s : ByteArray) (pos : Nat) : (w.iterAt k s pos).ownsRow base e size v n xs := by
  refine ⟨h.1, ?_⟩
  rcases h.2 with h0 | ⟨g, cap, cur, hv, hb, hh, rest⟩
  · exact .inl h0
  · exact .inr ⟨g, cap, cur, hv, hb, (iterAt_other w k g s pos (by omega)).trans hh, rest⟩
theorem kept_iter {a w : World} (h : Kept a w) {k : Nat} (hk : a.heap.size ≤ k) (s : ByteArray) (pos : Nat) : Kept a (w.iterAt k s pos) := ⟨below_iterAt h.below hk s pos⟩
theorem wordsSplit_long (s : ByteArray) (w : World) (hs : 80 < s.size) (hm : s.size ≤ 140737488351232) :
    Calls Try.prog 16 #[.string s] w fun e w' => e = .returned (.tuple #[.slice none 0 0, .int .i64 500]) ∧ Kept w w' := by
  have hk : Kept w w := Kept.refl w
  go_enter Try.func16, Try.ntmps16
  go_wp2
  go_ret2
  exact ⟨rfl, hk⟩
set_option maxRecDepth 100000 in
set_option maxHeartbeats 4000000 in
theorem wordsSplit_ok (s : ByteArray) (w : World) (hs : s.size ≤ 80) :
    Calls Try.prog 16 #[.string s] w fun e w' => ∃ u, e = .returned (.tuple #[u, .int .i64 0]) ∧ w'.ownsRow (w.heap.size + 1) 36 3 u (wN s) (three (vs (wT s)) (vi (wA s)) (vi (wG s)) (wN s)) ∧ Kept w w' := by
  obtain ⟨i0, hi, hz0, hz1, hz2⟩ := info_parts wordInfo2
  obtain ⟨m, hm⟩ : ∃ m, s.size = m := ⟨_, rfl⟩
  have hNs : wN s = nW (spA s) m := by unfold wN; rw [hm]
  have hTs : ∀ j, wT s j = s.extract (bW (spA s) m j) (eW (spA s) m j) := by intro j; unfold wT; rw [hm]
  have hGs : ∀ j, wG s j = ((bW (spA s) m (j + 1) - eW (spA s) m j : Nat) : Int) := by intro j; unfold wG; rw [hm]
  have hN80 : wN s ≤ 80 := by rw [hNs]; exact Nat.le_trans (nW_le _ _) (by omega)
  obtain ⟨K, hK⟩ : ∃ K, w.heap.size = K := ⟨_, rfl⟩
  rw [hK]
  have hk : Kept w w := Kept.refl w
  go_enter Try.func16, Try.ntmps16
  go_wp2
  have hit := iter_new w s
  have hkw : Kept w (w.iter s 0) := (Kept.refl w).alloc _
  rw [hK] at hit
  go_loopw [4, 5, 6, 7, 8] (fun u f b _ _ wx => ∃ pos j : Nat, j ≤ wN s ∧ pos ≤ m ∧ Iter wx K s pos ∧ Kept w wx ∧ ((b = .bool false ∧ pW (spA s) m j ≤ pos ∧ runS (spA s) m pos = bW (spA s) m j ∧ wx.ownsRow (K + 1) 36 3 u j (three (vs (wT s)) (vi (wA s)) (vi (gP s j pos)) j)) ∨ (b = .bool true ∧ f = .int .i64 (bW (spA s) m j : Nat) ∧ bW (spA s) m j < pos ∧ runS (fun k => !spA s k) m pos = eW (spA s) m j ∧ wx.ownsRow (K + 1) 36 3 u j (three (vs (wT s)) (vi (wA s)) (vi (gU s (j + 1))) j)))) (fun _ _ _ _ _ wx => m - wx.iterPos K)
  case atStart => exact ⟨0, 0, Nat.zero_le _, Nat.zero_le _, hit, hkw, .inl ⟨rfl, Nat.zero_le _, rfl, World.ownsRow_nil _ _ _ _⟩⟩
  case round =>
    clear hk hkw hit
    obtain ⟨pos, j, hj, hpm, hit, hk, hst⟩ := hrel
    have hmeas := hit.pos
    by_cases hp : pos < m
    · have hps : pos < s.size := by omega
      have hnx0 := fun ty => run_next_any_at (P := Try.prog) wr K s pos ty hit hps
      obtain ⟨X, hX⟩ : ∃ X, X = wr.iterAt K s (pos + (Utf8.decode s pos).2) := ⟨_, rfl⟩
      rw [← hX] at hnx0
      have hitX : Iter X K s (pos + (Utf8.decode s pos).2) := hX ▸ iterAt_heap wr K s pos _ hit
      have hkX : Kept w X := hX ▸ kept_iter hk (by omega) s _
      have hoX : ∀ v n xs, wr.ownsRow (K + 1) 36 3 v n xs → X.ownsRow (K + 1) 36 3 v n xs := fun v n xs h => hX ▸ owns_iter h (by omega) s _
      clear hX hit hk
      have hdl := decode_le hps
      have hdp := width_pos s pos hps
      rw [hm] at hdl
      rcases hst with ⟨rfl, hlo, hrun, hown⟩ | ⟨rfl, rfl, hlo, hrun, hown⟩
      · replace hown := hoX _ _ _ hown
        clear hoX
        have hB := bW_le (spA s) m j
        have hge := run_ge (spA s) m pos
        cases hsp : spA s pos with
        | true =>
          have hd := decode_yes hsp
          rw [hd] at hnx0 hitX hdl hdp
          have hnx := hnx0
          clear hnx0
          have hrun2 : runS (spA s) m (pos + 1) = bW (spA s) m j := by rw [← run_step hp hsp]; exact hrun
          cases j with
          | zero =>
            obtain ⟨so, cap, rfl⟩ := row_len hown
            clear hrun hge hd hsp hlo
            go_wp2_with (first
              | (go_at_call 36; refine (glyphSpace_any _ _).mono ?_; rintro e w1 ⟨rfl, rfl⟩)
              | fail)
            exact ⟨⟨pos + 1, 0, hj, hdl, hitX, hkX, .inl ⟨rfl, Nat.zero_le _, hrun2, hown⟩⟩, by rw [hitX.pos, hmeas]; omega⟩
          | succ j =>
            obtain ⟨g, cap, rfl, hgc, hgb, hgl⟩ := row_shape hown (by omega)
            have q1 := hown.frozenAt (j * 3 + 2)
            have hlo' : eW (spA s) m j ≤ pos := hlo
            obtain ⟨D, hD⟩ : ∃ D, pos - eW (spA s) m j = D := ⟨_, rfl⟩
            have q0 : X.cell? ⟨g, j * 3 + 2, none⟩ = some (.int .i64 (D : Nat)) := (hown.cellAt (j * 3 + 2) (by omega)).trans ((three_at _ _ _ (j + 1) j (by omega)).2.2.trans (by unfold vi; rw [gP_at, hm, hD]))
            have hD80 : D ≤ 80 := by omega
            have hst := (hown.stored (j * 3 + 2) (.int .i64 ((D : Int) + 1))).1
            rw [gP_set s j (pos + 1) _ _ ((D : Int) + 1) (by rw [hm]; omega) (gP_low s j pos)] at hst
            have hkS := hkX.set (p := ⟨g, j * 3 + 2, none⟩) (by show w.heap.size ≤ g; omega) (.int .i64 ((D : Int) + 1))
            have hiS := hitX.set (p := ⟨g, j * 3 + 2, none⟩) (by show K < g; omega) (.int .i64 ((D : Int) + 1))
            replace hst := Lib.hid hst
            replace hkS := Lib.hid hkS
            replace hiS := Lib.hid hiS
            have hloS := Lib.hid (show pW (spA s) m (j + 1) ≤ pos + 1 from Nat.le_trans hlo (Nat.le_succ _))
            clear hrun hge hd hsp hlo hown hD hlo' hitX hkX
            go_wp2_with (first
              | (go_at_call 36; refine (glyphSpace_any _ _).mono ?_; rintro e w1 ⟨rfl, rfl⟩)
              | fail)
            exact ⟨⟨pos + 1, j + 1, hj, hdl, hiS.out, hkS.out, .inl ⟨rfl, hloS.out, hrun2, hst.out⟩⟩, by rw [hiS.out.pos, hmeas]; omega⟩
        | false =>
          obtain ⟨hne, hall⟩ := decode_no hsp
          obtain ⟨⟨r, d⟩, hd⟩ : ∃ rd, Utf8.decode s pos = rd := ⟨_, rfl⟩
          rw [hd] at hnx0 hitX hdl hdp hne hall
          dsimp only at hnx0 hitX hdl hdp hne hall
          have hr : ((r : Int) == 32) = false := by simp; omega
          have hskip := run_skip (p := fun k => !spA s k) (m := m) d pos (fun k h1 h2 => by rw [hall k h1 h2]; rfl) hdl
          have hnx := hnx0
          clear hnx0
          rw [run_done (.inr hsp)] at hrun
          have hE : runS (fun k => !spA s k) m (pos + d) = eW (spA s) m j := by rw [← hskip, hrun]; rfl
          have h9 := gP_begins s j (vs (wT s)) (vi (wA s))
          rw [hm, ← hrun] at h9
          rw [h9] at hown
          replace hE := Lib.hid hE
          replace hrun := Lib.hid hrun
          clear hskip hall hne hsp hd h9 hge hlo
          go_wp2_with (first
            | (go_at_call 36; refine (glyphSpace_any _ _).mono ?_; rintro e w1 ⟨rfl, rfl⟩)
            | fail)
          exact ⟨⟨pos + d, j, hj, hdl, hitX, hkX, .inr ⟨rfl, by rw [← hrun.out], by rw [← hrun.out]; omega, hE.out, hown⟩⟩, by rw [hitX.pos, hmeas]; omega⟩
      · replace hown := hoX _ _ _ hown
        clear hoX
        cases hsp : spA s pos with
        | true =>
          have hd := decode_yes hsp
          rw [hd] at hnx0 hitX hdl hdp
          dsimp only at hnx0 hitX hdl hdp
          have hnx := hnx0
          clear hnx0
          have hpe : pos = eW (spA s) m j := by rw [← hrun, run_done (.inr (by simp [hsp]))]
          have hrun3 : runS (spA s) m (pos + 1) = bW (spA s) m (j + 1) := by rw [bW_next, ← hpe, ← run_step hp hsp]
          have hJN : j + 1 ≤ wN s := by rw [hNs]; exact nW_more (j := j) (by omega) (by rw [← hNs]; exact hj)
          have hwT : wT s j = s.extract (bW (spA s) m j) (eW (spA s) m j) := hTs j
          rw [← hpe] at hwT
          have h3 := gU_more s j (vs (wT s)) (vi (wA s))
          have hv1 : vs (wT s) j = .string (s.extract (bW (spA s) m j) pos) := congrArg Value.string hwT
          have hv2 : vi (wA s) j = .int .i64 (widthS (s.extract (bW (spA s) m j) pos)) := by show Value.int .i64 (widthS (wT s j)) = _; rw [hwT]
          rw [hv1, hv2] at h3
          clear hv1 hv2 hwT
          obtain ⟨B, hBe⟩ : ∃ B, bW (spA s) m j = B := ⟨_, rfl⟩
          rw [hBe] at hlo h3 ⊢
          replace hBe := Lib.hid hBe
          have hsz : (s.extract B pos).size ≤ 140737488351232 := by rw [ByteArray.size_extract]; omega
          have h1i : (0 : Int) ≤ (B : Int) := by omega
          have h2i : (B : Int) ≤ (pos : Int) := by omega
          have h3i : (pos : Int) ≤ (m : Int) := by omega
          replace h3 := Lib.hid h3
          replace hpe := Lib.hid hpe
          replace hrun3 := Lib.hid hrun3
          clear hrun hsp hd
          go_wp2_with (first
            | (go_at_call 36; refine (glyphSpace_any _ _).mono ?_; rintro e w1 ⟨rfl, rfl⟩)
            | fail)
          refine (word_any _ _ hsz).mono ?_
          rintro e w1 ⟨rfl, hn⟩
          replace hown := owns_kept hown hn
          have hk1 := hkX.trans hn
          have hit1 := hitX.kept hn
          clear hitX hkX hn
          go_wp2_with (first
            | (go_at_call 36; refine (glyphSpace_any _ _).mono ?_; rintro e w1 ⟨rfl, rfl⟩)
            | (at_builtin; refine wpList_append_own _ rfl _ _ 22 rfl (K + 1) 36 i0 (.agg #[.string ByteArray.empty, .int .i64 0, .int .i64 0]) 3 32 Try.underlying22 hi hz0 hz1 hz2 rfl (by decide) _ _ _ rfl (hown.alloc _) ⟨w1.heap.size, 0, none⟩ 1 1 [.string (s.extract B pos), .int .i64 (widthS (s.extract B pos)), .int .i64 0] rfl rfl (lit_cells w1 #[.string (s.extract B pos), .int .i64 (widthS (s.extract B pos)), .int .i64 0] 36) (by simp [Value.oneCell']) (by unfold maxLen; omega) (by omega) (by have h9 := hk1.size; simp; omega) ?_; intro v2 w2 hown2 hg2 _; rw [← h3.out] at hown2; obtain ⟨g, cp, rfl, hgc, hgb, hgl⟩ := row_shape hown2 (by omega); have q0 : w2.cell? ⟨g, j * 3 + 2, none⟩ = some (.int .i64 0) := (hown2.cellAt (j * 3 + 2) (by omega)).trans ((three_at _ _ _ (j + 1) j (by omega)).2.2.trans (by unfold vi gU; rw [if_neg (by omega)])); have q1 := hown2.frozenAt (j * 3 + 2)))
          have hst := (hown2.stored (j * 3 + 2) (.int .i64 1)).1
          rw [gP_set s j (pos + 1) _ _ 1 (by rw [hm, ← hpe.out]; omega) (gU_low s j)] at hst
          have hkS := (((hk1.alloc _).grown hg2 (fun q hq => by have := row_ge hown q hq; omega)).set (p := ⟨g, j * 3 + 2, none⟩) (by show w.heap.size ≤ g; omega) (.int .i64 1))
          have hiS := (((hit1.alloc _).grown hg2 (fun q hq => by have := row_ge hown q hq; omega)).set (p := ⟨g, j * 3 + 2, none⟩) (by show K < g; omega) (.int .i64 1))
          exact ⟨⟨pos + 1, j + 1, hJN, hdl, hiS, hkS, .inl ⟨rfl, (by show eW (spA s) m j ≤ pos + 1; rw [← hpe.out]; omega), hrun3.out, hst⟩⟩, by rw [hiS.pos, hmeas]; omega⟩
        | false =>
          obtain ⟨hne, hall⟩ := decode_no hsp
          obtain ⟨⟨r, d⟩, hd⟩ : ∃ rd, Utf8.decode s pos = rd := ⟨_, rfl⟩
          rw [hd] at hnx0 hitX hdl hdp hne hall
          dsimp only at hnx0 hitX hdl hdp hne hall
          have hr : ((r : Int) == 32) = false := by simp; omega
          have hskip := run_skip (p := fun k => !spA s k) (m := m) d pos (fun k h1 h2 => by rw [hall k h1 h2]; rfl) hdl
          have hnx := hnx0
          clear hnx0
          have hE : runS (fun k => !spA s k) m (pos + d) = eW (spA s) m j := by rw [← hskip]; exact hrun
          replace hE := Lib.hid hE
          clear hskip hall hne hsp hd hrun
          obtain ⟨B, hBe⟩ : ∃ B, bW (spA s) m j = B := ⟨_, rfl⟩
          rw [hBe] at hlo ⊢
          replace hBe := Lib.hid hBe
          go_wp2_with (first
            | (go_at_call 36; refine (glyphSpace_any _ _).mono ?_; rintro e w1 ⟨rfl, rfl⟩)
            | fail)
          exact ⟨⟨pos + d, j, hj, hdl, hitX, hkX, .inr ⟨rfl, by rw [hBe.out], by rw [hBe.out]; omega, hE.out, hown⟩⟩, by rw [hitX.pos, hmeas]; omega⟩
    · obtain rfl : pos = m := by omega
      have hnx := fun ty => run_next_end_at (P := Try.prog) wr K s pos ty hit (by omega)
      rcases hst with ⟨rfl, hlo, hrun, hown⟩ | ⟨rfl, rfl, hlo, hrun, hown⟩
      · rw [run_done (.inl (Nat.le_refl _))] at hrun
        have hjN : wN s = j := by rw [hNs]; exact nW_of hrun.symm (by rw [← hNs]; exact hj)
        have h9 := gP_begins s j (vs (wT s)) (vi (wA s))
        rw [hm, ← hrun] at h9
        rw [h9, gU_done] at hown
        clear h9 hrun hlo hit
        go_wp2
        go_ret2
        rw [hjN]
        exact ⟨u4, rfl, hown, hk⟩
      · rw [run_done (.inl (Nat.le_refl _))] at hrun
        have hpe : pos = eW (spA s) pos j := hrun
        have hjN : wN s = j + 1 := by
          have hb1 : bW (spA s) pos (j + 1) = pos := by rw [bW_next, ← hpe]; exact run_done (.inl (Nat.le_refl _))
          rw [hNs]; exact nW_of hb1 (nW_more (by omega) (by rw [← hNs]; exact hj))
        have hg0 : wG s j = 0 := by
          have hb1 : bW (spA s) pos (j + 1) = pos := by rw [bW_next, ← hpe]; exact run_done (.inl (Nat.le_refl _))
          rw [hGs j, hb1, ← hpe]; omega
        have hwT : wT s j = s.extract (bW (spA s) pos j) (eW (spA s) pos j) := hTs j
        rw [← hpe] at hwT
        have h3 := gU_more s j (vs (wT s)) (vi (wA s))
        have hv1 : vs (wT s) j = .string (s.extract (bW (spA s) pos j) pos) := congrArg Value.string hwT
        have hv2 : vi (wA s) j = .int .i64 (widthS (s.extract (bW (spA s) pos j) pos)) := by show Value.int .i64 (widthS (wT s j)) = _; rw [hwT]
        rw [hv1, hv2] at h3
        clear hv1 hv2 hwT
        obtain ⟨B, hBe⟩ : ∃ B, bW (spA s) pos j = B := ⟨_, rfl⟩
        rw [hBe] at hlo h3
        replace hBe := Lib.hid hBe
        have hsz : (s.extract B pos).size ≤ 140737488351232 := by rw [ByteArray.size_extract]; omega
        rw [hBe.out]
        have h1i : (0 : Int) ≤ (B : Int) := by omega
        have h2i : (B : Int) ≤ (pos : Int) := by omega
        replace h3 := Lib.hid h3
        replace hpe := Lib.hid hpe
        clear hrun
        go_wp2_with fail
        refine (word_any _ _ hsz).mono ?_
        rintro e w1 ⟨rfl, hn⟩
        replace hown := owns_kept hown hn
        have hk1 := hk.trans hn
        clear hit hk hn
        go_wp2_with (at_builtin; refine wpList_append_own _ rfl _ _ 22 rfl (K + 1) 36 i0 (.agg #[.string ByteArray.empty, .int .i64 0, .int .i64 0]) 3 32 Try.underlying22 hi hz0 hz1 hz2 rfl (by decide) _ _ _ rfl (hown.alloc _) ⟨w1.heap.size, 0, none⟩ 1 1 [.string (s.extract B pos), .int .i64 (widthS (s.extract B pos)), .int .i64 0] rfl rfl (lit_cells w1 #[.string (s.extract B pos), .int .i64 (widthS (s.extract B pos)), .int .i64 0] 36) (by simp [Value.oneCell']) (by unfold maxLen; omega) (by omega) (by have h9 := hk1.size; simp; omega) ?_; intro v2 w2 hown2 hg2 _; rw [← h3.out, gU_last hg0] at hown2)
        go_ret2
        rw [hjN]
        exact ⟨_, rfl, hown2, (hk1.alloc _).grown hg2 (fun q hq => by have := row_ge hown q hq; omega)⟩
end Go.Proofs.Ytbegdnpckjfgbaa
