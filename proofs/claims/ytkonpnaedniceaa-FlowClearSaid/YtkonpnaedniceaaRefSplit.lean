/- Layer 5: the document's Split. -/
import Derived.Test.YtkonpnaedniceaaSplitW
import Derived.Test.YtkonpnaedniceaaShape
import Derived.Laws.OwnMore
import Derived.Deep.RegionHeld3
import Derived.Deep.AppendLies
namespace Go.Proofs.Ytkonpnaedniceaa
open Go.RowKit
set_option linter.unusedSimpArgs false
set_option linter.unusedVariables false
theorem text_at {s : ByteArray} {i : Nat} (h : i < s.size) (w : World) : Sem.run Try.prog (Instr.index 9 (.string s) (.int .i64 (i : Int))) w = .ok (.int .u8 (byteAt s i : Nat)) w := by
  show (Instr.index 9 (.string s) (.int .i64 (i : Int))).run Try.prog w = _
  rw [run_index_string w _ _ _ _ Try.underlying9, dif_pos ⟨by omega, by omega⟩]
  have e : byteAt s i = (s[i]'h).toNat := by
    unfold byteAt
    have h' : i < s.data.size := h
    show (s.data[i]!).toNat = _
    rw [getElem!_pos s.data i h']
    rfl
  rw [e]
  rfl
theorem spA_yes {s : ByteArray} {i : Nat} (h : spA s i = true) : ((byteAt s i : Int) == 32) = true := by unfold spA at h; simp at h ⊢; omega
theorem spA_no {s : ByteArray} {i : Nat} (h : spA s i = false) : ((byteAt s i : Int) == 32) = false := by unfold spA at h; simp at h ⊢; omega
theorem run_in {p : Nat → Bool} {m n B : Nat} (h : runS p m n = B) (hn : n < B) (hB : B ≤ m) : n < m ∧ p n = true := by
  have hm : n < m := by omega
  refine ⟨hm, ?_⟩
  cases hp : p n with
  | true => rfl
  | false => rw [run_done (.inr hp)] at h; omega
theorem refSplit_long (s : ByteArray) (w : World) (hs : 80 < s.size) (hm : s.size ≤ 140737488351232) :
    Calls Try.prog 20 #[.string s] w fun e w' => e = .returned (.tuple #[.slice none 0 0, .int .i64 500]) ∧ Kept w w' := by
  have hk : Kept w w := Kept.refl w
  go_enter Try.func20, Try.ntmps20
  go_wp2
  go_ret2
  exact ⟨rfl, hk⟩
set_option maxRecDepth 100000 in
set_option maxHeartbeats 4000000 in
theorem refSplit_ok (s : ByteArray) (w : World) (hs : s.size ≤ 80) :
    Calls Try.prog 20 #[.string s] w fun e w' => ∃ u, e = .returned (.tuple #[u, .int .i64 0]) ∧ w'.ownsRow w.heap.size 52 3 u (wN s) (three (vs (wT s)) (vi (wA s)) (vi (wG s)) (wN s)) ∧ Kept w w' := by
  obtain ⟨i0, hi, hz0, hz1, hz2⟩ := info_parts wordInfo2
  obtain ⟨m, hm⟩ : ∃ m, s.size = m := ⟨_, rfl⟩
  have hNs : wN s = nW (spA s) m := by unfold wN; rw [hm]
  have hTs : ∀ j, wT s j = s.extract (bW (spA s) m j) (eW (spA s) m j) := by intro j; unfold wT; rw [hm]
  have hGs : ∀ j, wG s j = ((bW (spA s) m (j + 1) - eW (spA s) m j : Nat) : Int) := by intro j; unfold wG; rw [hm]
  have hN80 : wN s ≤ 80 := by rw [hNs]; exact Nat.le_trans (nW_le _ _) (by omega)
  have hk : Kept w w := Kept.refl w
  go_enter Try.func20, Try.ntmps20
  go_wp2
  go_loopw [4, 5, 6] (fun u i _ wx => ∃ j : Nat, j ≤ wN s ∧ ((i = .int .i64 (pW (spA s) m j : Nat) ∧ pW (spA s) m j < m ∧ wx.ownsRow w.heap.size 52 3 u j (three (vs (wT s)) (vi (wA s)) (vi (gU s j)) j)) ∨ (i = .int .i64 (m : Nat) ∧ j = wN s ∧ wx.ownsRow w.heap.size 52 3 u j (three (vs (wT s)) (vi (wA s)) (vi (wG s)) j))) ∧ Kept w wx) (fun _ i _ _ => m - (intOf i).toNat)
  case atStart =>
    refine ⟨0, Nat.zero_le _, ?_, hk⟩
    rcases Nat.eq_zero_or_pos m with h0 | h0
    · subst h0
      exact .inr ⟨rfl, (by rw [hNs]; exact (nW_unique (j := 0) (by exact Nat.le_antisymm (bW_le _ _ _) (Nat.zero_le _)) (fun i hi => by omega)).symm), World.ownsRow_nil _ _ _ _⟩
    · exact .inl ⟨rfl, h0, World.ownsRow_nil _ _ _ _⟩
  case round =>
    clear hk
    obtain ⟨j, hj, hst, hk⟩ := hrel
    rcases hst with ⟨rfl, hlt, hown⟩ | ⟨rfl, rfl, hown⟩
    · have hB := bW_le (spA s) m j
      have hPB := pW_ge (spA s) m j
      have hrun := pW_run (spA s) m j
      obtain ⟨P, hP⟩ : ∃ P, pW (spA s) m j = P := ⟨_, rfl⟩
      obtain ⟨B, hBe⟩ : ∃ B, bW (spA s) m j = B := ⟨_, rfl⟩
      rw [hP] at hlt hPB hrun ⊢
      rw [hBe] at hB hPB hrun
      replace hP := Lib.hid hP
      replace hBe := Lib.hid hBe
      replace hNs := Lib.hid hNs
      replace hTs := Lib.hid hTs
      replace hGs := Lib.hid hGs
      have hlt' : (P : Int) < (m : Int) := by omega
      go_wp2
      clear hlt'
      go_loopw [6] (fun k wx => ∃ n : Nat, k = .int .i64 (n : Nat) ∧ P ≤ n ∧ n ≤ B ∧ runS (spA s) m n = B ∧ wx = wr) (fun k _ => m - (intOf k).toNat)
      case atStart => exact ⟨P, rfl, Nat.le_refl _, hPB, hrun, rfl⟩
      case round =>
        obtain ⟨n, rfl, h1, h2, h3, rfl⟩ := hrel
        by_cases hn : n < B
        · obtain ⟨hnm, hsp⟩ := run_in h3 hn hB
          have hx := text_at (s := s) (i := n) (by rw [hm]; exact hnm)
          have hc := spA_yes hsp
          have hnm' : (n : Int) < (m : Int) := by omega
          have h4 : runS (spA s) m (n + 1) = B := by rw [← run_step hnm hsp]; exact h3
          clear h3 hsp
          go_wp2
          exact ⟨⟨n + 1, by first | rfl | go_num, by omega, by omega, h4, by first | trivial | rfl⟩, by first | (simp [intOf]; done) | (simp [intOf]; omega)⟩
        · obtain rfl : n = B := by omega
          rcases Nat.lt_or_ge n m with hBm | hBm
          · have hsp : spA s n = false := by have := run_stop (spA s) m (m - P) P (Nat.le_refl _); rw [hrun] at this; exact this hBm
            have hx := text_at (s := s) (i := n) (by rw [hm]; exact hBm)
            have hc := spA_no hsp
            have hnm' : (n : Int) < (m : Int) := by omega
            clear h3
            cases j with
            | zero =>
              have hown2 : wr.ownsRow w.heap.size 52 3 u4 0 (three (vs (wT s)) (vi (wA s)) (vi (gU s 1)) 0) := hown
              clear hown
              obtain ⟨so, cap, rfl⟩ := row_len hown2
              have hst := Lib.hid hown2
              have hkst := Lib.hid hk
              clear hown2
              go_wp2
              refine code_eq ?_
              intro X eX
              have hownX := hst.out
              have hkX := hkst.out
              clear hst hkst hk
              rw [← eX] at hownX hkX
              clear eX
              have hrunE : runS (fun k => !spA s k) m n = eW (spA s) m (0) := by unfold eW; rw [hBe.out]
              have hnE : n < eW (spA s) m (0) := by have := bW_word (sp := spA s) (m := m) (j := 0) (by rw [hBe.out]; exact hBm); rwa [hBe.out] at this
              have hEm := eW_le (spA s) m (0)
              have hJN : 0 < wN s := by rw [hNs.out]; exact nW_more (by rw [hBe.out]; exact hBm) (by rw [← hNs.out]; exact hj)
              have hwT : wT s (0) = s.extract n (eW (spA s) m (0)) := by have h7 := hTs.out (0); rw [hBe.out] at h7; exact h7
              have h3 := gU_more s (0) (vs (wT s)) (vi (wA s))
              obtain ⟨E, hE⟩ : ∃ E, eW (spA s) m (0) = E := ⟨_, rfl⟩
              rw [hE] at hrunE hnE hEm hwT
              have hv1 : vs (wT s) (0) = .string (s.extract n E) := congrArg Value.string hwT
              have hv2 : vi (wA s) (0) = .int .i64 (widthS (s.extract n E)) := by show Value.int .i64 (widthS (wT s (0))) = _; rw [hwT]
              rw [hv1, hv2] at h3
              clear hv1 hv2
              replace hE := Lib.hid hE
              replace hwT := Lib.hid hwT
              replace h3 := Lib.hid h3
              clear hx hc hnm' hsp
              go_loopw [6] (fun k wx => ∃ q : Nat, k = .int .i64 (q : Nat) ∧ n ≤ q ∧ q ≤ E ∧ runS (fun k => !spA s k) m q = E ∧ wx = X) (fun k _ => m - (intOf k).toNat)
              case atStart => exact ⟨n, rfl, Nat.le_refl _, by omega, hrunE, by first | trivial | rfl⟩
              case round =>
                obtain ⟨q, rfl, i1, i2, i3, rfl⟩ := hrel
                by_cases hq : q < E
                · obtain ⟨hqm, hqs⟩ := run_in i3 hq hEm
                  have hx := text_at (s := s) (i := q) (by rw [hm]; exact hqm)
                  have hc := spA_no (by simpa using hqs : spA s q = false)
                  have hqm' : (q : Int) < (m : Int) := by omega
                  have i4 : runS (fun k => !spA s k) m (q + 1) = E := by rw [← run_step hqm hqs]; exact i3
                  clear i3 hqs
                  go_wp2
                  exact ⟨⟨q + 1, by first | rfl | go_num, by omega, by omega, i4, by first | trivial | rfl⟩, by first | (simp [intOf]; done) | (simp [intOf]; omega)⟩
                · obtain rfl : q = E := by omega
                  have hi1 : (0 : Int) ≤ (n : Int) := by omega
                  have hi2 : (n : Int) ≤ (q : Int) := by omega
                  have hi3 : (q : Int) ≤ (m : Int) := by omega
                  have hi4 : (n : Int) < (q : Int) := by omega
                  rcases Nat.lt_or_ge q m with hqm | hqm
                  · have hqs : spA s q = true := by have := run_stop (fun k => !spA s k) m (m - n) n (Nat.le_refl _); rw [hrunE] at this; simpa using this hqm
                    have hx := text_at (s := s) (i := q) (by rw [hm]; exact hqm)
                    have hc := spA_yes hqs
                    have hqm' : (q : Int) < (m : Int) := by omega
                    clear i3 hqs
                    go_wp2_with fail
                    have hkd : Kept wr wr.drew := (Kept.refl wr).drew
                    go_region_held3 (fun W => Kept w W)
                      (first | exact hkX.drew | assumption | exact (‹Kept w _›).trans hn | exact (‹Kept w _›).alloc _ | exact Kept.grown (‹Kept w (World.alloc w3 _)›) hgrow (row_ge hownX))
                      (first
                        | (go_at_call 30; (with_reducible refine (refWidth_any _ _).mono ?_); rintro e w3 ⟨rfl, hn⟩)
                        | (refine step_append_lies _ (by rfl) _ _ _ (by rfl) w.heap.size 52 i0 (.agg #[.string ByteArray.empty, .int .i64 0, .int .i64 0]) 3 32 Try.underlying22 hi hz0 hz1 hz2 rfl (by decide) _ _ _ (by rfl) ((owns_kept hownX (hkd.trans hn)).alloc _) ⟨w3.heap.size, 0, none⟩ 1 1 [.string (s.extract n q), .int .i64 (widthS (s.extract n q)), .int .i64 0] (by rfl) (by rfl) (lit_cells w3 #[.string (s.extract n q), .int .i64 (widthS (s.extract n q)), .int .i64 0] 52) (by simp [Value.oneCell']) (by omega) (by unfold maxLen; omega) (by omega) (by have h9 := (hkX.trans (hkd.trans hn)).size; simp; omega) (w3.heap.size + 1) (by simp) ?_; intro g4 cap4 w4 hown4 hgrow hat4 hlt4))
                    go_wp2
                    have hp : pW (spA s) m (0 + 1) = q := hE.out
                    exact ⟨⟨0 + 1, hJN, .inl ⟨by rw [hp], by rw [hp]; exact hqm, by rw [h3.out]; exact hown4⟩, by first | assumption | exact Kept.grown (‹Kept w (World.alloc w3 _)›) hgrow (row_ge hownX)⟩, by first | (simp [intOf]; done) | (simp [intOf]; omega)⟩
                  · obtain rfl : q = m := by omega
                    clear i3
                    go_wp2_with fail
                    have hkd : Kept wr wr.drew := (Kept.refl wr).drew
                    go_region_held3 (fun W => Kept w W)
                      (first | exact hkX.drew | assumption | exact (‹Kept w _›).trans hn | exact (‹Kept w _›).alloc _ | exact Kept.grown (‹Kept w (World.alloc w3 _)›) hgrow (row_ge hownX))
                      (first
                        | (go_at_call 30; (with_reducible refine (refWidth_any _ _).mono ?_); rintro e w3 ⟨rfl, hn⟩)
                        | (refine step_append_lies _ (by rfl) _ _ _ (by rfl) w.heap.size 52 i0 (.agg #[.string ByteArray.empty, .int .i64 0, .int .i64 0]) 3 32 Try.underlying22 hi hz0 hz1 hz2 rfl (by decide) _ _ _ (by rfl) ((owns_kept hownX (hkd.trans hn)).alloc _) ⟨w3.heap.size, 0, none⟩ 1 1 [.string (s.extract n q), .int .i64 (widthS (s.extract n q)), .int .i64 0] (by rfl) (by rfl) (lit_cells w3 #[.string (s.extract n q), .int .i64 (widthS (s.extract n q)), .int .i64 0] 52) (by simp [Value.oneCell']) (by omega) (by unfold maxLen; omega) (by omega) (by have h9 := (hkX.trans (hkd.trans hn)).size; simp; omega) (w3.heap.size + 1) (by simp) ?_; intro g4 cap4 w4 hown4 hgrow hat4 hlt4))
                    go_wp2
                    have hp : pW (spA s) q (0 + 1) = q := hE.out
                    have hb1 : bW (spA s) q (0 + 1) = q := pW_end (by omega)
                    have hg0 : wG s (0) = 0 := by rw [hGs.out (0), hb1, hE.out]; omega
                    exact ⟨⟨0 + 1, hJN, .inr ⟨by first | trivial | rfl, (by rw [hNs.out]; exact (nW_of hb1 (by rw [← hNs.out]; exact hJN)).symm), by rw [← gU_last hg0, h3.out]; exact hown4⟩, by first | assumption | exact Kept.grown (‹Kept w (World.alloc w3 _)›) hgrow (row_ge hownX)⟩, by first | (simp [intOf]; done) | (simp [intOf]; omega)⟩
            | succ j =>
              obtain ⟨g, cap, rfl, hgc, hgb, hgl⟩ := row_shape hown (by omega)
              have q1 := hown.frozenAt (j * 3 + 2)
              have q0 : wr.cell? ⟨g, j * 3 + 2, none⟩ = some (.int .i64 0) := (hown.cellAt (j * 3 + 2) (by omega)).trans ((three_at _ _ _ (j + 1) j (by omega)).2.2.trans (by unfold vi gU; rw [if_neg (by omega)]))
              have hst := (hown.stored (j * 3 + 2) (.int .i64 (wG s j))).1
              rw [gU_set] at hst
              have hwg : wG s j = ((n : Nat) : Int) - (P : Int) := by
                have h7 := hGs.out j
                have h8 := hBe.out
                have h9 : eW (spA s) m j = P := hP.out
                rw [h8, h9] at h7
                rw [h7]
                omega
              rw [hwg] at hst
              replace hst := Lib.hid hst
              have hkst := Lib.hid (hk.set (p := ⟨g, j * 3 + 2, none⟩) hgb (.int .i64 ((n : Nat) - (P : Int))))
              clear hwg
              replace hown := Lib.hid hown
              go_wp2
              refine code_eq ?_
              intro X eX
              have hownX := hst.out
              have hkX := hkst.out
              clear hst hkst hk hown q0 q1
              rw [← eX] at hownX hkX
              clear eX
              have hrunE : runS (fun k => !spA s k) m n = eW (spA s) m (j + 1) := by unfold eW; rw [hBe.out]
              have hnE : n < eW (spA s) m (j + 1) := by have := bW_word (sp := spA s) (m := m) (j := j + 1) (by rw [hBe.out]; exact hBm); rwa [hBe.out] at this
              have hEm := eW_le (spA s) m (j + 1)
              have hJN : j + 1 < wN s := by rw [hNs.out]; exact nW_more (by rw [hBe.out]; exact hBm) (by rw [← hNs.out]; exact hj)
              have hwT : wT s (j + 1) = s.extract n (eW (spA s) m (j + 1)) := by have h7 := hTs.out (j + 1); rw [hBe.out] at h7; exact h7
              have h3 := gU_more s (j + 1) (vs (wT s)) (vi (wA s))
              obtain ⟨E, hE⟩ : ∃ E, eW (spA s) m (j + 1) = E := ⟨_, rfl⟩
              rw [hE] at hrunE hnE hEm hwT
              have hv1 : vs (wT s) (j + 1) = .string (s.extract n E) := congrArg Value.string hwT
              have hv2 : vi (wA s) (j + 1) = .int .i64 (widthS (s.extract n E)) := by show Value.int .i64 (widthS (wT s (j + 1))) = _; rw [hwT]
              rw [hv1, hv2] at h3
              clear hv1 hv2
              replace hE := Lib.hid hE
              replace hwT := Lib.hid hwT
              replace h3 := Lib.hid h3
              clear hx hc hnm' hsp
              go_loopw [6] (fun k wx => ∃ q : Nat, k = .int .i64 (q : Nat) ∧ n ≤ q ∧ q ≤ E ∧ runS (fun k => !spA s k) m q = E ∧ wx = X) (fun k _ => m - (intOf k).toNat)
              case atStart => exact ⟨n, rfl, Nat.le_refl _, by omega, hrunE, by first | trivial | rfl⟩
              case round =>
                obtain ⟨q, rfl, i1, i2, i3, rfl⟩ := hrel
                by_cases hq : q < E
                · obtain ⟨hqm, hqs⟩ := run_in i3 hq hEm
                  have hx := text_at (s := s) (i := q) (by rw [hm]; exact hqm)
                  have hc := spA_no (by simpa using hqs : spA s q = false)
                  have hqm' : (q : Int) < (m : Int) := by omega
                  have i4 : runS (fun k => !spA s k) m (q + 1) = E := by rw [← run_step hqm hqs]; exact i3
                  clear i3 hqs
                  go_wp2
                  exact ⟨⟨q + 1, by first | rfl | go_num, by omega, by omega, i4, by first | trivial | rfl⟩, by first | (simp [intOf]; done) | (simp [intOf]; omega)⟩
                · obtain rfl : q = E := by omega
                  have hi1 : (0 : Int) ≤ (n : Int) := by omega
                  have hi2 : (n : Int) ≤ (q : Int) := by omega
                  have hi3 : (q : Int) ≤ (m : Int) := by omega
                  have hi4 : (n : Int) < (q : Int) := by omega
                  rcases Nat.lt_or_ge q m with hqm | hqm
                  · have hqs : spA s q = true := by have := run_stop (fun k => !spA s k) m (m - n) n (Nat.le_refl _); rw [hrunE] at this; simpa using this hqm
                    have hx := text_at (s := s) (i := q) (by rw [hm]; exact hqm)
                    have hc := spA_yes hqs
                    have hqm' : (q : Int) < (m : Int) := by omega
                    clear i3 hqs
                    go_wp2_with fail
                    have hkd : Kept wr wr.drew := (Kept.refl wr).drew
                    go_region_held3 (fun W => Kept w W)
                      (first | exact hkX.drew | assumption | exact (‹Kept w _›).trans hn | exact (‹Kept w _›).alloc _ | exact Kept.grown (‹Kept w (World.alloc w3 _)›) hgrow (row_ge hownX))
                      (first
                        | (go_at_call 30; (with_reducible refine (refWidth_any _ _).mono ?_); rintro e w3 ⟨rfl, hn⟩)
                        | (refine step_append_lies _ (by rfl) _ _ _ (by rfl) w.heap.size 52 i0 (.agg #[.string ByteArray.empty, .int .i64 0, .int .i64 0]) 3 32 Try.underlying22 hi hz0 hz1 hz2 rfl (by decide) _ _ _ (by rfl) ((owns_kept hownX (hkd.trans hn)).alloc _) ⟨w3.heap.size, 0, none⟩ 1 1 [.string (s.extract n q), .int .i64 (widthS (s.extract n q)), .int .i64 0] (by rfl) (by rfl) (lit_cells w3 #[.string (s.extract n q), .int .i64 (widthS (s.extract n q)), .int .i64 0] 52) (by simp [Value.oneCell']) (by omega) (by unfold maxLen; omega) (by omega) (by have h9 := (hkX.trans (hkd.trans hn)).size; simp; omega) (w3.heap.size + 1) (by simp) ?_; intro g4 cap4 w4 hown4 hgrow hat4 hlt4))
                    go_wp2
                    have hp : pW (spA s) m (j + 1 + 1) = q := hE.out
                    exact ⟨⟨j + 1 + 1, hJN, .inl ⟨by rw [hp], by rw [hp]; exact hqm, by rw [h3.out]; exact hown4⟩, by first | assumption | exact Kept.grown (‹Kept w (World.alloc w3 _)›) hgrow (row_ge hownX)⟩, by first | (simp [intOf]; done) | (simp [intOf]; omega)⟩
                  · obtain rfl : q = m := by omega
                    clear i3
                    go_wp2_with fail
                    have hkd : Kept wr wr.drew := (Kept.refl wr).drew
                    go_region_held3 (fun W => Kept w W)
                      (first | exact hkX.drew | assumption | exact (‹Kept w _›).trans hn | exact (‹Kept w _›).alloc _ | exact Kept.grown (‹Kept w (World.alloc w3 _)›) hgrow (row_ge hownX))
                      (first
                        | (go_at_call 30; (with_reducible refine (refWidth_any _ _).mono ?_); rintro e w3 ⟨rfl, hn⟩)
                        | (refine step_append_lies _ (by rfl) _ _ _ (by rfl) w.heap.size 52 i0 (.agg #[.string ByteArray.empty, .int .i64 0, .int .i64 0]) 3 32 Try.underlying22 hi hz0 hz1 hz2 rfl (by decide) _ _ _ (by rfl) ((owns_kept hownX (hkd.trans hn)).alloc _) ⟨w3.heap.size, 0, none⟩ 1 1 [.string (s.extract n q), .int .i64 (widthS (s.extract n q)), .int .i64 0] (by rfl) (by rfl) (lit_cells w3 #[.string (s.extract n q), .int .i64 (widthS (s.extract n q)), .int .i64 0] 52) (by simp [Value.oneCell']) (by omega) (by unfold maxLen; omega) (by omega) (by have h9 := (hkX.trans (hkd.trans hn)).size; simp; omega) (w3.heap.size + 1) (by simp) ?_; intro g4 cap4 w4 hown4 hgrow hat4 hlt4))
                    go_wp2
                    have hp : pW (spA s) q (j + 1 + 1) = q := hE.out
                    have hb1 : bW (spA s) q (j + 1 + 1) = q := pW_end (by omega)
                    have hg0 : wG s (j + 1) = 0 := by rw [hGs.out (j + 1), hb1, hE.out]; omega
                    exact ⟨⟨j + 1 + 1, hJN, .inr ⟨by first | trivial | rfl, (by rw [hNs.out]; exact (nW_of hb1 (by rw [← hNs.out]; exact hJN)).symm), by rw [← gU_last hg0, h3.out]; exact hown4⟩, by first | assumption | exact Kept.grown (‹Kept w (World.alloc w3 _)›) hgrow (row_ge hownX)⟩, by first | (simp [intOf]; done) | (simp [intOf]; omega)⟩
          · obtain rfl : n = m := by omega
            clear h3
            cases j with
            | zero =>
              have hown2 : wr.ownsRow w.heap.size 52 3 u4 0 (three (vs (wT s)) (vi (wA s)) (vi (gU s 1)) 0) := hown
              clear hown
              obtain ⟨so, cap, rfl⟩ := row_len hown2
              have hst := Lib.hid hown2
              have hkst := Lib.hid hk
              clear hown2
              go_wp2
              refine code_eq ?_
              intro X eX
              have hownX := hst.out
              have hkX := hkst.out
              clear hst hkst hk
              rw [← eX] at hownX hkX
              clear eX
              refine wp_loop_rounds 1 ?_
              rw [rounds_succ]
              go_wp2
              exact ⟨⟨0, hj, .inr ⟨by first | trivial | rfl, (by rw [hNs.out]; exact (nW_of hBe.out (by rw [← hNs.out]; exact hj)).symm), by rw [gU_done] at hownX; exact hownX⟩, hkX⟩, by first | (simp [intOf]; done) | (simp [intOf]; omega)⟩
            | succ j =>
              obtain ⟨g, cap, rfl, hgc, hgb, hgl⟩ := row_shape hown (by omega)
              have q1 := hown.frozenAt (j * 3 + 2)
              have q0 : wr.cell? ⟨g, j * 3 + 2, none⟩ = some (.int .i64 0) := (hown.cellAt (j * 3 + 2) (by omega)).trans ((three_at _ _ _ (j + 1) j (by omega)).2.2.trans (by unfold vi gU; rw [if_neg (by omega)]))
              have hst := (hown.stored (j * 3 + 2) (.int .i64 (wG s j))).1
              rw [gU_set] at hst
              have hwg : wG s j = ((n : Nat) : Int) - (P : Int) := by
                have h7 := hGs.out j
                have h8 := hBe.out
                have h9 : eW (spA s) n j = P := hP.out
                rw [h8, h9] at h7
                rw [h7]
                omega
              rw [hwg] at hst
              replace hst := Lib.hid hst
              have hkst := Lib.hid (hk.set (p := ⟨g, j * 3 + 2, none⟩) hgb (.int .i64 ((n : Nat) - (P : Int))))
              clear hwg
              replace hown := Lib.hid hown
              go_wp2
              refine code_eq ?_
              intro X eX
              have hownX := hst.out
              have hkX := hkst.out
              clear hst hkst hk hown q0 q1
              rw [← eX] at hownX hkX
              clear eX
              refine wp_loop_rounds 1 ?_
              rw [rounds_succ]
              go_wp2
              exact ⟨⟨j + 1, hj, .inr ⟨by first | trivial | rfl, (by rw [hNs.out]; exact (nW_of hBe.out (by rw [← hNs.out]; exact hj)).symm), by rw [gU_done] at hownX; exact hownX⟩, hkX⟩, by first | (simp [intOf]; done) | (simp [intOf]; omega)⟩
    · go_wp2
      go_ret2
      exact ⟨_, rfl, hown, hk⟩
end Go.Proofs.Ytkonpnaedniceaa
