/- Layer 13: what is known of a style that may be; a size between its least and greatest one. -/
import Derived.Test.YtpkphohgnelajaaInl
namespace Go.Proofs.Ytpkphohgnelajaa
open Go.RowKit
set_option linter.unusedSimpArgs false
set_option linter.unusedVariables false
theorem okL_parts {x : Len} (h : okL x = true) : lenB x.k x.v = true ∧ 0 ≤ x.v := by
  unfold okL at h; simpa using h
theorem okM_parts {m p : Len} (h : okM m p = true) : lenB m.k m.v = true ∧ m.k ≠ 2 ∧ p.k = 1 ∧ lenB p.k p.v = true ∧ 0 ≤ p.v := by
  unfold okM at h; simp at h; exact ⟨h.1.1.1.1, h.1.1.1.2, h.1.1.2, h.1.2, h.2⟩
theorem may_parts {s : Sty} (h : mayS s = true) : (okL s.inl = true ∧ okL s.bas = true ∧ okL s.mx = true ∧ okL s.blk = true ∧ okL s.mn = true) ∧ (okM s.m0 s.p0 = true ∧ okM s.m1 s.p1 = true ∧ okM s.m2 s.p2 = true ∧ okM s.m3 s.p3 = true) ∧ s.blk.k ≠ 2 ∧ s.mn.k ≠ 0 := by
  rw [← ref_may] at h
  unfold refS at h
  simp only [Bool.and_eq_true] at h
  obtain ⟨⟨⟨⟨⟨⟨⟨⟨⟨⟨⟨⟨⟨⟨⟨a0, a1⟩, a2⟩, a3⟩, a4⟩, b0⟩, b1⟩, b2⟩, b3⟩, c0⟩, c1⟩, -⟩, -⟩, -⟩, -⟩, -⟩ := h
  exact ⟨⟨a0, a1, a2, a3, a4⟩, ⟨b0, b1, b2, b3⟩, by simpa using c0, by simpa using c1⟩
theorem len_px {v : Int} (h : lenB 1 v = true) : -8191 ≤ v ∧ v ≤ 8191 := inB_true.1 (by simpa [lenB] using h)
theorem len_pct {v : Int} (h : lenB 2 v = true) : -100 ≤ v ∧ v ≤ 100 := inB_true.1 (by simpa [lenB] using h)
theorem len_auto {v : Int} (h : lenB 0 v = true) : v = 0 := by simpa [lenB] using h
theorem used_auto {v o a : Int} (h : lenB 0 v = true) (ho : mayB o = true) (ha : mayB a = true) : usedS 0 v o a = (a, 0) := by
  unfold usedS; rw [if_pos ⟨h, ho, ha⟩, if_pos rfl]
theorem used_px {v o a : Int} (h : lenB 1 v = true) (ho : mayB o = true) (ha : mayB a = true) : usedS 1 v o a = (v, 0) := by
  unfold usedS; rw [if_pos ⟨h, ho, ha⟩]; rfl
theorem pct_bd {o v : Int} (h0 : 0 ≤ v) (h1 : v ≤ 100) (ho : 0 ≤ o) : 0 ≤ o * v / 100 ∧ o * v / 100 ≤ o := by
  have a : 0 ≤ o * v := Int.mul_nonneg ho h0
  have b : o * v ≤ o * 100 := Int.mul_le_mul_of_nonneg_left h1 ho
  omega
theorem used_pct {v o a : Int} (h : lenB 2 v = true) (h0 : 0 ≤ v) (o0 : 0 ≤ o) (o1 : o ≤ 1073741824) (ha : mayB a = true) : usedS 2 v o a = (o * v / 100, 0) := by
  have hv := len_pct h
  have hb := pct_bd h0 hv.2 o0
  unfold usedS percentS mulDivS smallS
  rw [if_pos ⟨h, mayB_true.2 (by omega), ha⟩, if_neg (by decide), if_neg (by decide), if_pos ⟨mayB_true.2 (by omega), hv⟩, if_pos ⟨mayB_true.2 (by omega), mayB_true.2 (by omega), by decide, by decide⟩, if_pos (mayB_true.2 (by omega))]
/-- a length that may be and is not below 0, as a number -/
theorem used_bd {x : Len} {o a : Int} (h : okL x = true) (o0 : 0 ≤ o) (o1 : o ≤ 4194304) (ha : mayB a = true) :
    ∃ y, usedS x.k x.v o a = (y, 0) ∧ ((x.k = 0 ∧ y = a) ∨ (x.k = 1 ∧ y = x.v ∧ 0 ≤ y ∧ y ≤ 8191) ∨ (x.k = 2 ∧ 0 ≤ y ∧ y ≤ o)) := by
  obtain ⟨hl, hv⟩ := okL_parts h
  have hm : mayB o = true := mayB_true.2 (by omega)
  rcases lenB_kind hl with hk | hk | hk
  · rw [hk] at hl ⊢
    exact ⟨_, used_auto hl hm ha, .inl ⟨rfl, rfl⟩⟩
  · rw [hk] at hl ⊢
    exact ⟨_, used_px hl hm ha, .inr (.inl ⟨rfl, rfl, hv, (len_px hl).2⟩)⟩
  · rw [hk] at hl ⊢
    exact ⟨_, used_pct hl hv o0 (by omega) ha, .inr (.inr ⟨rfl, pct_bd hv (len_pct hl).2 o0⟩)⟩
theorem min_bd {s : Sty} (h : mayS s = true) {r : Int} (r0 : 0 ≤ r) (r1 : r ≤ 4194304) : 0 ≤ minS s r ∧ minS s r ≤ 4194304 ∧ (s.mn.k = 1 → minS s r = s.mn.v) := by
  obtain ⟨⟨_, _, _, _, a⟩, _, _, hk⟩ := may_parts h
  obtain ⟨y, hy, h1⟩ := used_bd (a := 0) a r0 r1 (by decide)
  have e : minS s r = y := by unfold minS; rw [hy]
  rw [e]
  rcases h1 with h1 | h1 | h1
  · exact absurd h1.1 hk
  · exact ⟨by omega, by omega, fun _ => h1.2.1⟩
  · exact ⟨by omega, by omega, fun h => by omega⟩
theorem inline_no {s : Sty} (h : mayS s = false) (r x : Int) : clampInS s r x = (0, 1300) := if_neg (by simp [h])
theorem inline_yes {s : Sty} (h : mayS s = true) {r x : Int} (r0 : 0 ≤ r) (r1 : r ≤ 4194304) (x0 : -1073741824 ≤ x) (x1 : x ≤ 1073741824) : clampInS s r x = (inlineS s r x, 0) := if_pos ⟨h, inB_true.2 ⟨r0, r1⟩, mayB_true.2 ⟨x0, x1⟩⟩
theorem inline_twice {s : Sty} (h : mayS s = true) {r x : Int} (r0 : 0 ≤ r) (r1 : r ≤ 4194304) (x0 : 0 ≤ x) (x1 : x ≤ 65535) :
    ∃ Y, clampInS s r x = (Y, 0) ∧ clampInS s r Y = (Y, 0) ∧ 0 ≤ Y ∧ (s.mn.k = 1 → s.mn.v ≤ Y) := by
  obtain ⟨b0, b1, b2⟩ := min_bd h r0 r1
  have hY : inlineS s r x = max 0 (max (minS s r) (min x (maxS s r))) := rfl
  refine ⟨inlineS s r x, inline_yes h r0 r1 (by omega) (by omega), ?_, by omega, fun hk => by have := b2 hk; omega⟩
  have hZ : inlineS s r (inlineS s r x) = max 0 (max (minS s r) (min (inlineS s r x) (maxS s r))) := rfl
  rw [inline_yes h r0 r1 (by omega) (by omega), hZ]
  congr 1; omega
theorem inline_more {s : Sty} (h : mayS s = true) {r x y : Int} (r0 : 0 ≤ r) (r1 : r ≤ 4194304) (x0 : 0 ≤ x) (xy : x ≤ y) (y1 : y ≤ 65535) :
    ∃ P Q, clampInS s r x = (P, 0) ∧ clampInS s r y = (Q, 0) ∧ P ≤ Q := by
  have hP : inlineS s r x = max 0 (max (minS s r) (min x (maxS s r))) := rfl
  have hQ : inlineS s r y = max 0 (max (minS s r) (min y (maxS s r))) := rfl
  exact ⟨_, _, inline_yes h r0 r1 (by omega) (by omega), inline_yes h r0 r1 (by omega) (by omega), by omega⟩
end Go.Proofs.Ytpkphohgnelajaa
