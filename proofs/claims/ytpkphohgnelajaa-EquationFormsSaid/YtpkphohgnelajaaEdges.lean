/- Layer 14: a style's paddings by sides. -/
import Derived.Test.YtpkphohgnelajaaEqBlock
import Derived.Test.YtpkphohgnelajaaIntRow
import Derived.OwnWalk
namespace Go.Proofs.Ytpkphohgnelajaa
open Go.RowKit
set_option linter.unusedSimpArgs false
set_option linter.unusedVariables false
set_option maxRecDepth 20000
theorem int_info : (Try.prog.info? 3).map (fun i => (i.zero, i.size, i.bytes)) = some (some (.int .i64 0), 1, 8) := by kernel_rfl
theorem row_kept {w w' : World} {base : Nat} {e : TypeId} {size : Nat} {v : Value} {n : Nat} {xs : List Value} (h : w.ownsRow base e size v n xs) (k : Kept w w') : w'.ownsRow base e size v n xs := by
  refine ⟨h.1, ?_⟩
  rcases h.2 with hn | ⟨g, cap, cur, rfl, hb, hgg, rest⟩
  · exact .inl hn
  · exact .inr ⟨g, cap, cur, rfl, hb, (k.below.block g (Array.getElem?_eq_some_iff.1 hgg).1).trans hgg, rest⟩
/-- a row of numbers of the call's own -/
structure RowI (a w : World) (v : Value) (xs : List Int) : Prop where
  own : w.ownsRow a.heap.size 3 1 v xs.length (xs.map (Value.int .i64))
theorem RowI.kept {a w w' : World} {v : Value} {xs : List Int} (h : RowI a w v xs) (k : Kept w w') : RowI a w' v xs := ⟨row_kept h.own k⟩
theorem RowI.nil (a w : World) : RowI a w (.slice none 0 0) [] := ⟨by simpa using World.ownsRow_nil _ _ _ _⟩
theorem RowI.snoc {a w : World} {v : Value} {xs : List Int} {z : Int} {n : Nat} (hn : n = xs.length + 1) (h : w.ownsRow a.heap.size 3 1 v n (xs.map (Value.int .i64) ++ [.int .i64 z])) : RowI a w v (xs ++ [z]) := by
  subst hn; exact ⟨by simpa using h⟩
theorem RowI.new {w w' : World} {v : Value} {xs : List Int} (h : RowI w w' v xs) : NewInts w w' v xs := by
  rcases h.own.2 with ⟨hv, h0⟩ | ⟨g, cap, cur, hv, hg, hb, _⟩
  · exact .inl ⟨hv, by simpa using h0⟩
  · subst hv
    refine .inr ⟨g, cap, rfl, hg, (Array.getElem?_eq_some_iff.1 hb).1, fun j hj => ?_⟩
    rw [Nat.zero_add]
    have := h.own.cells (g := g) rfl j (.int .i64 (xs.getD j 0)) (by simp [List.getD_eq_getElem?_getD, hj])
    have e : ((⟨g, 0, none⟩ : Addr).add j) = ⟨g, j, none⟩ := by
      unfold Addr.add
      by_cases h : j = 0
      · subst h; rfl
      · rw [if_neg h]; simp
    rwa [e] at this
def edgeXs (s : Sty) : List Int := if mayS s = true then [s.p0.v, s.p1.v, s.p2.v, s.p3.v] else []
def edgeE (s : Sty) : Int := if mayS s = true then 0 else 1400
/-- what a style's paddings are answered as -/
def Edges (s : Sty) (w : World) (e : Ending) (w' : World) : Prop := ∃ v, e = .returned (.tuple #[v, .int .i64 (edgeE s)]) ∧ NewInts w w' v (edgeXs s) ∧ Kept w w'
theorem edges_no {s : Sty} (h : mayS s = false) {w w' : World} (k : Kept w w') : Edges s w (.returned (.tuple #[.slice none 0 0, .int .i64 1400])) w' :=
  ⟨_, by unfold edgeE; rw [if_neg (by simp [h])], .inl ⟨rfl, by unfold edgeXs; rw [if_neg (by simp [h])]⟩, k⟩
theorem edges_yes {s : Sty} (h : mayS s = true) {w w' : World} {v : Value} (hv : NewInts w w' v [s.p0.v, s.p1.v, s.p2.v, s.p3.v]) (k : Kept w w') : Edges s w (.returned (.tuple #[v, .int .i64 0])) w' :=
  ⟨_, by unfold edgeE; rw [if_pos h], by unfold edgeXs; rw [if_pos h]; exact hv, k⟩
theorem pad_any (p : Len) (w : World) (h1 : p.k = 1) (h2 : lenB p.k p.v = true) :
    Calls Try.prog 40 #[p.V, .int .i64 0, .int .i64 0] w fun e w' => e = .returned (.int .i64 p.v) ∧ Kept w w' := by
  have := usedLength_any p.k p.v 0 0 w
  rw [h1] at h2 this
  rw [used_px h2 (by decide) (by decide)] at this
  have e : p.V = lenV 1 p.v := by show lenV p.k p.v = _; rw [h1]
  rw [e]; exact this

set_option maxHeartbeats 16000000 in
theorem eqEdges_any (s : Sty) (w : World) :
    Calls Try.prog 23 #[s.V] w (Edges s w) := by
  obtain ⟨i0, hi, hz0, hz1, hz2⟩ := info_parts int_info
  have hk : Kept w w := Kept.refl w
  go_enter Try.func23, Try.ntmps23
  go_wp2_with (refine here_load 26 _ rfl ?_; refine wpList_load_own rfl 26 _ rfl _ rfl (Own.new _ _ _) _ Try.underlying26 rfl (by kernel_rfl) ?_)
  go_wp2_with fail
  refine with_boxes1 ?_
  intro X hX st
  have hsz := hk.size
  replace hk := hk.trans hX
  clear hX
  refine (cascadeMay_any s _).mono ?_
  rintro e w1 ⟨rfl, hn⟩
  replace hk := hk.trans hn
  replace st := st.kept hn
  clear hn
  rcases false_first (mayS s) with h | h
  · have Hs := Lib.hid h
    clear st
    go_wp2
    go_ret2
    exact edges_no Hs.out hk
  have Hs := Lib.hid h
  obtain ⟨_, ⟨b0, b1, b2, b3⟩, _, _⟩ := may_parts h
  obtain ⟨_, _, k0, l0, _⟩ := okM_parts b0
  obtain ⟨_, _, k1, l1, _⟩ := okM_parts b1
  obtain ⟨_, _, k2, l2, _⟩ := okM_parts b2
  obtain ⟨_, _, k3, l3, _⟩ := okM_parts b3
  have Q0 := fun w => pad_any s.p0 w k0 l0
  have Q1 := fun w => pad_any s.p1 w k1 l1
  have Q2 := fun w => pad_any s.p2 w k2 l2
  have Q3 := fun w => pad_any s.p3 w k3 l3
  have P0 := Lib.hid Q0
  have P1 := Lib.hid Q1
  have P2 := Lib.hid Q2
  have P3 := Lib.hid Q3
  clear Q0 Q1 Q2 Q3 k0 k1 k2 k3 l0 l1 l2 l3 b0 b1 b2 b3
  have c16 := st.at 16 _ rfl
  have c17 := st.at 17 _ rfl
  have c18 := st.at 18 _ rfl
  have c19 := st.at 19 _ rfl
  have c20 := st.at 20 _ rfl
  have c21 := st.at 21 _ rfl
  have c22 := st.at 22 _ rfl
  have c23 := st.at 23 _ rfl
  go_wp2
  clear h c16 c17 c18 c19 c20 c21 c22 c23
  clear st
  have ro := RowI.nil w w1
  refine wp_loop_rounds 5 ?_
  rw [rounds_succ]
  have hix : ∀ W, Sem.run Try.prog (Instr.index 24 (.agg #[.int .i64 s.p0.k, .int .i64 s.p0.v, .int .i64 s.p1.k, .int .i64 s.p1.v, .int .i64 s.p2.k, .int .i64 s.p2.v, .int .i64 s.p3.k, .int .i64 s.p3.v]) (.int .i64 0)) W = .ok (.agg #[.int .i64 s.p0.k, .int .i64 s.p0.v]) W := fun _ => by kernel_rfl
  go_wp2_with fail
  refine with_boxes1 ?_
  intro X hX B0
  have hsz := hk.size
  replace hk := hk.trans hX
  replace ro := ro.kept hX
  clear hX B0
  refine (P0.out _).mono ?_
  rintro e w1 ⟨rfl, hn⟩
  replace hk := hk.trans hn
  replace ro := ro.kept hn
  clear hn
  clear hix
  go_wp2_with (at_builtin; refine wpList_append_own _ rfl _ _ 48 rfl w.heap.size 3 i0 (.int .i64 0) 1 8 Try.underlying48 hi hz0 hz1 hz2 rfl (by decide) _ _ _ rfl (ro.own.alloc _) ⟨w1.heap.size, 0, none⟩ 1 1 [.int .i64 s.p0.v] rfl rfl (lit_cells w1 #[.int .i64 s.p0.v] 3) (by simp [Value.oneCell']) (by simp [maxLen]) (by simp) (by have := hk.size; simp; omega) ?_; intro v0 w2 ro2 hg2 _)
  replace hk := (hk.alloc _).grown hg2 (row_ge ro.own)
  replace ro := RowI.snoc (xs := []) (z := s.p0.v) rfl ro2
  clear hg2 ro2
  rw [rounds_succ]
  have hix : ∀ W, Sem.run Try.prog (Instr.index 24 (.agg #[.int .i64 s.p0.k, .int .i64 s.p0.v, .int .i64 s.p1.k, .int .i64 s.p1.v, .int .i64 s.p2.k, .int .i64 s.p2.v, .int .i64 s.p3.k, .int .i64 s.p3.v]) (.int .i64 1)) W = .ok (.agg #[.int .i64 s.p1.k, .int .i64 s.p1.v]) W := fun _ => by kernel_rfl
  go_wp2_with fail
  refine with_boxes1 ?_
  intro X hX B0
  have hsz := hk.size
  replace hk := hk.trans hX
  replace ro := ro.kept hX
  clear hX B0
  refine (P1.out _).mono ?_
  rintro e w1 ⟨rfl, hn⟩
  replace hk := hk.trans hn
  replace ro := ro.kept hn
  clear hn
  clear hix
  go_wp2_with (at_builtin; refine wpList_append_own _ rfl _ _ 48 rfl w.heap.size 3 i0 (.int .i64 0) 1 8 Try.underlying48 hi hz0 hz1 hz2 rfl (by decide) _ _ _ rfl (ro.own.alloc _) ⟨w1.heap.size, 0, none⟩ 1 1 [.int .i64 s.p1.v] rfl rfl (lit_cells w1 #[.int .i64 s.p1.v] 3) (by simp [Value.oneCell']) (by simp [maxLen]) (by simp) (by have := hk.size; simp; omega) ?_; intro v1 w3 ro2 hg2 _)
  replace hk := (hk.alloc _).grown hg2 (row_ge ro.own)
  replace ro := RowI.snoc (xs := [s.p0.v]) (z := s.p1.v) rfl ro2
  clear hg2 ro2
  rw [rounds_succ]
  have hix : ∀ W, Sem.run Try.prog (Instr.index 24 (.agg #[.int .i64 s.p0.k, .int .i64 s.p0.v, .int .i64 s.p1.k, .int .i64 s.p1.v, .int .i64 s.p2.k, .int .i64 s.p2.v, .int .i64 s.p3.k, .int .i64 s.p3.v]) (.int .i64 2)) W = .ok (.agg #[.int .i64 s.p2.k, .int .i64 s.p2.v]) W := fun _ => by kernel_rfl
  go_wp2_with fail
  refine with_boxes1 ?_
  intro X hX B0
  have hsz := hk.size
  replace hk := hk.trans hX
  replace ro := ro.kept hX
  clear hX B0
  refine (P2.out _).mono ?_
  rintro e w1 ⟨rfl, hn⟩
  replace hk := hk.trans hn
  replace ro := ro.kept hn
  clear hn
  clear hix
  go_wp2_with (at_builtin; refine wpList_append_own _ rfl _ _ 48 rfl w.heap.size 3 i0 (.int .i64 0) 1 8 Try.underlying48 hi hz0 hz1 hz2 rfl (by decide) _ _ _ rfl (ro.own.alloc _) ⟨w1.heap.size, 0, none⟩ 1 1 [.int .i64 s.p2.v] rfl rfl (lit_cells w1 #[.int .i64 s.p2.v] 3) (by simp [Value.oneCell']) (by simp [maxLen]) (by simp) (by have := hk.size; simp; omega) ?_; intro v2 w4 ro2 hg2 _)
  replace hk := (hk.alloc _).grown hg2 (row_ge ro.own)
  replace ro := RowI.snoc (xs := [s.p0.v, s.p1.v]) (z := s.p2.v) rfl ro2
  clear hg2 ro2
  rw [rounds_succ]
  have hix : ∀ W, Sem.run Try.prog (Instr.index 24 (.agg #[.int .i64 s.p0.k, .int .i64 s.p0.v, .int .i64 s.p1.k, .int .i64 s.p1.v, .int .i64 s.p2.k, .int .i64 s.p2.v, .int .i64 s.p3.k, .int .i64 s.p3.v]) (.int .i64 3)) W = .ok (.agg #[.int .i64 s.p3.k, .int .i64 s.p3.v]) W := fun _ => by kernel_rfl
  go_wp2_with fail
  refine with_boxes1 ?_
  intro X hX B0
  have hsz := hk.size
  replace hk := hk.trans hX
  replace ro := ro.kept hX
  clear hX B0
  refine (P3.out _).mono ?_
  rintro e w1 ⟨rfl, hn⟩
  replace hk := hk.trans hn
  replace ro := ro.kept hn
  clear hn
  clear hix
  go_wp2_with (at_builtin; refine wpList_append_own _ rfl _ _ 48 rfl w.heap.size 3 i0 (.int .i64 0) 1 8 Try.underlying48 hi hz0 hz1 hz2 rfl (by decide) _ _ _ rfl (ro.own.alloc _) ⟨w1.heap.size, 0, none⟩ 1 1 [.int .i64 s.p3.v] rfl rfl (lit_cells w1 #[.int .i64 s.p3.v] 3) (by simp [Value.oneCell']) (by simp [maxLen]) (by simp) (by have := hk.size; simp; omega) ?_; intro v3 w5 ro2 hg2 _)
  replace hk := (hk.alloc _).grown hg2 (row_ge ro.own)
  replace ro := RowI.snoc (xs := [s.p0.v, s.p1.v, s.p2.v]) (z := s.p3.v) rfl ro2
  clear hg2 ro2
  rw [rounds_succ]
  go_wp2
  go_ret2
  exact edges_yes Hs.out ro.new hk
set_option maxHeartbeats 4000000 in
theorem refEdges_any (s : Sty) (w : World) :
    Calls Try.prog 24 #[s.V] w (Edges s w) := by
  have hk : Kept w w := Kept.refl w
  go_enter Try.func24, Try.ntmps24
  go_wp2_with (refine here_load 26 _ rfl ?_; refine wpList_load_own rfl 26 _ rfl _ rfl (Own.new _ _ _) _ Try.underlying26 rfl (by kernel_rfl) ?_)
  go_wp2_with fail
  refine with_boxes1 ?_
  intro X hX st
  have hsz := hk.size
  replace hk := hk.trans hX
  clear hX
  refine (refStyleMay_any s _).mono ?_
  rintro e w1 ⟨rfl, hn⟩
  replace hk := hk.trans hn
  replace st := st.kept hn
  clear hn
  rcases false_first (mayS s) with h | h
  · have Hs := Lib.hid h
    clear st
    go_wp2
    go_ret2
    exact edges_no Hs.out hk
  have Hs := Lib.hid h
  have c17 := st.at 17 _ rfl
  have c19 := st.at 19 _ rfl
  have c21 := st.at 21 _ rfl
  have c23 := st.at 23 _ rfl
  go_wp2
  go_ret2
  exact edges_yes Hs.out (NewInts.earlier (NewInts.of_lit w1 3 [s.p0.v, s.p1.v, s.p2.v, s.p3.v]) hk) (hk.alloc _)

end Go.Proofs.Ytpkphohgnelajaa
