/- A style that comes in, opened to its numbers. -/
import Derived.Test.YtnbagilcbngdcaaDoorMg1
import Derived.ChangeOld
import Derived.Lib.SmallJoins
import Derived.Deep.Fields
namespace Go.Proofs.YtnbagilcbngdcaaDoor
open Go.Joins Go.ChangeShapes Go.WideShapes Go.RowKit Go.Deep
set_option linter.unusedSimpArgs false
set_option linter.unusedVariables false
section
variable {H : Type} {enc : TypeId × Value → H} {w : World} {base : Nat} {spare : Nat → Bool} {held : Bool}
theorem trodInt {n : Nat} {v : Value} {y : DataW H × List MemPlace} (h : DataW.trod enc Tryd.prog w base spare held n 3 [v] = some y) : ∃ a : Int, v = .int .i64 a ∧ -9223372036854775808 ≤ a ∧ a ≤ 9223372036854775807 := by
  obtain ⟨a, e, rfl, wf⟩ := DataW.trod_int Tryd.underlying3 h
  simp at e
  subst e
  have b := bounds_i64 wf
  exact ⟨a, rfl, b⟩
theorem trodBool {n : Nat} {v : Value} {y : DataW H × List MemPlace} (h : DataW.trod enc Tryd.prog w base spare held n 4 [v] = some y) : ∃ a : Bool, v = .bool a := by
  obtain ⟨a, e, rfl⟩ := DataW.trod_bool Tryd.underlying4 h
  simp at e
  exact ⟨a, e⟩
theorem cells_int : Tryd.prog.cellsOf 3 = 1 := by kernel_rfl
theorem cells_bool : Tryd.prog.cellsOf 4 = 1 := by kernel_rfl
theorem cells_len : Tryd.prog.cellsOf 23 = 2 := by kernel_rfl
theorem cells_four : Tryd.prog.cellsOf 40 = 8 := by kernel_rfl
theorem cells_sty : Tryd.prog.cellsOf 42 = 32 := by kernel_rfl
theorem trodLen {n : Nat} {v u : Value} {y : DataW H × List MemPlace} (h : DataW.trod enc Tryd.prog w base spare held n 23 [v, u] = some y) :
    ∃ x : Len, v = .int .i64 x.k ∧ u = .int .i64 x.v := by
  obtain ⟨xs, m, _, hx, _, hlen, hg⟩ := DataW.trod_struct Tryd.underlying23 h
  have h0 := hg 0 _ rfl
  have h1 := hg 1 _ rfl
  match xs, hlen with
  | [y0, y1], _ =>
    have g0 : DataW.trod enc Tryd.prog w base spare held m 3 [v] = some y0 := by simpa [cells_int] using h0
    have g1 : DataW.trod enc Tryd.prog w base spare held m 3 [u] = some y1 := by simpa [cells_int] using h1
    obtain ⟨a, rfl, _⟩ := trodInt g0
    obtain ⟨b, rfl, _⟩ := trodInt g1
    exact ⟨⟨a, b⟩, rfl, rfl⟩
theorem trodFour {n : Nat} {c0 c1 c2 c3 c4 c5 c6 c7 : Value} {y : DataW H × List MemPlace} (h : DataW.trod enc Tryd.prog w base spare held n 40 [c0, c1, c2, c3, c4, c5, c6, c7] = some y) :
    ∃ x0 x1 x2 x3 : Len, (c0 = .int .i64 x0.k ∧ c1 = .int .i64 x0.v) ∧ (c2 = .int .i64 x1.k ∧ c3 = .int .i64 x1.v) ∧ (c4 = .int .i64 x2.k ∧ c5 = .int .i64 x2.v) ∧ c6 = .int .i64 x3.k ∧ c7 = .int .i64 x3.v := by
  obtain ⟨xs, m, _, hx, _, hlen, hg⟩ := DataW.trod_array Tryd.underlying40 h
  have h0 := hg 0 (by decide)
  have h1 := hg 1 (by decide)
  have h2 := hg 2 (by decide)
  have h3 := hg 3 (by decide)
  match xs, hlen with
  | [y0, y1, y2, y3], _ =>
    obtain ⟨x0, a0, b0⟩ := trodLen (y := y0) (by simpa [cells_len] using h0)
    obtain ⟨x1, a1, b1⟩ := trodLen (y := y1) (by simpa [cells_len] using h1)
    obtain ⟨x2, a2, b2⟩ := trodLen (y := y2) (by simpa [cells_len] using h2)
    obtain ⟨x3, a3, b3⟩ := trodLen (y := y3) (by simpa [cells_len] using h3)
    exact ⟨x0, x1, x2, x3, ⟨a0, b0⟩, ⟨a1, b1⟩, ⟨a2, b2⟩, a3, b3⟩
set_option maxHeartbeats 4000000 in
set_option maxRecDepth 20000 in
theorem trodSty {n : Nat} {l : List Value} {y : DataW H × List MemPlace} (hl : l.length = 32) (h : DataW.trod enc Tryd.prog w base spare held n 42 l = some y) : ∃ s : Sty, l = s.C.toList := by
  obtain ⟨xs, m, _, hx, _, hlen, hg⟩ := DataW.trod_struct Tryd.underlying42 h
  clear h
  match l, hl with
  | [c0, c1, c2, c3, c4, c5, c6, c7, c8, c9, c10, c11, c12, c13, c14, c15, c16, c17, c18, c19, c20, c21, c22, c23, c24, c25, c26, c27, c28, c29, c30, c31], _ =>
    match xs, hlen with
    | [y0, y1, y2, y3, y4, y5, y6, y7, y8, y9, y10, y11, y12], _ =>
      obtain ⟨inl, a0, b0⟩ := trodLen (n := m) (v := c0) (u := c1) (y := y0) (by simpa [cells_len] using hg 0 _ rfl)
      obtain ⟨blk, a1, b1⟩ := trodLen (n := m) (v := c2) (u := c3) (y := y1) (by simpa [cells_len] using hg 1 _ rfl)
      obtain ⟨mn, a2, b2⟩ := trodLen (n := m) (v := c4) (u := c5) (y := y2) (by simpa [cells_len] using hg 2 _ rfl)
      obtain ⟨mx, a3, b3⟩ := trodLen (n := m) (v := c6) (u := c7) (y := y3) (by simpa [cells_len] using hg 3 _ rfl)
      obtain ⟨m0, m1, m2, m3, ⟨a4, b4⟩, ⟨a5, b5⟩, ⟨a6, b6⟩, a7, b7⟩ := trodFour (n := m) (c0 := c8) (c1 := c9) (c2 := c10) (c3 := c11) (c4 := c12) (c5 := c13) (c6 := c14) (c7 := c15) (y := y4) (by simpa [cells_four] using hg 4 _ rfl)
      obtain ⟨p0, p1, p2, p3, ⟨a8, b8⟩, ⟨a9, b9⟩, ⟨a10, b10⟩, a11, b11⟩ := trodFour (n := m) (c0 := c16) (c1 := c17) (c2 := c18) (c3 := c19) (c4 := c20) (c5 := c21) (c6 := c22) (c7 := c23) (y := y5) (by simpa [cells_four] using hg 5 _ rfl)
      obtain ⟨bas, a12, b12⟩ := trodLen (n := m) (v := c24) (u := c25) (y := y6) (by simpa [cells_len] using hg 6 _ rfl)
      obtain ⟨grow, a13, _⟩ := trodInt (n := m) (v := c26) (y := y7) (by simpa [cells_int] using hg 7 _ rfl)
      obtain ⟨shrink, a14, _⟩ := trodInt (n := m) (v := c27) (y := y8) (by simpa [cells_int] using hg 8 _ rfl)
      obtain ⟨align, a15, _⟩ := trodInt (n := m) (v := c28) (y := y9) (by simpa [cells_int] using hg 9 _ rfl)
      obtain ⟨items, a16, _⟩ := trodInt (n := m) (v := c29) (y := y10) (by simpa [cells_int] using hg 10 _ rfl)
      obtain ⟨just, a17, _⟩ := trodInt (n := m) (v := c30) (y := y11) (by simpa [cells_int] using hg 11 _ rfl)
      obtain ⟨wrap, a18⟩ := trodBool (n := m) (v := c31) (y := y12) (by simpa [cells_bool] using hg 12 _ rfl)
      clear hg hx
      subst a0 b0 a1 b1 a2 b2 a3 b3 a4 b4 a5 b5 a6 b6 a7 b7 a8 b8 a9 b9 a10 b10 a11 b11 a12 b12 a13 a14 a15 a16 a17 a18
      exact ⟨⟨inl, blk, mn, mx, m0, m1, m2, m3, p0, p1, p2, p3, bas, grow, shrink, align, items, just, wrap⟩, rfl⟩
set_option maxRecDepth 20000 in
theorem open_sty {r : Reach} {b0 : Nat} {v : Value} {d : DataW H} {p : List MemPlace} (hv : Value.okWide Tryd.prog w r b0 42 v) (h : DataW.Trod enc Tryd.prog w base spare held 42 v d p) :
    ∃ s : Sty, v = s.V := by
  obtain ⟨cs, rfl, hsz⟩ := okWide_struct Tryd.underlying42 hv
  rw [cells_sty] at hsz
  obtain ⟨fuel, hf⟩ := h
  obtain ⟨s, hs⟩ := trodSty (l := cs.toList) (by simpa using hsz) (by simpa [Value.cells] using hf)
  exact ⟨s, by rw [show cs = s.C from Array.toList_inj.1 hs]⟩
end
end Go.Proofs.YtnbagilcbngdcaaDoor
