/- A box, a rectangle and a size that come in, opened to their numbers. -/
import Derived.Test.YtjehmhgafibgbaaDoorBase
import Derived.ChangeOld
import Derived.Lib.SmallJoins
import Derived.Deep.Fields
namespace Go.Proofs.YtjehmhgafibgbaaDoor
open Go.Joins Go.ChangeShapes Go.WideShapes Go.RowKit Go.Deep
set_option linter.unusedSimpArgs false
set_option linter.unusedVariables false
section
variable {H : Type} {enc : TypeId × Value → H} {w : World} {base : Nat} {spare : Nat → Bool} {held : Bool}
theorem trod_num {n : Nat} {v : Value} {y : DataW H × List MemPlace} (h : DataW.trod enc Tryd.prog w base spare held n 3 [v] = some y) : ∃ a : Int, v = .int .i64 a ∧ y = (.lit (.int .i64 a), []) ∧ -9223372036854775808 ≤ a ∧ a ≤ 9223372036854775807 := by
  obtain ⟨a, e, rfl, wf⟩ := DataW.trod_int Tryd.underlying3 h
  simp at e
  subst e
  have b := bounds_i64 wf
  exact ⟨a, rfl, rfl, b⟩
theorem cellsInt : Tryd.prog.cellsOf 3 = 1 := by kernel_rfl
theorem cellsSize : Tryd.prog.cellsOf 25 = 2 := by kernel_rfl
theorem trod_pair {n : Nat} {v u : Value} {y : DataW H × List MemPlace} (h : DataW.trod enc Tryd.prog w base spare held n 25 [v, u] = some y) :
    ∃ a b : Int, v = .int .i64 a ∧ u = .int .i64 b ∧ y.2 = [] := by
  obtain ⟨xs, m, _, hx, _, hlen, hg⟩ := DataW.trod_struct Tryd.underlying25 h
  have h0 := hg 0 _ rfl
  have h1 := hg 1 _ rfl
  match xs, hlen with
  | [y0, y1], _ =>
    have g0 : DataW.trod enc Tryd.prog w base spare held m 3 [v] = some y0 := by simpa [cellsInt] using h0
    have g1 : DataW.trod enc Tryd.prog w base spare held m 3 [u] = some y1 := by simpa [cellsInt] using h1
    obtain ⟨a, rfl, rfl, _⟩ := trod_num g0
    obtain ⟨b, rfl, rfl, _⟩ := trod_num g1
    refine ⟨a, b, rfl, rfl, ?_⟩
    rw [hx]; rfl
theorem open_size {r : Reach} {b0 : Nat} {v : Value} {d : DataW H} {p : List MemPlace} (hv : Value.okWide Tryd.prog w r b0 25 v) (h : DataW.Trod enc Tryd.prog w base spare held 25 v d p) :
    ∃ a b : Int, v = .agg #[.int .i64 a, .int .i64 b] := by
  obtain ⟨cs, rfl, hsz⟩ := okWide_struct Tryd.underlying25 hv
  rw [cellsSize] at hsz
  obtain ⟨l⟩ := cs
  match l, hsz with
  | [c0, c1], _ =>
    obtain ⟨fuel, hf⟩ := h
    obtain ⟨a, b, rfl, rfl, _⟩ := trod_pair (by simpa [Value.cells] using hf)
    exact ⟨a, b, rfl⟩
theorem open_box {r : Reach} {b0 : Nat} {v : Value} {d : DataW H} {p : List MemPlace} (hv : Value.okWide Tryd.prog w r b0 29 v) (h : DataW.Trod enc Tryd.prog w base spare held 29 v d p) :
    ∃ a b c e : Int, v = .agg #[.int .i64 a, .int .i64 b, .int .i64 c, .int .i64 e] ∧ (-9223372036854775808 ≤ a ∧ a ≤ 9223372036854775807) ∧ -9223372036854775808 ≤ b ∧ b ≤ 9223372036854775807 := by
  obtain ⟨v0, v1, v2, v3, y0, y1, y2, y3, n, rfl, _, _, h0, h1, h2, h3⟩ := open_agg4 Tryd.underlying29 (by kernel_rfl) (by kernel_rfl) hv h
  obtain ⟨a, rfl, _, ha⟩ := trod_num h0
  obtain ⟨b, rfl, _, hb⟩ := trod_num h1
  obtain ⟨c, rfl, _, _⟩ := trod_num h2
  obtain ⟨e, rfl, _, _⟩ := trod_num h3
  exact ⟨a, b, c, e, rfl, ha, hb⟩
theorem cellsRect : Tryd.prog.cellsOf 27 = 4 := by kernel_rfl
theorem open_rect {r : Reach} {b0 : Nat} {v : Value} {d : DataW H} {p : List MemPlace} (hv : Value.okWide Tryd.prog w r b0 27 v) (h : DataW.Trod enc Tryd.prog w base spare held 27 v d p) :
    ∃ a b c e : Int, v = .agg #[.int .i64 a, .int .i64 b, .int .i64 c, .int .i64 e] := by
  obtain ⟨cs, rfl, hsz⟩ := okWide_struct Tryd.underlying27 hv
  rw [cellsRect] at hsz
  obtain ⟨l⟩ := cs
  match l, hsz with
  | [c0, c1, c2, c3], _ =>
    obtain ⟨fuel, hf⟩ := h
    obtain ⟨xs, m, _, hx, _, hlen, hg⟩ := DataW.trod_struct Tryd.underlying27 hf
    have h0 := hg 0 _ rfl
    have h1 := hg 1 _ rfl
    match xs, hlen with
    | [y0, y1], _ =>
      have g0 : DataW.trod enc Tryd.prog w base spare held m 25 [c0, c1] = some y0 := by simpa [cellsSize, Value.cells] using h0
      have g1 : DataW.trod enc Tryd.prog w base spare held m 25 [c2, c3] = some y1 := by simpa [cellsSize, Value.cells] using h1
      obtain ⟨a, b, rfl, rfl, _⟩ := trod_pair g0
      obtain ⟨c, e, rfl, rfl, _⟩ := trod_pair g1
      exact ⟨a, b, c, e, rfl⟩
end
end Go.Proofs.YtjehmhgafibgbaaDoor
