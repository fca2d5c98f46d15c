/- Slices of structs of numbers that come in, opened. -/
import Derived.Test.YtkonpnaedniceaaRow
import Derived.ChangeOld
import Derived.Deep.Slices
import Derived.Deep.Strs
import Derived.Deep.Fields
namespace Go.Proofs.Ytkonpnaedniceaa
open Go.RowKit Go.Deep Go.ChangeShapes Go.WideShapes
set_option linter.unusedSimpArgs false
set_option linter.unusedVariables false
def inInt (a : Int) : Prop := -9223372036854775808 ≤ a ∧ a ≤ 9223372036854775807
theorem inInt_0 : inInt 0 := ⟨by decide, by decide⟩
/-- all cells of a type are numbers -/
def IntCells (P : Program) (t : TypeId) : Prop :=
  ∀ (H : Type) (enc : TypeId × Value → H) (w : World) (base : Nat) (spare : Nat → Bool) (held : Bool) (fuel : Nat) (cs : List Value) (y : DataW H × List MemPlace),
    DataW.trod enc P w base spare held fuel t cs = some y → cs.length = P.cellsOf t ∧ ∀ j, j < P.cellsOf t → ∃ a : Int, cs[j]? = some (.int .i64 a) ∧ inInt a
theorem intCells_int {P : Program} {t : TypeId} (ht : P.underlying t = some (.int .i64)) (hc : P.cellsOf t = 1) : IntCells P t := by
  intro H enc w base spare held fuel cs y h
  obtain ⟨a, e, _, wf⟩ := DataW.trod_int ht h
  subst e
  rw [hc]
  refine ⟨rfl, fun j hj => ?_⟩
  obtain rfl : j = 0 := by omega
  exact ⟨a, rfl, bounds_i64 wf⟩
theorem intCells_struct {P : Program} {t : TypeId} {fs : Array Field} (ht : P.underlying t = some (.struct fs))
    (hall : ∀ j, j < P.cellsOf t → ∃ (i : Nat) (f : Field), fs[i]? = some f ∧ f.offset ≤ j ∧ j < f.offset + P.cellsOf f.type ∧ IntCells P f.type) : IntCells P t := by
  intro H enc w base spare held fuel cs y h
  obtain ⟨xs, m, _, hx, hl, hlen, hg⟩ := DataW.trod_struct ht h
  refine ⟨hl, fun j hj => ?_⟩
  obtain ⟨i, f, hf, h1, h2, hi⟩ := hall j hj
  have g := hg i f hf
  have hxs : i < xs.length := by
    have := (Array.getElem?_eq_some_iff.1 hf).1
    simpa [hlen] using this
  obtain ⟨z, hz⟩ : ∃ z, DataW.trod enc P w base spare held m f.type ((cs.drop f.offset).take (P.cellsOf f.type)) = some z := by
    rw [g]; exact ⟨_, List.getElem?_eq_getElem hxs⟩
  obtain ⟨_, hc⟩ := hi H enc w base spare held m _ z hz
  obtain ⟨a, ha, hb⟩ := hc (j - f.offset) (by omega)
  refine ⟨a, ?_, hb⟩
  rw [List.getElem?_take_of_lt (by omega), List.getElem?_drop] at ha
  rwa [show f.offset + (j - f.offset) = j by omega] at ha
theorem open_rows {H : Type} {enc : TypeId × Value → H} {P : Program} {w : World} {base : Nat} {spare : Nat → Bool} {held : Bool} {t e : TypeId} {k fuel : Nat} {cs : List Value} {x : DataW H × List MemPlace} (ht : P.underlying t = some (.slice e))
    (ce : P.cellsOf e = k) (hk : 0 < k) (hi : IntCells P e) (h : DataW.trod enc P w base spare held fuel t cs = some x) :
    (∃ o cap, cs = [.slice o 0 cap] ∧ cap ≤ maxLen) ∨
    ∃ (b off : Nat) (len cap : Nat) (elems rest : List (DataW H)) (Z : Nat → Nat → Int), cs = [.slice (some ⟨b, off, none⟩) len cap] ∧ 0 < len ∧ len ≤ cap ∧ cap ≤ maxLen ∧
      x.1 = .slice elems rest ∧ elems.length = len ∧ RowAt w b off k len (intC Z) ∧ ∀ i j, inInt (Z i j) := by
  rcases open_slice ht h with ⟨h0, h1⟩ | ⟨a, len, cap, m, n, D, Pl, rfl, hb, hl, hm, hmm, rfl, hx⟩
  · exact .inl ⟨none, 0, h0, by decide⟩
  rcases Nat.eq_zero_or_pos len with rfl | hpos
  · exact .inl ⟨some a, cap, rfl, hm⟩
  right
  obtain ⟨b, off, sp⟩ := a
  have hlm : len ≤ m := by rw [hmm]; split <;> omega
  have each : ∀ i, i < len → ∃ z : Nat → Int, ∀ j, j < k → w.cell? ((⟨b, off, sp⟩ : Addr).add (i * k) |>.add j) = some (.int .i64 (z j)) ∧ inInt (z j) := by
    intro i hi'
    obtain ⟨cs', h1, h2⟩ := hx i (by omega)
    rw [ce] at h1
    obtain ⟨_, hlen, hcell⟩ := World.cells?_some h1
    obtain ⟨_, hc⟩ := hi H enc w base spare held n cs' _ h2
    rw [ce] at hc
    refine choose_lt (p := fun j z => w.cell? ((⟨b, off, sp⟩ : Addr).add (i * k) |>.add j) = some (.int .i64 z) ∧ inInt z) fun j hj => ?_
    obtain ⟨a, ha, hb⟩ := hc j hj
    exact ⟨a, (hcell j hj).trans ha, hb⟩
  obtain rfl : sp = none := by
    obtain ⟨z, hz⟩ := each 0 hpos
    exact row_spot (off := off) (w := w) (b := b) (v := .int .i64 (z 0)) (by simpa [Addr.add] using (hz 0 hk).1)
  obtain ⟨F, hF⟩ := choose_lt each
  refine ⟨b, off, len, cap, _, _, fun i j => if i < len ∧ j < k then F i j else 0, rfl, hpos, hl, hm, rfl, by simp, fun i j hi' hj => ?_, fun i j => ?_⟩
  · have := (hF i hi' j hj).1
    rw [row_add, row_add] at this
    rw [this]
    simp [intC, hi', hj]
  · show inInt (if i < len ∧ j < k then F i j else 0)
    split
    · rename_i hh; exact (hF i hh.1 j hh.2).2
    · unfold inInt; omega
/-- k numbers as a struct -/
def stV (k : Nat) (Y : Nat → Int) : Value := .agg ((List.range k).map fun j => Value.int .i64 (Y j)).toArray
theorem open_struct {H : Type} {enc : TypeId × Value → H} {P : Program} {w : World} {base : Nat} {spare : Nat → Bool} {held : Bool} {t : TypeId} {fs : Array Field} {k : Nat} {r : Reach} {b0 : Nat} {v : Value} {d : DataW H} {p : List MemPlace}
    (ht : P.underlying t = some (.struct fs)) (ce : P.cellsOf t = k) (hi : IntCells P t) (hv : Value.okWide P w r b0 t v) (h : DataW.Trod enc P w base spare held t v d p) :
    ∃ Y : Nat → Int, v = stV k Y ∧ ∀ j, inInt (Y j) := by
  obtain ⟨cs, rfl, hsz⟩ := okWide_struct ht hv
  rw [ce] at hsz
  obtain ⟨fuel, hf⟩ := h
  obtain ⟨_, hc⟩ := hi H enc w base spare held fuel _ _ hf
  rw [ce] at hc
  obtain ⟨Y, hY⟩ := choose_lt hc
  refine ⟨fun j => if j < k then Y j else 0, ?_, fun j => ?_⟩
  · show Value.agg cs = Value.agg _
    congr 1
    apply Array.ext
    · simp [hsz]
    · intro j h1 h2
      have := (hY j (by omega)).1
      have hj : j < k := by omega
      simp [Value.cells, Array.getElem?_eq_getElem h1] at this
      simp [hj, this]
  · show inInt (if j < k then Y j else 0)
    split
    · rename_i hh; exact (hY j hh).2
    · unfold inInt; omega
end Go.Proofs.Ytkonpnaedniceaa
