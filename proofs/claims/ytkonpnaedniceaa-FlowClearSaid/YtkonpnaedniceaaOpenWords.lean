/- Slices of words, opened. -/
import Derived.Test.YtkonpnaedniceaaEach
import Derived.Deep.Slices
import Derived.Deep.Strs
namespace Go.Proofs.Ytkonpnaedniceaa
open Go.RowKit Go.Deep Go.ChangeShapes Go.WideShapes
set_option linter.unusedSimpArgs false
set_option linter.unusedVariables false
/-- texts, advances and spaces of words that lie in a row -/
structure WordsAt (w : World) (b off n : Nat) (S : Nat → ByteArray) (A G : Nat → Int) : Prop where
  text : ∀ i, i < n → w.cell? ⟨b, off + i * 3, none⟩ = some (.string (S i))
  adv : ∀ i, i < n → w.cell? ⟨b, off + i * 3 + 1, none⟩ = some (.int .i64 (A i))
  gap : ∀ i, i < n → w.cell? ⟨b, off + i * 3 + 2, none⟩ = some (.int .i64 (G i))
theorem WordsAt.kept {w w' : World} {b off n : Nat} {S : Nat → ByteArray} {A G : Nat → Int} (h : WordsAt w b off n S A G) (k : Kept w w') : WordsAt w' b off n S A G :=
  ⟨fun i hi => (k.cell (World.block_lt_of_cell? w _ (h.text i hi))).trans (h.text i hi), fun i hi => (k.cell (World.block_lt_of_cell? w _ (h.adv i hi))).trans (h.adv i hi), fun i hi => (k.cell (World.block_lt_of_cell? w _ (h.gap i hi))).trans (h.gap i hi)⟩
theorem WordsAt.lt {w : World} {b off n : Nat} {S : Nat → ByteArray} {A G : Nat → Int} (h : WordsAt w b off n S A G) (hn : 0 < n) : b < w.heap.size := World.block_lt_of_cell? w _ (h.text 0 hn)
/-- numbers and texts as they may be -/
structure Fair (n : Nat) (S : Nat → ByteArray) (A G : Nat → Int) : Prop where
  text : ∀ i, i < n → (S i).size ≤ maxLen
  adv : ∀ i, i < n → -9223372036854775808 ≤ A i ∧ A i ≤ 9223372036854775807
  gap : ∀ i, i < n → -9223372036854775808 ≤ G i ∧ G i ≤ 9223372036854775807
theorem plain_add (b off n : Nat) : ((⟨b, off, none⟩ : Addr).add n) = ⟨b, off + n, none⟩ := by
  unfold Addr.add
  by_cases h : n = 0
  · subst h; rfl
  · rw [if_neg h]
theorem spot_none {w : World} {b off : Nat} {sp : Option Nat} {v : Value} (h : w.cell? ⟨b, off, sp⟩ = some v) : sp = none := by
  cases sp with
  | none => rfl
  | some k =>
    exfalso
    unfold World.cell? at h
    split at h
    · simp at h
    · simp at h
theorem open_words {H : Type} {enc : TypeId × Value → H} {P : Program} {w : World} {base : Nat} {spare : Nat → Bool} {held : Bool} {t e : TypeId} {f0 f1 f2 : Field} {fuel : Nat} {cs : List Value} {x : DataW H × List MemPlace} (ht : P.underlying t = some (.slice e)) (he : P.underlying e = some (.struct #[f0, f1, f2]))
    (ce : P.cellsOf e = 3) (o0 : f0.offset = 0) (o1 : f1.offset = 1) (o2 : f2.offset = 2) (c0 : P.cellsOf f0.type = 1) (c1 : P.cellsOf f1.type = 1) (c2 : P.cellsOf f2.type = 1)
    (u0 : P.underlying f0.type = some .string) (u1 : P.underlying f1.type = some (.int .i64)) (u2 : P.underlying f2.type = some (.int .i64))
    (h : DataW.trod enc P w base spare held fuel t cs = some x) :
    (∃ o cap, cs = [.slice o 0 cap] ∧ cap ≤ maxLen) ∨
    ∃ (b off : Nat) (len cap : Nat) (elems rest : List (DataW H)) (S : Nat → ByteArray) (A G : Nat → Int), cs = [.slice (some ⟨b, off, none⟩) len cap] ∧ 0 < len ∧ len ≤ cap ∧ cap ≤ maxLen ∧
      x.1 = .slice elems rest ∧ elems.length = len ∧ WordsAt w b off len S A G ∧ Fair len S A G := by
  rcases open_slice ht h with ⟨h0, h1⟩ | ⟨a, len, cap, m, n, D, Pl, rfl, hb, hl, hm, hmm, rfl, hx⟩
  · exact .inl ⟨none, 0, h0, by decide⟩
  rcases Nat.eq_zero_or_pos len with rfl | hpos
  · exact .inl ⟨some a, cap, rfl, hm⟩
  right
  obtain ⟨b, off, sp⟩ := a
  have hlm : len ≤ m := by rw [hmm]; split <;> omega
  obtain rfl : sp = none := by
    obtain ⟨cs', h1, h2⟩ := hx 0 (by omega)
    rw [ce] at h1
    obtain ⟨_, hlen, hcell⟩ := World.cells?_some h1
    have e0 := hcell 0 (by omega)
    match cs', hlen with
    | [v0, v1, v2], _ => exact spot_none (off := off) (w := w) (b := b) (v := v0) (by simpa [Addr.add] using e0)
  have each : ∀ i, i < len → ∃ q : ByteArray × Int × Int, w.cell? ⟨b, off + i * 3, none⟩ = some (.string q.1) ∧ w.cell? ⟨b, off + i * 3 + 1, none⟩ = some (.int .i64 q.2.1) ∧ w.cell? ⟨b, off + i * 3 + 2, none⟩ = some (.int .i64 q.2.2) ∧
      q.1.size ≤ maxLen ∧ (Lit.int .i64 q.2.1).wf = true ∧ (Lit.int .i64 q.2.2).wf = true := by
    intro i hi
    obtain ⟨cs', h1, h2⟩ := hx i (by omega)
    rw [ce] at h1
    obtain ⟨_, hlen, hcell⟩ := World.cells?_some h1
    obtain ⟨y0, y1, y2, k, hxy, _, g0, g1, g2⟩ := trod_struct3 he h2
    match cs', hlen with
    | [v0, v1, v2], _ =>
      simp [o0, o1, o2, c0, c1, c2] at g0 g1 g2
      obtain ⟨s, hs, _, hz⟩ := DataW.trod_string u0 g0
      obtain ⟨p, hp, _, wp⟩ := DataW.trod_int u1 g1
      obtain ⟨r, hr, _, wr⟩ := DataW.trod_int u2 g2
      simp only [List.cons.injEq, and_true] at hs hp hr
      subst hs hp hr
      have e0 := hcell 0 (by omega)
      have e1 := hcell 1 (by omega)
      have e2 := hcell 2 (by omega)
      rw [add_add, plain_add] at e0 e1 e2
      exact ⟨(s, p, r), by simpa using e0, by simpa [Nat.add_assoc] using e1, by simpa [Nat.add_assoc] using e2, hz, wp, wr⟩
  have each' : ∃ q : Nat → ByteArray × Int × Int, ∀ i, i < len → w.cell? ⟨b, off + i * 3, none⟩ = some (.string (q i).1) ∧ w.cell? ⟨b, off + i * 3 + 1, none⟩ = some (.int .i64 (q i).2.1) ∧ w.cell? ⟨b, off + i * 3 + 2, none⟩ = some (.int .i64 (q i).2.2) ∧
      (q i).1.size ≤ maxLen ∧ (Lit.int .i64 (q i).2.1).wf = true ∧ (Lit.int .i64 (q i).2.2).wf = true := by
    haveI : Inhabited ByteArray := ⟨ByteArray.empty⟩
    exact choose_lt each
  obtain ⟨q, hq⟩ := each'
  exact ⟨b, off, len, cap, _, _, fun i => (q i).1, fun i => (q i).2.1, fun i => (q i).2.2, rfl, hpos, hl, hm, rfl, by simp,
    ⟨fun i hi => (hq i hi).1, fun i hi => (hq i hi).2.1, fun i hi => (hq i hi).2.2.1⟩,
    ⟨fun i hi => (hq i hi).2.2.2.1, fun i hi => bounds_i64 (hq i hi).2.2.2.2.1, fun i hi => bounds_i64 (hq i hi).2.2.2.2.2⟩⟩
end Go.Proofs.Ytkonpnaedniceaa
