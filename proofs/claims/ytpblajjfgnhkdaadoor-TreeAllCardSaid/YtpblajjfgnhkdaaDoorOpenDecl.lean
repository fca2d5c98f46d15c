/- Slices of declarations, opened. -/
import Derived.Test.YtpblajjfgnhkdaaDoorDeclC
import Derived.Test.YtpblajjfgnhkdaaDoorOpenRow
import Derived.SizedLaws
namespace Go.Proofs.YtpblajjfgnhkdaaDoor
open Go.RowKit Go.Deep Go.ChangeShapes Go.WideShapes
set_option linter.unusedSimpArgs false
set_option linter.unusedVariables false
theorem weightsAll_mem {H : Type} {P : Program} {e : TypeId} {n : Nat} : ∀ {l : List (DataW H)} {i : Nat} {d : DataW H}, l[i]? = some d → n ∈ d.weights P e → n ∈ DataW.weightsAll P e l := by
  intro l
  induction l with
  | nil => intro i d h; cases h
  | cons x l ih =>
    intro i d h hn
    unfold DataW.weightsAll
    cases i with
    | zero =>
      simp only [List.getElem?_cons_zero, Option.some.injEq] at h
      subst h
      exact List.mem_append_left _ hn
    | succ i => exact List.mem_append_right _ (ih (by simpa using h) hn)
theorem open_decls {H : Type} {enc : TypeId × Value → H} {P : Program} {w : World} {base : Nat} {spare : Nat → Bool} {held : Bool} {t e : TypeId} {f0 f1 : Field} {fuel : Nat} {cs : List Value} {x : DataW H × List MemPlace} (ht : P.underlying t = some (.slice e)) (he : P.underlying e = some (.struct #[f0, f1]))
    (ce : P.cellsOf e = 2) (o0 : f0.offset = 0) (o1 : f1.offset = 1) (c0 : P.cellsOf f0.type = 1) (c1 : P.cellsOf f1.type = 1) (u0 : P.underlying f0.type = some (.int .i64)) (u1 : P.underlying f1.type = some .string)
    (h : DataW.trod enc P w base spare held fuel t cs = some x) :
    (∃ o cap, cs = [.slice o 0 cap] ∧ cap ≤ maxLen) ∨
    ∃ (b off : Nat) (len cap : Nat) (elems rest : List (DataW H)) (Z : Nat → Int) (T : Nat → ByteArray), cs = [.slice (some ⟨b, off, none⟩) len cap] ∧ 0 < len ∧ len ≤ cap ∧ cap ≤ maxLen ∧
      x.1 = .slice elems rest ∧ elems.length = len ∧ RowAt w b off 2 len (declC Z T) ∧ (∀ i, i < len → inInt (Z i)) ∧ ∀ i, i < len → elems[i]? = some (.agg [.lit (.int .i64 (Z i)), .lit (.string (T i).data.toList)]) := by
  rcases open_slice ht h with ⟨h0, h1⟩ | ⟨a, len, cap, m, n, D, Pl, rfl, hb, hl, hm, hmm, rfl, hx⟩
  · exact .inl ⟨none, 0, h0, by decide⟩
  rcases Nat.eq_zero_or_pos len with rfl | hpos
  · exact .inl ⟨some a, cap, rfl, hm⟩
  right
  obtain ⟨b, off, sp⟩ := a
  have hlm : len ≤ m := by rw [hmm]; split <;> omega
  obtain rfl : sp = none := by
    obtain ⟨cs', h1, h2⟩ := hx 0 (by omega)
    rw [ce] at h1
    obtain ⟨_, hlen, hcell⟩ := World.cells?_some h1
    have e0 := hcell 0 (by omega)
    match cs', hlen with
    | [v0, v1], _ => exact row_spot (off := off) (w := w) (b := b) (v := v0) (by simpa [Addr.add] using e0)
  have each : ∀ i, i < len → ∃ q : ByteArray × Int, w.cell? ⟨b, off + i * 2, none⟩ = some (.int .i64 q.2) ∧ w.cell? ⟨b, off + i * 2 + 1, none⟩ = some (.string q.1) ∧ inInt q.2 ∧ D i = .agg [.lit (.int .i64 q.2), .lit (.string q.1.data.toList)] := by
    intro i hi
    obtain ⟨cs', h1, h2⟩ := hx i (by omega)
    rw [ce] at h1
    obtain ⟨_, hlen, hcell⟩ := World.cells?_some h1
    obtain ⟨y0, y1, k, hxy, _, g0, g1⟩ := trod_struct2 he h2
    match cs', hlen with
    | [v0, v1], _ =>
      simp [o0, o1, c0, c1] at g0 g1
      obtain ⟨p, hp, hp2, wp⟩ := DataW.trod_int u0 g0
      obtain ⟨s, hs, hs2, hz⟩ := DataW.trod_string u1 g1
      simp only [List.cons.injEq, and_true] at hs hp
      subst hs hp hp2 hs2
      have e0 := hcell 0 (by omega)
      have e1 := hcell 1 (by omega)
      rw [row_add, row_add] at e0 e1
      refine ⟨(s, p), by simpa using e0, by simpa [Nat.add_assoc] using e1, bounds_i64 wp, ?_⟩
      have := congrArg Prod.fst hxy
      simpa using this
  have each' : ∃ q : Nat → ByteArray × Int, ∀ i, i < len → w.cell? ⟨b, off + i * 2, none⟩ = some (.int .i64 (q i).2) ∧ w.cell? ⟨b, off + i * 2 + 1, none⟩ = some (.string (q i).1) ∧ inInt (q i).2 ∧ D i = .agg [.lit (.int .i64 (q i).2), .lit (.string (q i).1.data.toList)] := by
    haveI : Inhabited ByteArray := ⟨ByteArray.empty⟩
    exact choose_lt each
  obtain ⟨q, hq⟩ := each'
  refine ⟨b, off, len, cap, _, _, fun i => (q i).2, fun i => (q i).1, rfl, hpos, hl, hm, rfl, by simp, fun i j hi hj => ?_, fun i hi => (hq i hi).2.2.1, fun i hi => ?_⟩
  · rcases (by omega : j = 0 ∨ j = 1) with rfl | rfl
    · exact (hq i hi).1
    · exact (hq i hi).2.1
  · rw [List.getElem?_map, List.getElem?_range hi]
    exact congrArg some (hq i hi).2.2.2
theorem decl_size {H : Type} {P : Program} {ts : List TypeId} {ds : List (DataW H)} (h : (DataW.weightsEach P ts ds).all (· ≤ reachBytes) = true) {j : Nat} {t e : TypeId} {f0 f1 : Field} {elems spare : List (DataW H)} (ht : ts[j]? = some t) (hd : ds[j]? = some (.slice elems spare)) (hu : P.underlying t = some (.slice e))
    (he : P.underlying e = some (.struct #[f0, f1])) {i : Nat} {z : Int} {s : ByteArray} (hi : elems[i]? = some (.agg [.lit (.int .i64 z), .lit (.string s.data.toList)])) : s.size ≤ reachBytes := by
  have := List.all_eq_true.1 h _ (DataW.weights_mem_each ht hd s.data.toList.length (by
    simp only [DataW.weights, hu]
    refine List.mem_cons_of_mem _ (List.mem_append_left _ (weightsAll_mem hi ?_))
    simp [DataW.weights, he, DataW.weightsEach]))
  have e : s.data.toList.length = s.size := Array.length_toList
  rw [e] at this
  simpa using this
end Go.Proofs.YtpblajjfgnhkdaaDoor
