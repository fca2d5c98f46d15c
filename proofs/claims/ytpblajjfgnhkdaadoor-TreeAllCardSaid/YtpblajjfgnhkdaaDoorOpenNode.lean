/- Slices of nodes, opened. -/
import Derived.Test.YtpblajjfgnhkdaaDoorNodes
import Derived.Test.YtpblajjfgnhkdaaDoorOpenDecl
namespace Go.Proofs.YtpblajjfgnhkdaaDoor
open Go.RowKit Go.Deep Go.ChangeShapes Go.WideShapes
set_option linter.unusedSimpArgs false
set_option linter.unusedVariables false
/-- a node's declarations as data -/
def DeclsD {H : Type} (x : Nd) (d : DataW H) : Prop := x.m = 0 ∨ ∃ elems rest : List (DataW H), d = .slice elems rest ∧ elems.length = x.m ∧ ∀ i, i < x.m → elems[i]? = some (.agg [.lit (.int .i64 (x.P i)), .lit (.string (x.T i).data.toList)])
theorem trod_struct6 {H : Type} {enc : TypeId × Value → H} {P : Program} {w : World} {base : Nat} {spare : Nat → Bool} {held : Bool} {t : TypeId} {f0 f1 f2 f3 f4 f5 : Field} {fuel : Nat} {cs : List Value} {x : DataW H × List MemPlace}
    (ht : P.underlying t = some (.struct #[f0, f1, f2, f3, f4, f5])) (h : DataW.trod enc P w base spare held fuel t cs = some x) :
    ∃ (xs : List (DataW H × List MemPlace)) (m : Nat), x = (.agg (xs.map (·.1)), xs.flatMap (·.2)) ∧ xs.length = 6 ∧ ∀ (i : Nat) (f : Field), (#[f0, f1, f2, f3, f4, f5] : Array Field)[i]? = some f → DataW.trod enc P w base spare held m f.type ((cs.drop f.offset).take (P.cellsOf f.type)) = xs[i]? := by
  obtain ⟨xs, m, _, hx, hl, hlen, hg⟩ := DataW.trod_struct ht h
  exact ⟨xs, m, by simpa using hx, by simpa using hlen, hg⟩
theorem open_nodes {H : Type} {enc : TypeId × Value → H} {P : Program} {w : World} {base : Nat} {spare : Nat → Bool} {held : Bool} {t e td : TypeId} {f0 f1 f2 f3 f4 f5 g0 g1 : Field} {fuel : Nat} {cs : List Value} {x : DataW H × List MemPlace} (ht : P.underlying t = some (.slice e)) (he : P.underlying e = some (.struct #[f0, f1, f2, f3, f4, f5]))
    (ce : P.cellsOf e = 6) (o0 : f0.offset = 0) (o1 : f1.offset = 1) (o2 : f2.offset = 2) (o3 : f3.offset = 3) (o4 : f4.offset = 4) (o5 : f5.offset = 5) (ci : P.cellsOf f0.type = 1) (t1 : f1.type = f0.type) (t2 : f2.type = f0.type) (t3 : f3.type = f0.type) (c4 : P.cellsOf f4.type = 1) (c5 : P.cellsOf f5.type = 1)
    (u0 : P.underlying f0.type = some (.int .i64)) (u4 : P.underlying f4.type = some (.slice td)) (u5 : P.underlying f5.type = some .string)
    (hd : P.underlying td = some (.struct #[g0, g1])) (cd : P.cellsOf td = 2) (p0 : g0.offset = 0) (p1 : g1.offset = 1) (d0 : P.cellsOf g0.type = 1) (d1 : P.cellsOf g1.type = 1) (v0 : P.underlying g0.type = some (.int .i64)) (v1 : P.underlying g1.type = some .string)
    (h : DataW.trod enc P w base spare held fuel t cs = some x) :
    (∃ o cap, cs = [.slice o 0 cap] ∧ cap ≤ maxLen) ∨
    ∃ (b off : Nat) (len cap : Nat) (elems rest : List (DataW H)) (N : Nat → Nd) (D : Nat → Value) (dd : Nat → DataW H), cs = [.slice (some ⟨b, off, none⟩) len cap] ∧ 0 < len ∧ len ≤ cap ∧ cap ≤ maxLen ∧
      x.1 = .slice elems rest ∧ elems.length = len ∧ RowAt w b off 6 len (nodeC N D) ∧ (∀ i, i < len → RV 2 w (D i) (N i).m (declC (N i).P (N i).T) ∧ inInt (N i).parent ∧ inInt (N i).kind ∧ inInt (N i).flt ∧ inInt (N i).clr) ∧
      ∀ i, i < len → DeclsD (N i) (dd i) ∧ elems[i]? = some (.agg [.lit (.int .i64 (N i).parent), .lit (.int .i64 (N i).kind), .lit (.int .i64 (N i).flt), .lit (.int .i64 (N i).clr), dd i, .lit (.string (N i).text.data.toList)]) := by
  rcases open_slice ht h with ⟨h0, h1⟩ | ⟨a, len, cap, m, n, D, Pl, rfl, hb, hl, hm, hmm, rfl, hx⟩
  · exact .inl ⟨none, 0, h0, by decide⟩
  rcases Nat.eq_zero_or_pos len with rfl | hpos
  · exact .inl ⟨some a, cap, rfl, hm⟩
  right
  obtain ⟨b, off, sp⟩ := a
  have hlm : len ≤ m := by rw [hmm]; split <;> omega
  obtain rfl : sp = none := by
    obtain ⟨cs', h1, h2⟩ := hx 0 (by omega)
    rw [ce] at h1
    obtain ⟨_, hlen, hcell⟩ := World.cells?_some h1
    have e0 := hcell 0 (by omega)
    match cs', hlen with
    | [w0, w1, w2, w3, w4, w5], _ => exact row_spot (off := off) (w := w) (b := b) (v := w0) (by simpa [Addr.add] using e0)
  have each : ∀ i, i < len → ∃ q : (Nd × Value) × DataW H, NdCells w b (off + i * 6) q.1.1 q.1.2 ∧ (RV 2 w q.1.2 q.1.1.m (declC q.1.1.P q.1.1.T) ∧ inInt q.1.1.parent ∧ inInt q.1.1.kind ∧ inInt q.1.1.flt ∧ inInt q.1.1.clr) ∧ DeclsD q.1.1 q.2 ∧
      D i = .agg [.lit (.int .i64 q.1.1.parent), .lit (.int .i64 q.1.1.kind), .lit (.int .i64 q.1.1.flt), .lit (.int .i64 q.1.1.clr), q.2, .lit (.string q.1.1.text.data.toList)] := by
    intro i hi
    obtain ⟨cs', h1, h2⟩ := hx i (by omega)
    rw [ce] at h1
    obtain ⟨_, hlen, hcell⟩ := World.cells?_some h1
    obtain ⟨xs, k, hxy, hxl, g⟩ := trod_struct6 he h2
    match xs, hxl with
    | [y0, y1, y2, y3, y4, y5], _ =>
    match cs', hlen with
    | [w0, w1, w2, w3, w4, w5], _ =>
      have q0 := g 0 f0 rfl
      have q1 := g 1 f1 rfl
      have q2 := g 2 f2 rfl
      have q3 := g 3 f3 rfl
      have q4 := g 4 f4 rfl
      have q5 := g 5 f5 rfl
      rw [t1] at q1
      rw [t2] at q2
      rw [t3] at q3
      simp [o0, ci] at q0
      simp [o1, ci] at q1
      simp [o2, ci] at q2
      simp [o3, ci] at q3
      simp [o4, c4] at q4
      simp [o5, c5] at q5
      obtain ⟨a0, ha0, hb0, wf0⟩ := DataW.trod_int u0 q0
      obtain ⟨a1, ha1, hb1, wf1⟩ := DataW.trod_int u0 q1
      obtain ⟨a2, ha2, hb2, wf2⟩ := DataW.trod_int u0 q2
      obtain ⟨a3, ha3, hb3, wf3⟩ := DataW.trod_int u0 q3
      obtain ⟨s, hs, hs2, hz⟩ := DataW.trod_string u5 q5
      simp only [List.cons.injEq, and_true] at ha0 ha1 ha2 ha3 hs
      subst ha0 ha1 ha2 ha3 hs hb0 hb1 hb2 hb3 hs2
      have e0 := hcell 0 (by omega)
      have e1 := hcell 1 (by omega)
      have e2 := hcell 2 (by omega)
      have e3 := hcell 3 (by omega)
      have e4 := hcell 4 (by omega)
      have e5 := hcell 5 (by omega)
      rw [row_add, row_add] at e0 e1 e2 e3 e4 e5
      have hD : D i = .agg [.lit (.int .i64 a0), .lit (.int .i64 a1), .lit (.int .i64 a2), .lit (.int .i64 a3), y4.1, .lit (.string s.data.toList)] := by
        have := congrArg Prod.fst hxy
        simpa using this
      rcases open_decls u4 hd cd p0 p1 d0 d1 v0 v1 q4 with ⟨o, cp, hcs, hcp⟩ | ⟨b', off', len', cap', elems', rest', Z, T, hcs, hp', hl', hm', hx', hel', hw', hb', hd'⟩
      · simp only [List.cons.injEq, and_true] at hcs
        subst hcs
        exact ⟨((⟨a0, a1, a2, a3, 0, fun _ => 0, fun _ => ByteArray.empty, s⟩, .slice o 0 cp), y4.1), ⟨by simpa using e0, by simpa [Nat.add_assoc] using e1, by simpa [Nat.add_assoc] using e2, by simpa [Nat.add_assoc] using e3, by simpa [Nat.add_assoc] using e4, by simpa [Nat.add_assoc] using e5⟩, ⟨.inl ⟨rfl, _, _, rfl⟩, bounds_i64 wf0, bounds_i64 wf1, bounds_i64 wf2, bounds_i64 wf3⟩, .inl rfl, hD⟩
      · simp only [List.cons.injEq, and_true] at hcs
        subst hcs
        exact ⟨((⟨a0, a1, a2, a3, len', Z, T, s⟩, .slice (some ⟨b', off', none⟩) len' cap'), y4.1), ⟨by simpa using e0, by simpa [Nat.add_assoc] using e1, by simpa [Nat.add_assoc] using e2, by simpa [Nat.add_assoc] using e3, by simpa [Nat.add_assoc] using e4, by simpa [Nat.add_assoc] using e5⟩, ⟨.inr ⟨b', off', cap', rfl, hp', hl', hw'⟩, bounds_i64 wf0, bounds_i64 wf1, bounds_i64 wf2, bounds_i64 wf3⟩, .inr ⟨elems', rest', hx', hel', hd'⟩, hD⟩
  have each' : ∃ q : Nat → (Nd × Value) × DataW H, ∀ i, i < len → NdCells w b (off + i * 6) (q i).1.1 (q i).1.2 ∧ (RV 2 w (q i).1.2 (q i).1.1.m (declC (q i).1.1.P (q i).1.1.T) ∧ inInt (q i).1.1.parent ∧ inInt (q i).1.1.kind ∧ inInt (q i).1.1.flt ∧ inInt (q i).1.1.clr) ∧ DeclsD (q i).1.1 (q i).2 ∧
      D i = .agg [.lit (.int .i64 (q i).1.1.parent), .lit (.int .i64 (q i).1.1.kind), .lit (.int .i64 (q i).1.1.flt), .lit (.int .i64 (q i).1.1.clr), (q i).2, .lit (.string (q i).1.1.text.data.toList)] := by
    haveI : Inhabited ((Nd × Value) × DataW H) := ⟨((⟨0, 0, 0, 0, 0, fun _ => 0, fun _ => ByteArray.empty, ByteArray.empty⟩, .slice none 0 0), .nil)⟩
    exact choose_lt each
  obtain ⟨q, hq⟩ := each'
  refine ⟨b, off, len, cap, _, _, fun i => (q i).1.1, fun i => (q i).1.2, fun i => (q i).2, rfl, hpos, hl, hm, rfl, by simp, fun i j hi hj => ?_, fun i hi => (hq i hi).2.1, fun i hi => ⟨(hq i hi).2.2.1, ?_⟩⟩
  · have hc := (hq i hi).1
    rcases (by omega : j = 0 ∨ j = 1 ∨ j = 2 ∨ j = 3 ∨ j = 4 ∨ j = 5) with rfl | rfl | rfl | rfl | rfl | rfl
    · exact hc.c0
    · exact hc.c1
    · exact hc.c2
    · exact hc.c3
    · exact hc.c4
    · exact hc.c5
  · rw [List.getElem?_map, List.getElem?_range hi]
    exact congrArg some (hq i hi).2.2.2
theorem node_sizes {H : Type} {P : Program} {ts : List TypeId} {ds : List (DataW H)} (h : (DataW.weightsEach P ts ds).all (· ≤ reachBytes) = true) {j : Nat} {t e td : TypeId} {f0 f1 f2 f3 f4 f5 g0 g1 : Field} {elems spare : List (DataW H)} (ht : ts[j]? = some t) (hd : ds[j]? = some (.slice elems spare)) (hu : P.underlying t = some (.slice e))
    (he : P.underlying e = some (.struct #[f0, f1, f2, f3, f4, f5])) (u4 : P.underlying f4.type = some (.slice td)) (hdd : P.underlying td = some (.struct #[g0, g1])) {x : Nd} {dd : DataW H} (hx : DeclsD x dd) {i : Nat}
    (hi : elems[i]? = some (.agg [.lit (.int .i64 x.parent), .lit (.int .i64 x.kind), .lit (.int .i64 x.flt), .lit (.int .i64 x.clr), dd, .lit (.string x.text.data.toList)])) :
    x.text.size ≤ reachBytes ∧ x.m * P.bytesOf td ≤ reachBytes ∧ ∀ j, j < x.m → (x.T j).size ≤ reachBytes := by
  have key : ∀ n, n ∈ DataW.weights P f4.type dd ∨ n = x.text.data.toList.length → n ≤ reachBytes := by
    intro n hn
    have := List.all_eq_true.1 h _ (DataW.weights_mem_each ht hd n (by
      simp only [DataW.weights, hu]
      refine List.mem_cons_of_mem _ (List.mem_append_left _ (weightsAll_mem hi ?_))
      simp only [DataW.weights, he, DataW.weightsEach, List.mem_append, List.map_cons, List.map_nil]
      simp [DataW.weightsEach, DataW.weights]
      rcases hn with hn | hn
      · simp [hn]
      · simp [hn]))
    simpa using this
  refine ⟨?_, ?_, fun k hk => ?_⟩
  · have := key x.text.data.toList.length (.inr rfl)
    rwa [show x.text.data.toList.length = x.text.size from Array.length_toList] at this
  · rcases hx with h0 | ⟨el, rs, rfl, hl, hall⟩
    · rw [h0]; simp
    · have := key ((el.length + rs.length) * P.bytesOf td) (.inl (by simp [DataW.weights, u4]))
      refine Nat.le_trans (Nat.mul_le_mul_right _ ?_) this
      omega
  · rcases hx with h0 | ⟨el, rs, rfl, hl, hall⟩
    · omega
    · have := key (x.T k).data.toList.length (.inl (by
        simp only [DataW.weights, u4]
        refine List.mem_cons_of_mem _ (List.mem_append_left _ (weightsAll_mem (hall k hk) ?_))
        simp [DataW.weights, hdd, DataW.weightsEach]))
      rwa [show (x.T k).data.toList.length = (x.T k).size from Array.length_toList] at this
end Go.Proofs.YtpblajjfgnhkdaaDoor
