/- A struct is stored into a row of the call's own. -/
import Derived.Test.YtkonpnaedniceaaOwn
import Derived.Test.YtkonpnaedniceaaRow
namespace Go.Proofs.Ytkonpnaedniceaa
open Go.RowKit
set_option linter.unusedSimpArgs false
set_option linter.unusedVariables false
theorem lit_at (w : World) (cs : Array Value) (t : TypeId) {b : Nat} (hb : b = w.heap.size) : ∀ j u, cs.toList[j]? = some u → (w.alloc (.cells cs t)).cell? ((⟨b, 0, none⟩ : Addr).add j) = some u := by
  subst hb; exact lit_cells w cs t
theorem laidOn_size (vs : List Value) : ∀ (cs : Array Value) (o : Nat), (laidOn cs o vs).size = cs.size := by
  induction vs with
  | nil => intro cs o; rfl
  | cons v vs ih => intro cs o; unfold laidOn; rw [ih]; simp
theorem laidOn_out (vs : List Value) : ∀ (cs : Array Value) (o j : Nat), j < o ∨ o + vs.length ≤ j → (laidOn cs o vs)[j]? = cs[j]? := by
  induction vs with
  | nil => intro cs o j _; rfl
  | cons v vs ih =>
    intro cs o j h
    simp only [List.length_cons] at h
    unfold laidOn
    rw [ih _ _ _ (by omega), Array.getElem?_setIfInBounds_ne (by omega)]
theorem laidOn_in (vs : List Value) : ∀ (cs : Array Value) (o j : Nat), j < vs.length → o + vs.length ≤ cs.size → (laidOn cs o vs)[o + j]? = vs[j]? := by
  induction vs with
  | nil => intro cs o j h; simp at h
  | cons v vs ih =>
    intro cs o j h hs
    simp only [List.length_cons] at h hs
    unfold laidOn
    cases j with
    | zero =>
      rw [laidOn_out _ _ _ _ (by omega)]
      simp [Array.getElem?_setIfInBounds, show o < cs.size by omega]
    | succ j =>
      rw [show o + (j + 1) = o + 1 + j by omega, ih _ _ _ (by omega) (by simp; omega)]
      rfl
/-- a struct is stored into a block of the call's own, from o on -/
theorem wpList_store_part {P : Program} {ops : Array Oper} {rest : List Oper} {op : Oper} {a : Act} {w : World} {Q : Exit → Act → World → Prop} (hgd : op.guard = none) (ty : TypeId) (x y : Operand) (ho : op.op = .store ty x y)
    (b o : Nat) (ds : Array Value) (hx : a.eval x = .pointer (some ⟨b, o, none⟩)) (hy : a.eval y = .agg ds) {t : TypeId} {cs : Array Value} (h : Own w b t cs)
    (hs : o + ds.size ≤ cs.size) (hi : (P.info? ty).map (·.size) = some ds.size) (h1 : ds.toList.all (fun v => v.oneCell') = true)
    (k : ∀ X, Own X b t (laidOn cs o ds.toList) → (∀ i, i ≠ b → X.heap[i]? = w.heap[i]?) → (∀ A, Kept A w → A.heap.size ≤ b → Kept A X) → wpList P ops Q rest (a.put op.dst undef) X) : wpList P ops Q (op :: rest) a w := by
  refine wpList_store_mid hgd ty x y ho b o ds hx hy (fun j hj => ?_) hi (Array.all_eq_true_iff_forall_mem.2 fun v hv => List.all_eq_true.1 h1 v (by simpa using hv)) ?_
  · exact ⟨by rw [h.cell]; simp; omega, h.free _⟩
  · exact k _ (Own.setCells ds.toList o h) (fun i hne => heap_setCells_ _ _ _ i hne) (fun A hA hb => Kept.setCells _ hb o hA)
/-- the first m structs of a block -/
def Filled (cur : Array Value) (k : Nat) (C : Nat → Nat → Value) (m : Nat) : Prop := ∀ i j, i < m → j < k → cur[i * k + j]? = some (C i j)
theorem Filled.next {cur : Array Value} {k m n : Nat} {C : Nat → Nat → Value} {ds : List Value} (h : Filled cur k C m) (hm : m < n) (hs : cur.size = n * k) (hd : ds = (List.range k).map (C m)) : Filled (laidOn cur (m * k) ds) k C (m + 1) := by
  have hl : ds.length = k := by rw [hd]; simp
  have hle : m * k + k ≤ n * k := by
    have : (m + 1) * k ≤ n * k := Nat.mul_le_mul_right k hm
    rwa [Nat.add_mul, Nat.one_mul] at this
  intro i j hi hj
  rcases Nat.lt_or_ge i m with h1 | h1
  · have hlt : i * k + j < m * k := by
      have : (i + 1) * k ≤ m * k := Nat.mul_le_mul_right k h1
      rw [Nat.add_mul, Nat.one_mul] at this
      omega
    rw [laidOn_out _ _ _ _ (.inl hlt)]
    exact h i j h1 hj
  · obtain rfl : i = m := by omega
    rw [laidOn_in _ _ _ _ (by omega) (by omega), hd]
    simp [hj]
theorem filled_list {cur : Array Value} {k n : Nat} {C : Nat → Nat → Value} (h : Filled cur k C n) (hk : 0 < k) (hs : cur.size = n * k) : cur.toList = flat k C n := by
  apply List.ext_getElem?
  intro j
  rcases Nat.lt_or_ge j (n * k) with hj | hj
  · have hd : j / k < n := (Nat.div_lt_iff_lt_mul hk).2 hj
    have hm : j % k < k := Nat.mod_lt _ hk
    have e : j / k * k + j % k = j := by rw [Nat.mul_comm]; exact Nat.div_add_mod j k
    have h1 := flat_at k C n (j / k) (j % k) hd hm
    have h2 := h (j / k) (j % k) hd hm
    rw [e] at h1 h2
    rw [h1, ← h2]; simp
  · rw [List.getElem?_eq_none (by simpa [hs] using hj), List.getElem?_eq_none (by rw [flat_length]; exact hj)]
theorem own_row {w : World} {b base : Nat} {t : TypeId} {k n : Nat} {cur : Array Value} {xs : List Value} (h : Own w b t cur) (hb : base ≤ b) (hs : cur.size = n * k) (hn : n ≤ maxLen) (hx : cur.toList = xs) : w.ownsRow base t k (.slice (some ⟨b, 0, none⟩) n n) n xs := by
  subst hx
  exact ⟨by simpa using hs, .inr ⟨b, n, cur, rfl, hb, h.whole, Nat.le_refl _, hn, hs, List.take_of_length_le (by simp [hs])⟩⟩
end Go.Proofs.Ytkonpnaedniceaa
