/- Variables of the call's own that hold structs: read, written, returned whole. -/
import Derived.Test.YtkonpnaedniceaaBoxes
import Derived.Deep.MidRow
namespace Go.Proofs.Ytkonpnaedniceaa
open Go.RowKit
set_option linter.unusedSimpArgs false
set_option linter.unusedVariables false
/-- a variable of the call's own is read whole -/
theorem wpList_load_own {P : Program} {ops : Array Oper} {rest : List Oper} {op : Oper} {a : Act} {w : World} {Q : Exit → Act → World → Prop} (hgd : op.guard = none) (ty : TypeId) (x : Operand) (ho : op.op = .load ty x)
    (b : Nat) (hx : a.eval x = .pointer (some ⟨b, 0, none⟩)) {t : TypeId} {cs : Array Value} (h : Own w b t cs) (d : TypeDesc)
    (hu : P.underlying ty = some d) (hd : d.isRow = true) (hi : (P.info? ty).map (·.size) = some cs.size)
    (k : wpList P ops Q rest (a.put op.dst (.agg cs)) w) : wpList P ops Q (op :: rest) a w := by
  refine wpList_load_mid hgd ty x ho b 0 hx cs.toList d (fun j v hj => ?_) hu hd (by simpa using hi) (by simpa using k)
  rw [Nat.zero_add]; exact h.at j v hj
/-- the walk stands at a load, a store of this type: guards of the arms -/
theorem here_load {P : Program} {ops : Array Oper} {rest : List Oper} {op : Oper} {a : Act} {w : World} {Q : Exit → Act → World → Prop} (ty : TypeId) (x : Operand) (ho : op.op = .load ty x)
    (k : wpList P ops Q (op :: rest) a w) : wpList P ops Q (op :: rest) a w := k
theorem here_store {P : Program} {ops : Array Oper} {rest : List Oper} {op : Oper} {a : Act} {w : World} {Q : Exit → Act → World → Prop} (ty : TypeId) (x y : Operand) (ho : op.op = .store ty x y)
    (k : wpList P ops Q (op :: rest) a w) : wpList P ops Q (op :: rest) a w := k
theorem list_boxes1 {P : Program} {ops : Array Oper} {rest : List Oper} {Q : Exit → Act → World → Prop} {a : Act} {w : World} {c0 : Array Value} {t0 : TypeId}
    (h : ∀ X, Kept w X → Own X (w.heap.size) t0 c0 → wpList P ops Q rest a X) : wpList P ops Q rest a (w.alloc (.cells c0 t0)) := by
  obtain ⟨X, e, k, b0⟩ := boxes1 w c0 t0
  rw [← e]; exact h X k b0
theorem rounds_eq {P : Program} {c : Code} {Q : Exit → Act → World → Prop} {n : Nat} {a : Act} {w : World} (h : ∀ X, X = w → Code.rounds P c Q n a X) : Code.rounds P c Q n a w := h w rfl
/-- an array over which values are laid from o on -/
def laidOn (cs : Array Value) : Nat → List Value → Array Value
  | _, [] => cs
  | o, v :: vs => laidOn (cs.setIfInBounds o v) (o + 1) vs
theorem laidOn_list (vs : List Value) : ∀ (cs : Array Value) (o : Nat), o + vs.length ≤ cs.size → (laidOn cs o vs).toList = cs.toList.take o ++ vs ++ cs.toList.drop (o + vs.length) := by
  induction vs with
  | nil => intro cs o h; simp [laidOn]
  | cons v vs ih =>
    intro cs o h
    simp only [List.length_cons] at h
    unfold laidOn
    rw [ih _ _ (by simp; omega)]
    have ho : o < cs.toList.length := by simp; omega
    rw [Array.toList_setIfInBounds, List.take_set, List.take_succ_eq_append_getElem ho, List.drop_set_of_lt (by omega)]
    rw [List.set_append_right _ _ (by simp; omega)]
    simp [Nat.min_eq_left (Nat.le_of_lt (by simpa using ho)), Nat.add_assoc, Nat.add_comm 1]
theorem laidOn_all {cs ds : Array Value} (h : ds.size = cs.size) : laidOn cs 0 ds.toList = ds := by
  apply Array.toList_inj.1
  rw [laidOn_list _ _ _ (by simp; omega)]
  simp [h]
theorem Own.setCells {t : TypeId} {b : Nat} (vs : List Value) : ∀ {w : World} {cs : Array Value} (o : Nat), Own w b t cs → Own (w.setCells b o vs) b t (laidOn cs o vs) := by
  induction vs with
  | nil => intro w cs o h; exact h
  | cons v vs ih => intro w cs o h; exact ih (o + 1) (h.set o v)
theorem heap_setCells_ {b : Nat} (vs : List Value) : ∀ (w : World) (o i : Nat), i ≠ b → (w.setCells b o vs).heap[i]? = w.heap[i]? := by
  induction vs with
  | nil => intro w o i h; rfl
  | cons v vs ih => intro w o i h; exact (ih _ _ i h).trans (Below.heap_setCell w _ v i h)
theorem Kept.setCells {a : World} {b : Nat} (vs : List Value) (hb : a.heap.size ≤ b) : ∀ {w : World} (o : Nat), Kept a w → Kept a (w.setCells b o vs) := by
  induction vs with
  | nil => intro w o h; exact h
  | cons v vs ih => intro w o h; exact ih (o + 1) (h.set hb v)
/-- a struct is stored into a variable of the call's own, whole -/
theorem wpList_store_own {P : Program} {ops : Array Oper} {rest : List Oper} {op : Oper} {a : Act} {w : World} {Q : Exit → Act → World → Prop} (hgd : op.guard = none) (ty : TypeId) (x y : Operand) (ho : op.op = .store ty x y)
    (b : Nat) (ds : Array Value) (hx : a.eval x = .pointer (some ⟨b, 0, none⟩)) (hy : a.eval y = .agg ds) {t : TypeId} {cs : Array Value} (h : Own w b t cs)
    (hs : ds.size = cs.size) (hi : (P.info? ty).map (·.size) = some ds.size) (h1 : ds.toList.all (fun v => v.oneCell') = true)
    (k : ∀ X, Own X b t ds → (∀ i, i ≠ b → X.heap[i]? = w.heap[i]?) → (∀ A, Kept A w → A.heap.size ≤ b → Kept A X) → wpList P ops Q rest (a.put op.dst undef) X) : wpList P ops Q (op :: rest) a w := by
  refine wpList_store_mid hgd ty x y ho b 0 ds hx hy (fun j hj => ?_) hi (Array.all_eq_true_iff_forall_mem.2 fun v hv => List.all_eq_true.1 h1 v (by simpa using hv)) ?_
  · rw [Nat.zero_add]
    exact ⟨by rw [h.cell]; simp; omega, h.free j⟩
  · refine k _ ?_ (fun i hne => heap_setCells_ _ _ _ i hne) (fun A hA hb => Kept.setCells _ hb 0 hA)
    have := Own.setCells ds.toList 0 h
    rwa [laidOn_all hs] at this
/-- the result of a function that returns a struct -/
theorem results_own {P : Program} {fn : Func} {tmps : Array Value} {w : World} {b : Nat} {t : TypeId} {cs : Array Value} {i : Tmp} (T : TypeId) (d : TypeDesc) (hr : fn.results = #[.cell i T])
    (hx : tmps.getD i undef = .pointer (some ⟨b, 0, none⟩)) (h : Own w b t cs) (hu : P.underlying T = some d) (hd : d.isRow = true) (hi : (P.info? T).map (·.size) = some cs.size) :
    (results fn tmps).run P w = .ok (.agg cs) w := by
  have hl := run_loadVar_mid (P := P) w b 0 T cs.toList d (fun j v hj => by rw [Nat.zero_add]; exact h.at j v hj) hu hd (by simpa using hi)
  have hx' : tmps[i]?.getD undef = .pointer (some ⟨b, 0, none⟩) := by simpa using hx
  simp [results, hr, hx', asAddr, Sem.run_bind, Sem.run_pure, hl]
theorem results_own_tmp {P : Program} {fn : Func} {tmps : Array Value} {w : World} {b : Nat} {t : TypeId} {cs : Array Value} {i j : Tmp} (T : TypeId) (d : TypeDesc) (hr : fn.results = #[.cell i T, .tmp j])
    (hx : tmps.getD i undef = .pointer (some ⟨b, 0, none⟩)) (h : Own w b t cs) (hu : P.underlying T = some d) (hd : d.isRow = true) (hi : (P.info? T).map (·.size) = some cs.size) :
    (results fn tmps).run P w = .ok (.tuple #[.agg cs, tmps.getD j undef]) w := by
  have hl := run_loadVar_mid (P := P) w b 0 T cs.toList d (fun j v hj => by rw [Nat.zero_add]; exact h.at j v hj) hu hd (by simpa using hi)
  have hx' : tmps[i]?.getD undef = .pointer (some ⟨b, 0, none⟩) := by simpa using hx
  simp [results, hr, hx', asAddr, Sem.run_bind, Sem.run_pure, hl]
end Go.Proofs.Ytkonpnaedniceaa
