/- Joined texts. -/
import Derived.Test.YtnbagilcbngdcaaDoorRows
import Derived.WalkKit
import Derived.ProofKit
import Derived.OpenShut
import Derived.Lib.Hide
import Derived.Deep.Draws
import Derived.WalkLawsBesides
import Derived.Deep.MidRow
import Derived.Outline
import Derived.Shelf.Strconv.Itoa3
import Derived.Lib.AppendIntMem
import Derived.Ground.NamesProg
namespace Go.Proofs.YtnbagilcbngdcaaDoor
open Go.RowKit
theorem ret_bool {a b : Bool} (h : a = b) : Ending.returned (.bool a) = .returned (.bool b) := by rw [h]
theorem ret_int {k : IntKind} {a b : Int} (h : a = b) : Ending.returned (.int k a) = .returned (.int k b) := by rw [h]
theorem ret_two {k l : IntKind} {a b c d : Int} (h : a = c) (g : b = d) : Ending.returned (.tuple #[.int k a, .int l b]) = .returned (.tuple #[.int k c, .int l d]) := by rw [h, g]
/-- what the world held it holds -/
structure Kept (w w' : World) : Prop where
  below : Below w.heap.size w w'
theorem Kept.refl (w : World) : Kept w w := ⟨Below.refl _ _⟩
theorem Kept.size {w w' : World} (h : Kept w w') : w.heap.size ≤ w'.heap.size := Below.size h.below
theorem Kept.trans {a b c : World} (h : Kept a b) (k : Kept b c) : Kept a c := ⟨Below.trans h.below (Below.mono k.below h.size)⟩
theorem Kept.alloc {a w : World} (h : Kept a w) (o : Obj) : Kept a (w.alloc o) := ⟨Below.alloc h.below h.size o⟩
theorem Kept.drew {a w : World} (h : Kept a w) : Kept a w.drew := ⟨Below.drew h.below⟩
theorem Kept.drewN {a w : World} (h : Kept a w) (n : Nat) : Kept a (w.drewN n) := ⟨⟨h.below.os, h.below.tape, h.below.output, h.below.size, h.below.block⟩⟩
theorem Kept.cell {w w' : World} (h : Kept w w') {p : Addr} (hp : p.block < w.heap.size) : w'.cell? p = w.cell? p := Below.cell h.below hp
/-- numbers that lie in a row in a block -/
def Ints (w : World) (b off : Nat) (zs : List Int) : Prop := ∀ j, j < zs.length → w.cell? ⟨b, off + j, none⟩ = some (.int .i64 (zs.getD j 0))
theorem Ints.new (w : World) (t : TypeId) (zs : List Int) : Ints (w.alloc (.cells (zs.map (Value.int .i64)).toArray t)) w.heap.size 0 zs := by
  intro j hj
  rw [World.cell?_alloc_at _ _ _ _ rfl]
  simp [List.getD_eq_getElem?_getD, List.getElem?_eq_getElem hj]
theorem cell_at (w : World) (cs : Array Value) (t : TypeId) (b i : Nat) (v : Value) (hb : b = w.heap.size) (hv : cs[i]? = some v) : (w.alloc (.cells cs t)).cell? ⟨b, i, none⟩ = some v := by
  rw [World.cell?_alloc_at _ _ _ _ hb]; exact hv
theorem lit_cells (w : World) (cs : Array Value) (t : TypeId) : ∀ j u, cs.toList[j]? = some u → (w.alloc (.cells cs t)).cell? ((⟨w.heap.size, 0, none⟩ : Addr).add j) = some u := by
  intro j u hu
  have e : ((⟨w.heap.size, 0, none⟩ : Addr).add j) = ⟨w.heap.size, j, none⟩ := by
    unfold Addr.add
    by_cases h : j = 0
    · subst h; rfl
    · rw [if_neg h]; simp
  rw [e]
  exact cell_at w cs t _ j u rfl (by simpa using hu)
theorem Kept.grown {a w w' : World} (h : Kept a w) {row : Option Nat} (hg : w.grownBy w' row) (hr : ∀ k, row = some k → a.heap.size ≤ k) : Kept a w' := ⟨Below.grown h.below hg h.size hr⟩
theorem row_ge {w : World} {base : Nat} {e : TypeId} {size : Nat} {v : Value} {n : Nat} {xs : List Value} (h : w.ownsRow base e size v n xs) : ∀ k, v.ownBlock = some k → base ≤ k := fun k hk => (h.lt k hk).1
/-- a block that holds these cells from its beginning on -/
structure Boxed (w : World) (b : Nat) (xs : List Value) : Prop where
  lt : b < w.heap.size
  cell : ∀ j u, xs[j]? = some u → w.cell? ⟨b, j, none⟩ = some u
theorem Boxed.kept {w w' : World} {b : Nat} {xs : List Value} (h : Boxed w b xs) (k : Kept w w') : Boxed w' b xs :=
  ⟨Nat.lt_of_lt_of_le h.lt k.size, fun j u hu => (k.cell h.lt).trans (h.cell j u hu)⟩
theorem Boxed.alloc {w : World} {b : Nat} {xs : List Value} (h : Boxed w b xs) (o : Obj) : Boxed (w.alloc o) b xs := h.kept ((Kept.refl w).alloc o)
theorem Boxed.new (w : World) (cs : Array Value) (t : TypeId) : Boxed (w.alloc (.cells cs t)) w.heap.size cs.toList :=
  ⟨by simp, fun j u hu => cell_at w cs t _ j u rfl (by simpa using hu)⟩
/-- at a call: the newest block is known -/
theorem with_box {P : Program} {f : FuncId} {args : Array Value} {R : Ending → World → Prop} {W : World} {cs : Array Value} {t : TypeId}
    (h : Boxed (W.alloc (.cells cs t)) W.heap.size cs.toList → Calls P f args (W.alloc (.cells cs t)) R) : Calls P f args (W.alloc (.cells cs t)) R := h (Boxed.new W cs t)
/-- a block of the call's own, known whole -/
structure Own (w : World) (b : Nat) (t : TypeId) (cs : Array Value) : Prop where
  whole : w.heap[b]? = some (.cells cs t (0, 0))
theorem Own.lt {w : World} {b : Nat} {t : TypeId} {cs : Array Value} (h : Own w b t cs) : b < w.heap.size := (Array.getElem?_eq_some_iff.1 h.whole).1
theorem Own.cell {w : World} {b : Nat} {t : TypeId} {cs : Array Value} (h : Own w b t cs) (i : Nat) : w.cell? ⟨b, i, none⟩ = cs[i]? := by
  unfold World.cell?; simp [h.whole]
theorem Own.at {w : World} {b : Nat} {t : TypeId} {cs : Array Value} (h : Own w b t cs) : ∀ j u, cs.toList[j]? = some u → w.cell? ⟨b, j, none⟩ = some u := fun j u hu => by rw [h.cell]; simpa using hu
theorem Own.free {w : World} {b : Nat} {t : TypeId} {cs : Array Value} (h : Own w b t cs) (i : Nat) : w.frozen? ⟨b, i, none⟩ = false := by
  unfold World.frozen?; simp [h.whole]
theorem Own.kept {w w' : World} {b : Nat} {t : TypeId} {cs : Array Value} (h : Own w b t cs) (k : Kept w w') : Own w' b t cs := ⟨(k.below.block b h.lt).trans h.whole⟩
theorem Own.alloc {w : World} {b : Nat} {t : TypeId} {cs : Array Value} (h : Own w b t cs) (o : Obj) : Own (w.alloc o) b t cs := h.kept ((Kept.refl w).alloc o)
theorem Own.drew {w : World} {b : Nat} {t : TypeId} {cs : Array Value} (h : Own w b t cs) : Own w.drew b t cs := ⟨h.whole⟩
theorem Own.drewN {w : World} {b : Nat} {t : TypeId} {cs : Array Value} (h : Own w b t cs) (n : Nat) : Own (w.drewN n) b t cs := ⟨h.whole⟩
theorem Own.same {w X : World} {b : Nat} {t : TypeId} {cs : Array Value} (h : Own w b t cs) (e : X.heap[b]? = w.heap[b]?) : Own X b t cs := ⟨e.trans h.whole⟩
theorem Own.new (w : World) (cs : Array Value) (t : TypeId) : Own (w.alloc (.cells cs t)) w.heap.size t cs := ⟨heap_alloc_new w _⟩
theorem Own.set {w : World} {b : Nat} {t : TypeId} {cs : Array Value} (h : Own w b t cs) (i : Nat) (v : Value) : Own (w.setCell ⟨b, i, none⟩ v) b t (cs.setIfInBounds i v) :=
  ⟨by unfold World.setCell; simp [Array.getElem?_modify, h.whole]⟩
theorem Own.other {w : World} {b : Nat} {t : TypeId} {cs : Array Value} (h : Own w b t cs) {p : Addr} (hp : b ≠ p.block) (v : Value) : Own (w.setCell p v) b t cs :=
  ⟨(Below.heap_setCell w p v b hp).trans h.whole⟩
theorem Own.boxed {w : World} {b : Nat} {t : TypeId} {cs : Array Value} (h : Own w b t cs) : Boxed w b cs.toList :=
  ⟨h.lt, fun j u hu => by rw [h.cell]; simpa using hu⟩
theorem Kept.set {a w : World} (h : Kept a w) {p : Addr} (hp : a.heap.size ≤ p.block) (v : Value) : Kept a (w.setCell p v) := ⟨Below.setCell h.below hp v⟩
end Go.Proofs.YtnbagilcbngdcaaDoor
namespace Go.Proofs.YtnbagilcbngdcaaDoor
open Go.RowKit
theorem Own.at_ (w : World) (cs : Array Value) (t : TypeId) {b : Nat} (hb : b = w.heap.size) : Own (w.alloc (.cells cs t)) b t cs := by subst hb; exact Own.new w cs t
theorem Own.is {w : World} {b : Nat} {t : TypeId} {cs ds : Array Value} (h : Own w b t cs) (e : cs = ds) : Own w b t ds := e ▸ h
theorem heap_drew_ (w : World) (b : Nat) : w.drew.heap[b]? = w.heap[b]? := rfl
theorem heap_drewN_ (w : World) (n b : Nat) : (w.drewN n).heap[b]? = w.heap[b]? := rfl
theorem with_eq {P : Program} {f : FuncId} {args : Array Value} {R : Ending → World → Prop} {w : World} (h : ∀ X, X = w → Calls P f args X R) : Calls P f args w R := h _ rfl
theorem code_eq {P : Program} {c : Code} {Q : Exit → Act → World → Prop} {a : Act} {w : World} (h : ∀ X, X = w → c.wp P Q a X) : c.wp P Q a w := h _ rfl
/-- at a call behind a store: the world has a name of its own -/
theorem with_set {P : Program} {f : FuncId} {args : Array Value} {R : Ending → World → Prop} {w : World} {p : Addr} {v : Value}
    (h : ∀ X, X = w.setCell p v → Calls P f args X R) : Calls P f args (w.setCell p v) R := h _ rfl
theorem Kept.new {w w' : World} {o : Obj} (k : Kept (w.alloc o) w') : Kept w w' := ((Kept.refl w).alloc o).trans k
theorem boxes1 (w : World) (c0 : Array Value) (t0 : TypeId) : ∃ X, X = (w.alloc (.cells c0 t0)) ∧ Kept w X ∧ Own X (w.heap.size) t0 c0 :=
  ⟨_, rfl, ((Kept.refl w).alloc _), (Own.at_ w c0 t0 rfl)⟩
theorem with_boxes1 {P : Program} {f : FuncId} {args : Array Value} {R : Ending → World → Prop} {w : World} {c0 : Array Value} {t0 : TypeId}
    (h : ∀ X, Kept w X → Own X (w.heap.size) t0 c0 → Calls P f args X R) : Calls P f args (w.alloc (.cells c0 t0)) R := by
  obtain ⟨X, e, k, b0⟩ := boxes1 w c0 t0
  rw [← e]; exact h X k b0
theorem code_boxes1 {P : Program} {c : Code} {Q : Exit → Act → World → Prop} {a : Act} {w : World} {c0 : Array Value} {t0 : TypeId}
    (h : ∀ X, Kept w X → Own X (w.heap.size) t0 c0 → c.wp P Q a X) : c.wp P Q a (w.alloc (.cells c0 t0)) := by
  obtain ⟨X, e, k, b0⟩ := boxes1 w c0 t0
  rw [← e]; exact h X k b0
theorem boxes2 (w : World) (c0 c1 : Array Value) (t0 t1 : TypeId) : ∃ X, X = ((w.alloc (.cells c0 t0)).alloc (.cells c1 t1)) ∧ Kept w X ∧ Own X (w.heap.size) t0 c0 ∧ Own X (w.heap.size + 1) t1 c1 :=
  ⟨_, rfl, (((Kept.refl w).alloc _).alloc _), ((Own.at_ w c0 t0 rfl).alloc _), (Own.at_ (w.alloc (.cells c0 t0)) c1 t1 (by simp only [World.size_alloc]))⟩
theorem with_boxes2 {P : Program} {f : FuncId} {args : Array Value} {R : Ending → World → Prop} {w : World} {c0 c1 : Array Value} {t0 t1 : TypeId}
    (h : ∀ X, Kept w X → Own X (w.heap.size) t0 c0 → Own X (w.heap.size + 1) t1 c1 → Calls P f args X R) : Calls P f args ((w.alloc (.cells c0 t0)).alloc (.cells c1 t1)) R := by
  obtain ⟨X, e, k, b0, b1⟩ := boxes2 w c0 c1 t0 t1
  rw [← e]; exact h X k b0 b1
theorem code_boxes2 {P : Program} {c : Code} {Q : Exit → Act → World → Prop} {a : Act} {w : World} {c0 c1 : Array Value} {t0 t1 : TypeId}
    (h : ∀ X, Kept w X → Own X (w.heap.size) t0 c0 → Own X (w.heap.size + 1) t1 c1 → c.wp P Q a X) : c.wp P Q a ((w.alloc (.cells c0 t0)).alloc (.cells c1 t1)) := by
  obtain ⟨X, e, k, b0, b1⟩ := boxes2 w c0 c1 t0 t1
  rw [← e]; exact h X k b0 b1
theorem boxes3 (w : World) (c0 c1 c2 : Array Value) (t0 t1 t2 : TypeId) : ∃ X, X = (((w.alloc (.cells c0 t0)).alloc (.cells c1 t1)).alloc (.cells c2 t2)) ∧ Kept w X ∧ Own X (w.heap.size) t0 c0 ∧ Own X (w.heap.size + 1) t1 c1 ∧ Own X (w.heap.size + 1 + 1) t2 c2 :=
  ⟨_, rfl, ((((Kept.refl w).alloc _).alloc _).alloc _), (((Own.at_ w c0 t0 rfl).alloc _).alloc _), ((Own.at_ (w.alloc (.cells c0 t0)) c1 t1 (by simp only [World.size_alloc])).alloc _), (Own.at_ ((w.alloc (.cells c0 t0)).alloc (.cells c1 t1)) c2 t2 (by simp only [World.size_alloc]))⟩
theorem with_boxes3 {P : Program} {f : FuncId} {args : Array Value} {R : Ending → World → Prop} {w : World} {c0 c1 c2 : Array Value} {t0 t1 t2 : TypeId}
    (h : ∀ X, Kept w X → Own X (w.heap.size) t0 c0 → Own X (w.heap.size + 1) t1 c1 → Own X (w.heap.size + 1 + 1) t2 c2 → Calls P f args X R) : Calls P f args (((w.alloc (.cells c0 t0)).alloc (.cells c1 t1)).alloc (.cells c2 t2)) R := by
  obtain ⟨X, e, k, b0, b1, b2⟩ := boxes3 w c0 c1 c2 t0 t1 t2
  rw [← e]; exact h X k b0 b1 b2
theorem code_boxes3 {P : Program} {c : Code} {Q : Exit → Act → World → Prop} {a : Act} {w : World} {c0 c1 c2 : Array Value} {t0 t1 t2 : TypeId}
    (h : ∀ X, Kept w X → Own X (w.heap.size) t0 c0 → Own X (w.heap.size + 1) t1 c1 → Own X (w.heap.size + 1 + 1) t2 c2 → c.wp P Q a X) : c.wp P Q a (((w.alloc (.cells c0 t0)).alloc (.cells c1 t1)).alloc (.cells c2 t2)) := by
  obtain ⟨X, e, k, b0, b1, b2⟩ := boxes3 w c0 c1 c2 t0 t1 t2
  rw [← e]; exact h X k b0 b1 b2
theorem boxes4 (w : World) (c0 c1 c2 c3 : Array Value) (t0 t1 t2 t3 : TypeId) : ∃ X, X = ((((w.alloc (.cells c0 t0)).alloc (.cells c1 t1)).alloc (.cells c2 t2)).alloc (.cells c3 t3)) ∧ Kept w X ∧ Own X (w.heap.size) t0 c0 ∧ Own X (w.heap.size + 1) t1 c1 ∧ Own X (w.heap.size + 1 + 1) t2 c2 ∧ Own X (w.heap.size + 1 + 1 + 1) t3 c3 :=
  ⟨_, rfl, (((((Kept.refl w).alloc _).alloc _).alloc _).alloc _), ((((Own.at_ w c0 t0 rfl).alloc _).alloc _).alloc _), (((Own.at_ (w.alloc (.cells c0 t0)) c1 t1 (by simp only [World.size_alloc])).alloc _).alloc _), ((Own.at_ ((w.alloc (.cells c0 t0)).alloc (.cells c1 t1)) c2 t2 (by simp only [World.size_alloc])).alloc _), (Own.at_ (((w.alloc (.cells c0 t0)).alloc (.cells c1 t1)).alloc (.cells c2 t2)) c3 t3 (by simp only [World.size_alloc]))⟩
theorem with_boxes4 {P : Program} {f : FuncId} {args : Array Value} {R : Ending → World → Prop} {w : World} {c0 c1 c2 c3 : Array Value} {t0 t1 t2 t3 : TypeId}
    (h : ∀ X, Kept w X → Own X (w.heap.size) t0 c0 → Own X (w.heap.size + 1) t1 c1 → Own X (w.heap.size + 1 + 1) t2 c2 → Own X (w.heap.size + 1 + 1 + 1) t3 c3 → Calls P f args X R) : Calls P f args ((((w.alloc (.cells c0 t0)).alloc (.cells c1 t1)).alloc (.cells c2 t2)).alloc (.cells c3 t3)) R := by
  obtain ⟨X, e, k, b0, b1, b2, b3⟩ := boxes4 w c0 c1 c2 c3 t0 t1 t2 t3
  rw [← e]; exact h X k b0 b1 b2 b3
theorem code_boxes4 {P : Program} {c : Code} {Q : Exit → Act → World → Prop} {a : Act} {w : World} {c0 c1 c2 c3 : Array Value} {t0 t1 t2 t3 : TypeId}
    (h : ∀ X, Kept w X → Own X (w.heap.size) t0 c0 → Own X (w.heap.size + 1) t1 c1 → Own X (w.heap.size + 1 + 1) t2 c2 → Own X (w.heap.size + 1 + 1 + 1) t3 c3 → c.wp P Q a X) : c.wp P Q a ((((w.alloc (.cells c0 t0)).alloc (.cells c1 t1)).alloc (.cells c2 t2)).alloc (.cells c3 t3)) := by
  obtain ⟨X, e, k, b0, b1, b2, b3⟩ := boxes4 w c0 c1 c2 c3 t0 t1 t2 t3
  rw [← e]; exact h X k b0 b1 b2 b3
theorem boxes5 (w : World) (c0 c1 c2 c3 c4 : Array Value) (t0 t1 t2 t3 t4 : TypeId) : ∃ X, X = (((((w.alloc (.cells c0 t0)).alloc (.cells c1 t1)).alloc (.cells c2 t2)).alloc (.cells c3 t3)).alloc (.cells c4 t4)) ∧ Kept w X ∧ Own X (w.heap.size) t0 c0 ∧ Own X (w.heap.size + 1) t1 c1 ∧ Own X (w.heap.size + 1 + 1) t2 c2 ∧ Own X (w.heap.size + 1 + 1 + 1) t3 c3 ∧ Own X (w.heap.size + 1 + 1 + 1 + 1) t4 c4 :=
  ⟨_, rfl, ((((((Kept.refl w).alloc _).alloc _).alloc _).alloc _).alloc _), (((((Own.at_ w c0 t0 rfl).alloc _).alloc _).alloc _).alloc _), ((((Own.at_ (w.alloc (.cells c0 t0)) c1 t1 (by simp only [World.size_alloc])).alloc _).alloc _).alloc _), (((Own.at_ ((w.alloc (.cells c0 t0)).alloc (.cells c1 t1)) c2 t2 (by simp only [World.size_alloc])).alloc _).alloc _), ((Own.at_ (((w.alloc (.cells c0 t0)).alloc (.cells c1 t1)).alloc (.cells c2 t2)) c3 t3 (by simp only [World.size_alloc])).alloc _), (Own.at_ ((((w.alloc (.cells c0 t0)).alloc (.cells c1 t1)).alloc (.cells c2 t2)).alloc (.cells c3 t3)) c4 t4 (by simp only [World.size_alloc]))⟩
theorem with_boxes5 {P : Program} {f : FuncId} {args : Array Value} {R : Ending → World → Prop} {w : World} {c0 c1 c2 c3 c4 : Array Value} {t0 t1 t2 t3 t4 : TypeId}
    (h : ∀ X, Kept w X → Own X (w.heap.size) t0 c0 → Own X (w.heap.size + 1) t1 c1 → Own X (w.heap.size + 1 + 1) t2 c2 → Own X (w.heap.size + 1 + 1 + 1) t3 c3 → Own X (w.heap.size + 1 + 1 + 1 + 1) t4 c4 → Calls P f args X R) : Calls P f args (((((w.alloc (.cells c0 t0)).alloc (.cells c1 t1)).alloc (.cells c2 t2)).alloc (.cells c3 t3)).alloc (.cells c4 t4)) R := by
  obtain ⟨X, e, k, b0, b1, b2, b3, b4⟩ := boxes5 w c0 c1 c2 c3 c4 t0 t1 t2 t3 t4
  rw [← e]; exact h X k b0 b1 b2 b3 b4
theorem code_boxes5 {P : Program} {c : Code} {Q : Exit → Act → World → Prop} {a : Act} {w : World} {c0 c1 c2 c3 c4 : Array Value} {t0 t1 t2 t3 t4 : TypeId}
    (h : ∀ X, Kept w X → Own X (w.heap.size) t0 c0 → Own X (w.heap.size + 1) t1 c1 → Own X (w.heap.size + 1 + 1) t2 c2 → Own X (w.heap.size + 1 + 1 + 1) t3 c3 → Own X (w.heap.size + 1 + 1 + 1 + 1) t4 c4 → c.wp P Q a X) : c.wp P Q a (((((w.alloc (.cells c0 t0)).alloc (.cells c1 t1)).alloc (.cells c2 t2)).alloc (.cells c3 t3)).alloc (.cells c4 t4)) := by
  obtain ⟨X, e, k, b0, b1, b2, b3, b4⟩ := boxes5 w c0 c1 c2 c3 c4 t0 t1 t2 t3 t4
  rw [← e]; exact h X k b0 b1 b2 b3 b4
theorem boxes6 (w : World) (c0 c1 c2 c3 c4 c5 : Array Value) (t0 t1 t2 t3 t4 t5 : TypeId) : ∃ X, X = ((((((w.alloc (.cells c0 t0)).alloc (.cells c1 t1)).alloc (.cells c2 t2)).alloc (.cells c3 t3)).alloc (.cells c4 t4)).alloc (.cells c5 t5)) ∧ Kept w X ∧ Own X (w.heap.size) t0 c0 ∧ Own X (w.heap.size + 1) t1 c1 ∧ Own X (w.heap.size + 1 + 1) t2 c2 ∧ Own X (w.heap.size + 1 + 1 + 1) t3 c3 ∧ Own X (w.heap.size + 1 + 1 + 1 + 1) t4 c4 ∧ Own X (w.heap.size + 1 + 1 + 1 + 1 + 1) t5 c5 :=
  ⟨_, rfl, (((((((Kept.refl w).alloc _).alloc _).alloc _).alloc _).alloc _).alloc _), ((((((Own.at_ w c0 t0 rfl).alloc _).alloc _).alloc _).alloc _).alloc _), (((((Own.at_ (w.alloc (.cells c0 t0)) c1 t1 (by simp only [World.size_alloc])).alloc _).alloc _).alloc _).alloc _), ((((Own.at_ ((w.alloc (.cells c0 t0)).alloc (.cells c1 t1)) c2 t2 (by simp only [World.size_alloc])).alloc _).alloc _).alloc _), (((Own.at_ (((w.alloc (.cells c0 t0)).alloc (.cells c1 t1)).alloc (.cells c2 t2)) c3 t3 (by simp only [World.size_alloc])).alloc _).alloc _), ((Own.at_ ((((w.alloc (.cells c0 t0)).alloc (.cells c1 t1)).alloc (.cells c2 t2)).alloc (.cells c3 t3)) c4 t4 (by simp only [World.size_alloc])).alloc _), (Own.at_ (((((w.alloc (.cells c0 t0)).alloc (.cells c1 t1)).alloc (.cells c2 t2)).alloc (.cells c3 t3)).alloc (.cells c4 t4)) c5 t5 (by simp only [World.size_alloc]))⟩
theorem with_boxes6 {P : Program} {f : FuncId} {args : Array Value} {R : Ending → World → Prop} {w : World} {c0 c1 c2 c3 c4 c5 : Array Value} {t0 t1 t2 t3 t4 t5 : TypeId}
    (h : ∀ X, Kept w X → Own X (w.heap.size) t0 c0 → Own X (w.heap.size + 1) t1 c1 → Own X (w.heap.size + 1 + 1) t2 c2 → Own X (w.heap.size + 1 + 1 + 1) t3 c3 → Own X (w.heap.size + 1 + 1 + 1 + 1) t4 c4 → Own X (w.heap.size + 1 + 1 + 1 + 1 + 1) t5 c5 → Calls P f args X R) : Calls P f args ((((((w.alloc (.cells c0 t0)).alloc (.cells c1 t1)).alloc (.cells c2 t2)).alloc (.cells c3 t3)).alloc (.cells c4 t4)).alloc (.cells c5 t5)) R := by
  obtain ⟨X, e, k, b0, b1, b2, b3, b4, b5⟩ := boxes6 w c0 c1 c2 c3 c4 c5 t0 t1 t2 t3 t4 t5
  rw [← e]; exact h X k b0 b1 b2 b3 b4 b5
theorem code_boxes6 {P : Program} {c : Code} {Q : Exit → Act → World → Prop} {a : Act} {w : World} {c0 c1 c2 c3 c4 c5 : Array Value} {t0 t1 t2 t3 t4 t5 : TypeId}
    (h : ∀ X, Kept w X → Own X (w.heap.size) t0 c0 → Own X (w.heap.size + 1) t1 c1 → Own X (w.heap.size + 1 + 1) t2 c2 → Own X (w.heap.size + 1 + 1 + 1) t3 c3 → Own X (w.heap.size + 1 + 1 + 1 + 1) t4 c4 → Own X (w.heap.size + 1 + 1 + 1 + 1 + 1) t5 c5 → c.wp P Q a X) : c.wp P Q a ((((((w.alloc (.cells c0 t0)).alloc (.cells c1 t1)).alloc (.cells c2 t2)).alloc (.cells c3 t3)).alloc (.cells c4 t4)).alloc (.cells c5 t5)) := by
  obtain ⟨X, e, k, b0, b1, b2, b3, b4, b5⟩ := boxes6 w c0 c1 c2 c3 c4 c5 t0 t1 t2 t3 t4 t5
  rw [← e]; exact h X k b0 b1 b2 b3 b4 b5
theorem boxes7 (w : World) (c0 c1 c2 c3 c4 c5 c6 : Array Value) (t0 t1 t2 t3 t4 t5 t6 : TypeId) : ∃ X, X = (((((((w.alloc (.cells c0 t0)).alloc (.cells c1 t1)).alloc (.cells c2 t2)).alloc (.cells c3 t3)).alloc (.cells c4 t4)).alloc (.cells c5 t5)).alloc (.cells c6 t6)) ∧ Kept w X ∧ Own X (w.heap.size) t0 c0 ∧ Own X (w.heap.size + 1) t1 c1 ∧ Own X (w.heap.size + 1 + 1) t2 c2 ∧ Own X (w.heap.size + 1 + 1 + 1) t3 c3 ∧ Own X (w.heap.size + 1 + 1 + 1 + 1) t4 c4 ∧ Own X (w.heap.size + 1 + 1 + 1 + 1 + 1) t5 c5 ∧ Own X (w.heap.size + 1 + 1 + 1 + 1 + 1 + 1) t6 c6 :=
  ⟨_, rfl, ((((((((Kept.refl w).alloc _).alloc _).alloc _).alloc _).alloc _).alloc _).alloc _), (((((((Own.at_ w c0 t0 rfl).alloc _).alloc _).alloc _).alloc _).alloc _).alloc _), ((((((Own.at_ (w.alloc (.cells c0 t0)) c1 t1 (by simp only [World.size_alloc])).alloc _).alloc _).alloc _).alloc _).alloc _), (((((Own.at_ ((w.alloc (.cells c0 t0)).alloc (.cells c1 t1)) c2 t2 (by simp only [World.size_alloc])).alloc _).alloc _).alloc _).alloc _), ((((Own.at_ (((w.alloc (.cells c0 t0)).alloc (.cells c1 t1)).alloc (.cells c2 t2)) c3 t3 (by simp only [World.size_alloc])).alloc _).alloc _).alloc _), (((Own.at_ ((((w.alloc (.cells c0 t0)).alloc (.cells c1 t1)).alloc (.cells c2 t2)).alloc (.cells c3 t3)) c4 t4 (by simp only [World.size_alloc])).alloc _).alloc _), ((Own.at_ (((((w.alloc (.cells c0 t0)).alloc (.cells c1 t1)).alloc (.cells c2 t2)).alloc (.cells c3 t3)).alloc (.cells c4 t4)) c5 t5 (by simp only [World.size_alloc])).alloc _), (Own.at_ ((((((w.alloc (.cells c0 t0)).alloc (.cells c1 t1)).alloc (.cells c2 t2)).alloc (.cells c3 t3)).alloc (.cells c4 t4)).alloc (.cells c5 t5)) c6 t6 (by simp only [World.size_alloc]))⟩
theorem with_boxes7 {P : Program} {f : FuncId} {args : Array Value} {R : Ending → World → Prop} {w : World} {c0 c1 c2 c3 c4 c5 c6 : Array Value} {t0 t1 t2 t3 t4 t5 t6 : TypeId}
    (h : ∀ X, Kept w X → Own X (w.heap.size) t0 c0 → Own X (w.heap.size + 1) t1 c1 → Own X (w.heap.size + 1 + 1) t2 c2 → Own X (w.heap.size + 1 + 1 + 1) t3 c3 → Own X (w.heap.size + 1 + 1 + 1 + 1) t4 c4 → Own X (w.heap.size + 1 + 1 + 1 + 1 + 1) t5 c5 → Own X (w.heap.size + 1 + 1 + 1 + 1 + 1 + 1) t6 c6 → Calls P f args X R) : Calls P f args (((((((w.alloc (.cells c0 t0)).alloc (.cells c1 t1)).alloc (.cells c2 t2)).alloc (.cells c3 t3)).alloc (.cells c4 t4)).alloc (.cells c5 t5)).alloc (.cells c6 t6)) R := by
  obtain ⟨X, e, k, b0, b1, b2, b3, b4, b5, b6⟩ := boxes7 w c0 c1 c2 c3 c4 c5 c6 t0 t1 t2 t3 t4 t5 t6
  rw [← e]; exact h X k b0 b1 b2 b3 b4 b5 b6
theorem code_boxes7 {P : Program} {c : Code} {Q : Exit → Act → World → Prop} {a : Act} {w : World} {c0 c1 c2 c3 c4 c5 c6 : Array Value} {t0 t1 t2 t3 t4 t5 t6 : TypeId}
    (h : ∀ X, Kept w X → Own X (w.heap.size) t0 c0 → Own X (w.heap.size + 1) t1 c1 → Own X (w.heap.size + 1 + 1) t2 c2 → Own X (w.heap.size + 1 + 1 + 1) t3 c3 → Own X (w.heap.size + 1 + 1 + 1 + 1) t4 c4 → Own X (w.heap.size + 1 + 1 + 1 + 1 + 1) t5 c5 → Own X (w.heap.size + 1 + 1 + 1 + 1 + 1 + 1) t6 c6 → c.wp P Q a X) : c.wp P Q a (((((((w.alloc (.cells c0 t0)).alloc (.cells c1 t1)).alloc (.cells c2 t2)).alloc (.cells c3 t3)).alloc (.cells c4 t4)).alloc (.cells c5 t5)).alloc (.cells c6 t6)) := by
  obtain ⟨X, e, k, b0, b1, b2, b3, b4, b5, b6⟩ := boxes7 w c0 c1 c2 c3 c4 c5 c6 t0 t1 t2 t3 t4 t5 t6
  rw [← e]; exact h X k b0 b1 b2 b3 b4 b5 b6
theorem boxes8 (w : World) (c0 c1 c2 c3 c4 c5 c6 c7 : Array Value) (t0 t1 t2 t3 t4 t5 t6 t7 : TypeId) : ∃ X, X = ((((((((w.alloc (.cells c0 t0)).alloc (.cells c1 t1)).alloc (.cells c2 t2)).alloc (.cells c3 t3)).alloc (.cells c4 t4)).alloc (.cells c5 t5)).alloc (.cells c6 t6)).alloc (.cells c7 t7)) ∧ Kept w X ∧ Own X (w.heap.size) t0 c0 ∧ Own X (w.heap.size + 1) t1 c1 ∧ Own X (w.heap.size + 1 + 1) t2 c2 ∧ Own X (w.heap.size + 1 + 1 + 1) t3 c3 ∧ Own X (w.heap.size + 1 + 1 + 1 + 1) t4 c4 ∧ Own X (w.heap.size + 1 + 1 + 1 + 1 + 1) t5 c5 ∧ Own X (w.heap.size + 1 + 1 + 1 + 1 + 1 + 1) t6 c6 ∧ Own X (w.heap.size + 1 + 1 + 1 + 1 + 1 + 1 + 1) t7 c7 :=
  ⟨_, rfl, (((((((((Kept.refl w).alloc _).alloc _).alloc _).alloc _).alloc _).alloc _).alloc _).alloc _), ((((((((Own.at_ w c0 t0 rfl).alloc _).alloc _).alloc _).alloc _).alloc _).alloc _).alloc _), (((((((Own.at_ (w.alloc (.cells c0 t0)) c1 t1 (by simp only [World.size_alloc])).alloc _).alloc _).alloc _).alloc _).alloc _).alloc _), ((((((Own.at_ ((w.alloc (.cells c0 t0)).alloc (.cells c1 t1)) c2 t2 (by simp only [World.size_alloc])).alloc _).alloc _).alloc _).alloc _).alloc _), (((((Own.at_ (((w.alloc (.cells c0 t0)).alloc (.cells c1 t1)).alloc (.cells c2 t2)) c3 t3 (by simp only [World.size_alloc])).alloc _).alloc _).alloc _).alloc _), ((((Own.at_ ((((w.alloc (.cells c0 t0)).alloc (.cells c1 t1)).alloc (.cells c2 t2)).alloc (.cells c3 t3)) c4 t4 (by simp only [World.size_alloc])).alloc _).alloc _).alloc _), (((Own.at_ (((((w.alloc (.cells c0 t0)).alloc (.cells c1 t1)).alloc (.cells c2 t2)).alloc (.cells c3 t3)).alloc (.cells c4 t4)) c5 t5 (by simp only [World.size_alloc])).alloc _).alloc _), ((Own.at_ ((((((w.alloc (.cells c0 t0)).alloc (.cells c1 t1)).alloc (.cells c2 t2)).alloc (.cells c3 t3)).alloc (.cells c4 t4)).alloc (.cells c5 t5)) c6 t6 (by simp only [World.size_alloc])).alloc _), (Own.at_ (((((((w.alloc (.cells c0 t0)).alloc (.cells c1 t1)).alloc (.cells c2 t2)).alloc (.cells c3 t3)).alloc (.cells c4 t4)).alloc (.cells c5 t5)).alloc (.cells c6 t6)) c7 t7 (by simp only [World.size_alloc]))⟩
theorem with_boxes8 {P : Program} {f : FuncId} {args : Array Value} {R : Ending → World → Prop} {w : World} {c0 c1 c2 c3 c4 c5 c6 c7 : Array Value} {t0 t1 t2 t3 t4 t5 t6 t7 : TypeId}
    (h : ∀ X, Kept w X → Own X (w.heap.size) t0 c0 → Own X (w.heap.size + 1) t1 c1 → Own X (w.heap.size + 1 + 1) t2 c2 → Own X (w.heap.size + 1 + 1 + 1) t3 c3 → Own X (w.heap.size + 1 + 1 + 1 + 1) t4 c4 → Own X (w.heap.size + 1 + 1 + 1 + 1 + 1) t5 c5 → Own X (w.heap.size + 1 + 1 + 1 + 1 + 1 + 1) t6 c6 → Own X (w.heap.size + 1 + 1 + 1 + 1 + 1 + 1 + 1) t7 c7 → Calls P f args X R) : Calls P f args ((((((((w.alloc (.cells c0 t0)).alloc (.cells c1 t1)).alloc (.cells c2 t2)).alloc (.cells c3 t3)).alloc (.cells c4 t4)).alloc (.cells c5 t5)).alloc (.cells c6 t6)).alloc (.cells c7 t7)) R := by
  obtain ⟨X, e, k, b0, b1, b2, b3, b4, b5, b6, b7⟩ := boxes8 w c0 c1 c2 c3 c4 c5 c6 c7 t0 t1 t2 t3 t4 t5 t6 t7
  rw [← e]; exact h X k b0 b1 b2 b3 b4 b5 b6 b7
theorem code_boxes8 {P : Program} {c : Code} {Q : Exit → Act → World → Prop} {a : Act} {w : World} {c0 c1 c2 c3 c4 c5 c6 c7 : Array Value} {t0 t1 t2 t3 t4 t5 t6 t7 : TypeId}
    (h : ∀ X, Kept w X → Own X (w.heap.size) t0 c0 → Own X (w.heap.size + 1) t1 c1 → Own X (w.heap.size + 1 + 1) t2 c2 → Own X (w.heap.size + 1 + 1 + 1) t3 c3 → Own X (w.heap.size + 1 + 1 + 1 + 1) t4 c4 → Own X (w.heap.size + 1 + 1 + 1 + 1 + 1) t5 c5 → Own X (w.heap.size + 1 + 1 + 1 + 1 + 1 + 1) t6 c6 → Own X (w.heap.size + 1 + 1 + 1 + 1 + 1 + 1 + 1) t7 c7 → c.wp P Q a X) : c.wp P Q a ((((((((w.alloc (.cells c0 t0)).alloc (.cells c1 t1)).alloc (.cells c2 t2)).alloc (.cells c3 t3)).alloc (.cells c4 t4)).alloc (.cells c5 t5)).alloc (.cells c6 t6)).alloc (.cells c7 t7)) := by
  obtain ⟨X, e, k, b0, b1, b2, b3, b4, b5, b6, b7⟩ := boxes8 w c0 c1 c2 c3 c4 c5 c6 c7 t0 t1 t2 t3 t4 t5 t6 t7
  rw [← e]; exact h X k b0 b1 b2 b3 b4 b5 b6 b7
theorem boxes1d (w : World) (c0 : Array Value) (t0 : TypeId) : ∃ X, X = ((w.alloc (.cells c0 t0)).drew) ∧ Kept w X ∧ Own X (w.heap.size) t0 c0 :=
  ⟨_, rfl, (((Kept.refl w).alloc _).drew), ((Own.at_ w c0 t0 rfl).drew)⟩
theorem with_boxes1d {P : Program} {f : FuncId} {args : Array Value} {R : Ending → World → Prop} {w : World} {c0 : Array Value} {t0 : TypeId}
    (h : ∀ X, Kept w X → Own X (w.heap.size) t0 c0 → Calls P f args X R) : Calls P f args ((w.alloc (.cells c0 t0)).drew) R := by
  obtain ⟨X, e, k, b0⟩ := boxes1d w c0 t0
  rw [← e]; exact h X k b0
theorem code_boxes1d {P : Program} {c : Code} {Q : Exit → Act → World → Prop} {a : Act} {w : World} {c0 : Array Value} {t0 : TypeId}
    (h : ∀ X, Kept w X → Own X (w.heap.size) t0 c0 → c.wp P Q a X) : c.wp P Q a ((w.alloc (.cells c0 t0)).drew) := by
  obtain ⟨X, e, k, b0⟩ := boxes1d w c0 t0
  rw [← e]; exact h X k b0
theorem boxes2d (w : World) (c0 c1 : Array Value) (t0 t1 : TypeId) : ∃ X, X = (((w.alloc (.cells c0 t0)).alloc (.cells c1 t1)).drew) ∧ Kept w X ∧ Own X (w.heap.size) t0 c0 ∧ Own X (w.heap.size + 1) t1 c1 :=
  ⟨_, rfl, ((((Kept.refl w).alloc _).alloc _).drew), (((Own.at_ w c0 t0 rfl).alloc _).drew), ((Own.at_ (w.alloc (.cells c0 t0)) c1 t1 (by simp only [World.size_alloc])).drew)⟩
theorem with_boxes2d {P : Program} {f : FuncId} {args : Array Value} {R : Ending → World → Prop} {w : World} {c0 c1 : Array Value} {t0 t1 : TypeId}
    (h : ∀ X, Kept w X → Own X (w.heap.size) t0 c0 → Own X (w.heap.size + 1) t1 c1 → Calls P f args X R) : Calls P f args (((w.alloc (.cells c0 t0)).alloc (.cells c1 t1)).drew) R := by
  obtain ⟨X, e, k, b0, b1⟩ := boxes2d w c0 c1 t0 t1
  rw [← e]; exact h X k b0 b1
theorem code_boxes2d {P : Program} {c : Code} {Q : Exit → Act → World → Prop} {a : Act} {w : World} {c0 c1 : Array Value} {t0 t1 : TypeId}
    (h : ∀ X, Kept w X → Own X (w.heap.size) t0 c0 → Own X (w.heap.size + 1) t1 c1 → c.wp P Q a X) : c.wp P Q a (((w.alloc (.cells c0 t0)).alloc (.cells c1 t1)).drew) := by
  obtain ⟨X, e, k, b0, b1⟩ := boxes2d w c0 c1 t0 t1
  rw [← e]; exact h X k b0 b1
theorem boxes3d (w : World) (c0 c1 c2 : Array Value) (t0 t1 t2 : TypeId) : ∃ X, X = ((((w.alloc (.cells c0 t0)).alloc (.cells c1 t1)).alloc (.cells c2 t2)).drew) ∧ Kept w X ∧ Own X (w.heap.size) t0 c0 ∧ Own X (w.heap.size + 1) t1 c1 ∧ Own X (w.heap.size + 1 + 1) t2 c2 :=
  ⟨_, rfl, (((((Kept.refl w).alloc _).alloc _).alloc _).drew), ((((Own.at_ w c0 t0 rfl).alloc _).alloc _).drew), (((Own.at_ (w.alloc (.cells c0 t0)) c1 t1 (by simp only [World.size_alloc])).alloc _).drew), ((Own.at_ ((w.alloc (.cells c0 t0)).alloc (.cells c1 t1)) c2 t2 (by simp only [World.size_alloc])).drew)⟩
theorem with_boxes3d {P : Program} {f : FuncId} {args : Array Value} {R : Ending → World → Prop} {w : World} {c0 c1 c2 : Array Value} {t0 t1 t2 : TypeId}
    (h : ∀ X, Kept w X → Own X (w.heap.size) t0 c0 → Own X (w.heap.size + 1) t1 c1 → Own X (w.heap.size + 1 + 1) t2 c2 → Calls P f args X R) : Calls P f args ((((w.alloc (.cells c0 t0)).alloc (.cells c1 t1)).alloc (.cells c2 t2)).drew) R := by
  obtain ⟨X, e, k, b0, b1, b2⟩ := boxes3d w c0 c1 c2 t0 t1 t2
  rw [← e]; exact h X k b0 b1 b2
theorem code_boxes3d {P : Program} {c : Code} {Q : Exit → Act → World → Prop} {a : Act} {w : World} {c0 c1 c2 : Array Value} {t0 t1 t2 : TypeId}
    (h : ∀ X, Kept w X → Own X (w.heap.size) t0 c0 → Own X (w.heap.size + 1) t1 c1 → Own X (w.heap.size + 1 + 1) t2 c2 → c.wp P Q a X) : c.wp P Q a ((((w.alloc (.cells c0 t0)).alloc (.cells c1 t1)).alloc (.cells c2 t2)).drew) := by
  obtain ⟨X, e, k, b0, b1, b2⟩ := boxes3d w c0 c1 c2 t0 t1 t2
  rw [← e]; exact h X k b0 b1 b2
theorem boxes4d (w : World) (c0 c1 c2 c3 : Array Value) (t0 t1 t2 t3 : TypeId) : ∃ X, X = (((((w.alloc (.cells c0 t0)).alloc (.cells c1 t1)).alloc (.cells c2 t2)).alloc (.cells c3 t3)).drew) ∧ Kept w X ∧ Own X (w.heap.size) t0 c0 ∧ Own X (w.heap.size + 1) t1 c1 ∧ Own X (w.heap.size + 1 + 1) t2 c2 ∧ Own X (w.heap.size + 1 + 1 + 1) t3 c3 :=
  ⟨_, rfl, ((((((Kept.refl w).alloc _).alloc _).alloc _).alloc _).drew), (((((Own.at_ w c0 t0 rfl).alloc _).alloc _).alloc _).drew), ((((Own.at_ (w.alloc (.cells c0 t0)) c1 t1 (by simp only [World.size_alloc])).alloc _).alloc _).drew), (((Own.at_ ((w.alloc (.cells c0 t0)).alloc (.cells c1 t1)) c2 t2 (by simp only [World.size_alloc])).alloc _).drew), ((Own.at_ (((w.alloc (.cells c0 t0)).alloc (.cells c1 t1)).alloc (.cells c2 t2)) c3 t3 (by simp only [World.size_alloc])).drew)⟩
theorem with_boxes4d {P : Program} {f : FuncId} {args : Array Value} {R : Ending → World → Prop} {w : World} {c0 c1 c2 c3 : Array Value} {t0 t1 t2 t3 : TypeId}
    (h : ∀ X, Kept w X → Own X (w.heap.size) t0 c0 → Own X (w.heap.size + 1) t1 c1 → Own X (w.heap.size + 1 + 1) t2 c2 → Own X (w.heap.size + 1 + 1 + 1) t3 c3 → Calls P f args X R) : Calls P f args (((((w.alloc (.cells c0 t0)).alloc (.cells c1 t1)).alloc (.cells c2 t2)).alloc (.cells c3 t3)).drew) R := by
  obtain ⟨X, e, k, b0, b1, b2, b3⟩ := boxes4d w c0 c1 c2 c3 t0 t1 t2 t3
  rw [← e]; exact h X k b0 b1 b2 b3
theorem code_boxes4d {P : Program} {c : Code} {Q : Exit → Act → World → Prop} {a : Act} {w : World} {c0 c1 c2 c3 : Array Value} {t0 t1 t2 t3 : TypeId}
    (h : ∀ X, Kept w X → Own X (w.heap.size) t0 c0 → Own X (w.heap.size + 1) t1 c1 → Own X (w.heap.size + 1 + 1) t2 c2 → Own X (w.heap.size + 1 + 1 + 1) t3 c3 → c.wp P Q a X) : c.wp P Q a (((((w.alloc (.cells c0 t0)).alloc (.cells c1 t1)).alloc (.cells c2 t2)).alloc (.cells c3 t3)).drew) := by
  obtain ⟨X, e, k, b0, b1, b2, b3⟩ := boxes4d w c0 c1 c2 c3 t0 t1 t2 t3
  rw [← e]; exact h X k b0 b1 b2 b3
end Go.Proofs.YtnbagilcbngdcaaDoor
namespace Go.Proofs.YtnbagilcbngdcaaDoor
open Go.RowKit
set_option linter.unusedSimpArgs false
set_option linter.unusedVariables false
/-- texts that lie in a row at a block's beginning -/
def StrsAt (w : World) (b n : Nat) (S : Nat → ByteArray) : Prop := ∀ j, j < n → w.cell? ⟨b, j, none⟩ = some (.string (S j))
theorem StrsAt.kept {w w' : World} {b n : Nat} {S : Nat → ByteArray} (h : StrsAt w b n S) (k : Kept w w') : StrsAt w' b n S :=
  fun j hj => (k.cell (World.block_lt_of_cell? w _ (h j hj))).trans (h j hj)
def wordsS (l : List ByteArray) (k : Nat) : ByteArray := l.getD k ⟨#[]⟩
theorem strs_own {w : World} {b : Nat} {t : TypeId} {cs : Array Value} (h : Own w b t cs) (l : List ByteArray) (hc : cs.toList = l.map Value.string) : StrsAt w b l.length (wordsS l) := by
  intro j hj
  rw [h.cell, ← Array.getElem?_toList, hc, List.getElem?_map]
  unfold wordsS
  rw [List.getElem?_eq_getElem hj, List.getD_eq_getElem?_getD, List.getElem?_eq_getElem hj]
  rfl
def idxF (v : ByteArray) (S : Nat → ByteArray) : Nat → Nat → Int
  | 0, _ => -1
  | n + 1, k => if (v.toList == (S k).toList) = true then (k : Int) else idxF v S n (k + 1)
def idxW (v : ByteArray) (S : Nat → ByteArray) (n : Nat) : Int := idxF v S n 0
theorem idxF_step {v : ByteArray} {S : Nat → ByteArray} {n k : Nat} (h : k < n) : idxF v S (n - k) k = if (v.toList == (S k).toList) = true then (k : Int) else idxF v S (n - (k + 1)) (k + 1) := by
  obtain ⟨m, hm⟩ : ∃ m, n - k = m + 1 := ⟨n - k - 1, by omega⟩
  rw [hm, show n - (k + 1) = m from by omega]; rfl
theorem idxF_bd (v : ByteArray) (S : Nat → ByteArray) : ∀ n k, -1 ≤ idxF v S n k ∧ idxF v S n k < (n : Int) + k ∨ idxF v S n k = -1 := by
  intro n
  induction n with
  | zero => intro k; exact .inr rfl
  | succ n ih =>
    intro k
    unfold idxF
    split
    · exact .inl (by omega)
    · rcases ih (k + 1) with h | h
      · exact .inl (by omega)
      · exact .inr h
theorem idxW_bd (v : ByteArray) (S : Nat → ByteArray) (n : Nat) : -1 ≤ idxW v S n ∧ idxW v S n ≤ (n : Int) := by
  rcases idxF_bd v S n 0 with h | h
  · unfold idxW; omega
  · unfold idxW; omega
theorem beq_turn {a b : List UInt8} {c : Bool} (h : (a == b) = c) : (b == a) = c := by
  rw [← h, Bool.eq_iff_iff, beq_iff_eq, beq_iff_eq]; exact eq_comm
set_option maxHeartbeats 1000000 in
theorem indexStr_any (v : ByteArray) (b n c : Nat) (S : Nat → ByteArray) (w : World) (h : StrsAt w b n S) (hn : n ≤ 1000) :
    Calls Tryd.prog 73 #[.slice (some ⟨b, 0, none⟩) n c, .string v] w fun e w' => e = .returned (.int .i64 (idxW v S n)) ∧ w = w' := by
  go_enter Tryd.func73, Tryd.ntmps73
  go_wp2
  go_loopw [4, 5, 8] (fun _ _ i wx => ∃ k : Nat, k ≤ n ∧ i = .int .i64 k ∧ w = wx ∧ idxF v S (n - k) k = idxW v S n) (fun _ _ i _ => n - (intOf i).toNat)
  case atStart => exact ⟨0, Nat.zero_le _, rfl, rfl, rfl⟩
  case round =>
    obtain ⟨k, hk, rfl, rfl, hs⟩ := hrel
    have Hs := Lib.hid hs
    clear hs
    by_cases hlt : k < n
    · have hi1 : (k : Int) < (n : Int) := by omega
      have c0 := h k hlt
      have HS := Lib.hid (idxF_step (v := v) (S := S) hlt)
      generalize S k = x at *
      cases hx : (v.toList == x.toList) with
      | true =>
        have HN := Lib.hid (show (k : Int) = idxW v S n from by rw [← Hs.out, HS.out, if_pos hx])
        clear HS Hs
        go_wp2
        go_ret
        exact ⟨ret_int HN.out, rfl⟩
      | false =>
        have HN := Lib.hid (show idxF v S (n - (k + 1)) (k + 1) = idxW v S n from by rw [← Hs.out, HS.out, if_neg (by rw [hx]; decide)])
        clear HS Hs
        go_wp2
        exact ⟨⟨k + 1, by omega, by first | rfl | go_num, by first | exact trivial | rfl, HN.out⟩, by first | (simp [intOf]; done) | (simp [intOf]; omega)⟩
    · obtain rfl : k = n := by omega
      have HN := Lib.hid (show (-1 : Int) = idxW v S k from by rw [← Hs.out, Nat.sub_self]; rfl)
      clear Hs
      go_wp2
      go_ret
      exact ⟨ret_int HN.out, rfl⟩
theorem cascadeWord_any (v : ByteArray) (b n c : Nat) (S : Nat → ByteArray) (w : World) (h : StrsAt w b n S) (hn : n ≤ 1000) :
    Calls Tryd.prog 59 #[.string v, .slice (some ⟨b, 0, none⟩) n c] w fun e w' => e = .returned (.tuple #[.int .i64 (max 0 (idxW v S n)), .bool (decide (0 ≤ idxW v S n))]) ∧ w = w' := by
  have hb := idxW_bd v S n
  have HI := Lib.hid (fun wx (hx : StrsAt wx b n S) => indexStr_any v b n c S wx hx hn)
  generalize idxW v S n = i at *
  rcases (by omega : i = -1 ∨ i = 0 ∨ 0 < i) with rfl | rfl | h0
  · skip
    have hk : Kept w w := Kept.refl w
    go_enter Tryd.func59, Tryd.ntmps59
    go_wp2_with fail
    refine (HI.out _ h).mono ?_
    rintro e w1 ⟨rfl, rfl⟩
    go_wp2
    go_ret2
    exact ⟨rfl, rfl⟩
  · skip
    have hk : Kept w w := Kept.refl w
    go_enter Tryd.func59, Tryd.ntmps59
    go_wp2_with fail
    refine (HI.out _ h).mono ?_
    rintro e w1 ⟨rfl, rfl⟩
    go_wp2
    go_ret2
    exact ⟨rfl, rfl⟩
  · have e1 : max 0 i = i := by omega
    have e2 : decide (0 ≤ i) = true := by simp; omega
    rw [e1, e2]
    have hk : Kept w w := Kept.refl w
    go_enter Tryd.func59, Tryd.ntmps59
    go_wp2_with fail
    refine (HI.out _ h).mono ?_
    rintro e w1 ⟨rfl, rfl⟩
    go_wp2
    go_ret2
    exact ⟨rfl, rfl⟩
set_option maxHeartbeats 1000000 in
theorem refWord_any (v : ByteArray) (b n c : Nat) (S : Nat → ByteArray) (w : World) (h : StrsAt w b n S) (hn : n ≤ 1000) :
    Calls Tryd.prog 75 #[.string v, .slice (some ⟨b, 0, none⟩) n c] w fun e w' => e = .returned (.int .i64 (idxW v S n)) ∧ w = w' := by
  go_enter Tryd.func75, Tryd.ntmps75
  go_wp2
  go_loopw [5] (fun i wx => ∃ k : Nat, k ≤ n ∧ i = .int .i64 k ∧ w = wx ∧ idxF v S (n - k) k = idxW v S n) (fun i _ => n - (intOf i).toNat)
  case atStart => exact ⟨0, Nat.zero_le _, rfl, rfl, rfl⟩
  case round =>
    obtain ⟨k, hk, rfl, rfl, hs⟩ := hrel
    have Hs := Lib.hid hs
    clear hs
    by_cases hlt : k < n
    · have hi1 : (k : Int) < (n : Int) := by omega
      have c0 := h k hlt
      have HS := Lib.hid (idxF_step (v := v) (S := S) hlt)
      generalize S k = x at *
      cases hx : (v.toList == x.toList) with
      | true =>
        have HN := Lib.hid (show (k : Int) = idxW v S n from by rw [← Hs.out, HS.out, if_pos hx])
        have hy := beq_turn hx
        clear HS Hs hx
        go_wp2
        go_ret
        exact ⟨ret_int HN.out, rfl⟩
      | false =>
        have HN := Lib.hid (show idxF v S (n - (k + 1)) (k + 1) = idxW v S n from by rw [← Hs.out, HS.out, if_neg (by rw [hx]; decide)])
        have hy := beq_turn hx
        clear HS Hs hx
        go_wp2
        exact ⟨⟨k + 1, by omega, by first | rfl | go_num, by first | exact trivial | rfl, HN.out⟩, by first | (simp [intOf]; done) | (simp [intOf]; omega)⟩
    · obtain rfl : k = n := by omega
      have HN := Lib.hid (show (-1 : Int) = idxW v S k from by rw [← Hs.out, Nat.sub_self]; rfl)
      clear Hs
      go_wp2
      go_ret
      exact ⟨ret_int HN.out, rfl⟩
end Go.Proofs.YtnbagilcbngdcaaDoor
namespace Go.Proofs.YtnbagilcbngdcaaDoor
open Go.RowKit
/-- all of a list's numbers are between two limits -/
def eachB (lo hi : Int) : List Int → Bool
  | [] => true
  | x :: r => if x < lo then false else if hi < x then false else eachB lo hi r
theorem eachB_iff {lo hi : Int} {zs : List Int} : eachB lo hi zs = true ↔ ∀ x ∈ zs, lo ≤ x ∧ x ≤ hi := by
  induction zs with
  | nil => simp [eachB]
  | cons x r ih =>
    unfold eachB
    by_cases h1 : x < lo
    · rw [if_pos h1]; simp; omega
    · by_cases h2 : hi < x
      · rw [if_neg h1, if_pos h2]; simp; omega
      · rw [if_neg h1, if_neg h2, ih]; simp; omega
theorem eachB_drop {lo hi : Int} {zs : List Int} {k : Nat} (h : k < zs.length) :
    eachB lo hi (zs.drop k) = if zs.getD k 0 < lo then false else if hi < zs.getD k 0 then false else eachB lo hi (zs.drop (k + 1)) := by
  rw [List.drop_eq_getElem_cons h, List.getD_eq_getElem?_getD, List.getElem?_eq_getElem h]; rfl
set_option maxHeartbeats 400000 in
theorem each_any (lo hi : Int) (b off len cap : Nat) (zs : List Int) (w : World) (hz : zs.length = len) (hm : len ≤ 9223372036854775807) (hc : Ints w b off zs) :
    Calls Tryd.prog 30 #[.int .i64 lo, .int .i64 hi, .slice (some ⟨b, off, none⟩) len cap] w fun e w' => e = .returned (.bool (eachB lo hi zs)) ∧ w = w' := by
  go_enter Tryd.func30, Tryd.ntmps30
  go_wp2
  go_loop [8, 11] (fun _ i => ∃ k : Nat, k ≤ len ∧ i = .int .i64 k ∧ eachB lo hi zs = eachB lo hi (zs.drop k)) (fun _ i => len - (intOf i).toNat)
  case atStart => exact ⟨0, Nat.zero_le _, rfl, by simp⟩
  case round =>
    obtain ⟨k, hk, rfl, he⟩ := hrel
    have He := Lib.hid he
    clear he
    by_cases hlt : k < len
    · have hcell := hc k (by omega)
      have hd := eachB_drop (lo := lo) (hi := hi) (zs := zs) (k := k) (by omega)
      generalize zs.getD k 0 = x at *
      have Hd := Lib.hid hd
      clear hd
      clear hc
      go_wp2
      · have h1 : lo ≤ x := by assumption
        have h2 : x < lo ∨ hi < x := by assumption
        go_ret
        exact ⟨ret_bool (by rw [He.out, Hd.out, if_neg (by omega), if_pos (by omega)]), rfl⟩
      · have h1 : lo ≤ x ∧ x ≤ hi := by assumption
        refine ⟨⟨k + 1, by omega, by go_num, ?_⟩, by simp [intOf]; omega⟩
        rw [He.out, Hd.out, if_neg (by omega), if_neg (by omega)]
      · have h1 : x < lo := by assumption
        go_ret
        exact ⟨ret_bool (by rw [He.out, Hd.out, if_pos h1]), rfl⟩
    · go_wp2
      go_ret
      exact ⟨ret_bool (by rw [He.out, List.drop_eq_nil_of_le (by omega)]; rfl), rfl⟩
/-- no number at all: whatever the slice -/
theorem each_none (lo hi : Int) (w : World) :
    Calls Tryd.prog 30 #[.int .i64 lo, .int .i64 hi, .slice none 0 0] w fun e w' => e = .returned (.bool true) ∧ w = w' := by
  go_enter Tryd.func30, Tryd.ntmps30
  go_wp2
  refine wp_loop_rounds 1 ?_
  rw [rounds_succ]
  go_wp2
  go_ret
  exact ⟨rfl, rfl⟩
/-- x lies between two limits -/
def inB (lo hi x : Int) : Bool := decide (lo ≤ x ∧ x ≤ hi)
theorem inB_true {lo hi x : Int} : inB lo hi x = true ↔ lo ≤ x ∧ x ≤ hi := by unfold inB; simp
theorem inB_false {lo hi x : Int} : inB lo hi x = false ↔ x < lo ∨ hi < x := by unfold inB; simp; omega
theorem each_one (lo hi x : Int) : eachB lo hi [x] = inB lo hi x := by
  rw [Bool.eq_iff_iff, eachB_iff, inB_true]; simp
theorem each_two (lo hi x y : Int) : eachB lo hi [x, y] = (inB lo hi x && inB lo hi y) := by
  rw [Bool.eq_iff_iff, eachB_iff, Bool.and_eq_true, inB_true, inB_true]; simp
theorem each_three (lo hi x y z : Int) : eachB lo hi [x, y, z] = (inB lo hi x && inB lo hi y && inB lo hi z) := by
  rw [Bool.eq_iff_iff, eachB_iff, Bool.and_eq_true, Bool.and_eq_true, inB_true, inB_true, inB_true]; simp; exact ⟨fun ⟨a, b, c⟩ => ⟨⟨a, b⟩, c⟩, fun ⟨⟨a, b⟩, c⟩ => ⟨a, b, c⟩⟩
section
variable (lo hi x y z : Int) (b : Nat) (w : World)
theorem each1_any (hx : w.cell? ⟨b, 0, none⟩ = some (.int .i64 x)) :
    Calls Tryd.prog 30 #[.int .i64 lo, .int .i64 hi, .slice (some ⟨b, 0, none⟩) 1 1] w fun e w' => e = .returned (.bool (inB lo hi x)) ∧ w = w' := by
  rw [← each_one]
  exact each_any lo hi b 0 1 1 [x] w rfl (by decide) (fun j hj => by
    match j, hj with
    | 0, _ => exact hx)
theorem each2_any (hx : w.cell? ⟨b, 0, none⟩ = some (.int .i64 x)) (hy : w.cell? ⟨b, 1, none⟩ = some (.int .i64 y)) :
    Calls Tryd.prog 30 #[.int .i64 lo, .int .i64 hi, .slice (some ⟨b, 0, none⟩) 2 2] w fun e w' => e = .returned (.bool (inB lo hi x && inB lo hi y)) ∧ w = w' := by
  rw [← each_two]
  exact each_any lo hi b 0 2 2 [x, y] w rfl (by decide) (fun j hj => by
    match j, hj with
    | 0, _ => exact hx
    | 1, _ => exact hy)
theorem each3_any (hx : w.cell? ⟨b, 0, none⟩ = some (.int .i64 x)) (hy : w.cell? ⟨b, 1, none⟩ = some (.int .i64 y)) (hz : w.cell? ⟨b, 2, none⟩ = some (.int .i64 z)) :
    Calls Tryd.prog 30 #[.int .i64 lo, .int .i64 hi, .slice (some ⟨b, 0, none⟩) 3 3] w fun e w' => e = .returned (.bool (inB lo hi x && inB lo hi y && inB lo hi z)) ∧ w = w' := by
  rw [← each_three]
  exact each_any lo hi b 0 3 3 [x, y, z] w rfl (by decide) (fun j hj => by
    match j, hj with
    | 0, _ => exact hx
    | 1, _ => exact hy
    | 2, _ => exact hz)
end
end Go.Proofs.YtnbagilcbngdcaaDoor
namespace Go.Proofs.YtnbagilcbngdcaaDoor
open Go.RowKit
def mayB (x : Int) : Bool := decide (-1073741824 ≤ x ∧ x ≤ 1073741824)
theorem mayB_true {x : Int} : mayB x = true ↔ -1073741824 ≤ x ∧ x ≤ 1073741824 := by unfold mayB; simp
theorem mayB_false {x : Int} : mayB x = false ↔ x < -1073741824 ∨ 1073741824 < x := by unfold mayB; simp; omega
theorem mayB_in (x : Int) : mayB x = inB (-1073741824) 1073741824 x := rfl
theorem unitMay_any (x : Int) (w : World) :
    Calls Tryd.prog 31 #[.int .i64 x] w fun e w' => e = .returned (.bool (mayB x)) ∧ Kept w w' := by
  go_enter Tryd.func31, Tryd.ntmps31
  go_wp2_with (first
    | (go_at_call 30; refine (each1_any _ _ _ _ _ (cell_at _ _ _ _ _ _ (by simp) rfl)).mono ?_; rintro e w1 ⟨rfl, rfl⟩)
    | fail)
  go_ret
  exact ⟨rfl, (Kept.refl _).alloc _⟩
/-- a number, if it may be -/
def smallS (x : Int) : Int × Int := if mayB x = true then (x, 0) else (0, 101)
theorem unitSmall_any (x : Int) (w : World) :
    Calls Tryd.prog 69 #[.int .i64 x] w fun e w' => e = .returned (.tuple #[.int .i64 (smallS x).1, .int .i64 (smallS x).2]) ∧ Kept w w' := by
  by_cases h : mayB x = true
  · have hs : smallS x = (x, 0) := if_pos h
    rw [hs]
    clear hs
    have hk : Kept w w := Kept.refl w
    go_enter Tryd.func69, Tryd.ntmps69
    go_wp2_with (first
      | (go_at_call 31; refine (unitMay_any _ _).mono ?_; rintro e w1 ⟨rfl, hn⟩; replace hk := Kept.trans (by first | ((repeat (first | with_reducible exact hk | with_reducible refine Kept.alloc ?_ _ | with_reducible refine Kept.drew ?_ | with_reducible refine Kept.drewN ?_ _ | with_reducible refine Kept.set ?_ (by first | (simp; done) | (simp; omega) | omega) _)); done) | exact hk | exact (hk.alloc _) | exact ((hk.alloc _).alloc _) | exact (((hk.alloc _).alloc _).alloc _) | exact ((((hk.alloc _).alloc _).alloc _).alloc _) | exact (((((hk.alloc _).alloc _).alloc _).alloc _).alloc _) | exact ((((((hk.alloc _).alloc _).alloc _).alloc _).alloc _).alloc _)) hn)
      | fail)
    go_ret2
    exact ⟨rfl, hk⟩
  · have hs : smallS x = (0, 101) := if_neg h
    rw [hs]
    clear hs
    have hk : Kept w w := Kept.refl w
    go_enter Tryd.func69, Tryd.ntmps69
    go_wp2_with (first
      | (go_at_call 31; refine (unitMay_any _ _).mono ?_; rintro e w1 ⟨rfl, hn⟩; replace hk := Kept.trans (by first | ((repeat (first | with_reducible exact hk | with_reducible refine Kept.alloc ?_ _ | with_reducible refine Kept.drew ?_ | with_reducible refine Kept.drewN ?_ _ | with_reducible refine Kept.set ?_ (by first | (simp; done) | (simp; omega) | omega) _)); done) | exact hk | exact (hk.alloc _) | exact ((hk.alloc _).alloc _) | exact (((hk.alloc _).alloc _).alloc _) | exact ((((hk.alloc _).alloc _).alloc _).alloc _) | exact (((((hk.alloc _).alloc _).alloc _).alloc _).alloc _) | exact ((((((hk.alloc _).alloc _).alloc _).alloc _).alloc _).alloc _)) hn)
      | fail)
    go_ret2
    exact ⟨rfl, hk⟩
theorem floor_div (x c : Int) (hc : 1 ≤ c) : x / c = if x.tmod c < 0 then x.tdiv c - 1 else x.tdiv c := by
  have h3 := Int.emod_nonneg x (show c ≠ 0 by omega)
  have h4 := Int.emod_lt_of_pos x (show 0 < c by omega)
  have h5 : c.sign = 1 := Int.sign_eq_one_of_pos (by omega)
  rw [Int.tmod_eq_emod, Int.tdiv_eq_ediv, h5]
  by_cases h : 0 ≤ x ∨ c ∣ x
  · rw [if_pos h, if_pos h, if_neg (by omega)]; omega
  · rw [if_neg h, if_neg h, if_pos (by omega)]; omega
theorem tdiv_bd (x c : Int) (h1 : -4611686018427387904 ≤ x) (h2 : x ≤ 4611686018427387904) : -4611686018427387904 ≤ x.tdiv c ∧ x.tdiv c ≤ 4611686018427387904 := by
  have h := Int.natAbs_tdiv x c
  have h' := Nat.div_le_self x.natAbs c.natAbs
  have : (x.tdiv c).natAbs ≤ x.natAbs := by rw [h]; exact h'
  omega
theorem unitFloor_any (x c : Int) (w : World) (h1 : -4611686018427387904 ≤ x) (h2 : x ≤ 4611686018427387904) (h3 : 1 ≤ c) (h4 : c ≤ 4611686018427387904) :
    Calls Tryd.prog 70 #[.int .i64 x, .int .i64 c] w fun e w' => e = .returned (.int .i64 (x / c)) ∧ w = w' := by
  have hf := floor_div x c h3
  have Hf := Lib.hid hf
  clear hf
  obtain ⟨h5, h6⟩ := tdiv_bd x c h1 h2
  go_enter Tryd.func70, Tryd.ntmps70
  go_wp2
  · have h7 : x.tmod c < 0 := by assumption
    go_ret
    exact ⟨ret_int (by rw [Hf.out, if_pos h7]), rfl⟩
  · have h7 : 0 ≤ x.tmod c := by assumption
    go_ret
    exact ⟨ret_int (by rw [Hf.out, if_neg (by omega)]), rfl⟩
def addS (a b : Int) : Int × Int := if mayB a = true ∧ mayB b = true then smallS (a + b) else (0, 100)
def mulDivS (a b c : Int) : Int × Int := if mayB a = true ∧ mayB b = true ∧ mayB c = true ∧ 1 ≤ c then smallS (a * b / c) else (0, 100)
theorem mul_bd {a b : Int} (h1 : -1073741824 ≤ a ∧ a ≤ 1073741824) (h2 : -1073741824 ≤ b ∧ b ≤ 1073741824) : -1152921504606846976 ≤ a * b ∧ a * b ≤ 1152921504606846976 := by
  have h : (a * b).natAbs ≤ 1073741824 * 1073741824 := by rw [Int.natAbs_mul]; exact Nat.mul_le_mul (by omega) (by omega)
  omega
theorem unitMulDiv_any (a b c : Int) (w : World) :
    Calls Tryd.prog 52 #[.int .i64 a, .int .i64 b, .int .i64 c] w fun e w' => e = .returned (.tuple #[.int .i64 (mulDivS a b c).1, .int .i64 (mulDivS a b c).2]) ∧ Kept w w' := by
  cases ha : mayB a <;> cases hb : mayB b <;> cases hc : mayB c
  case true.true.true =>
    have h1 := mayB_true.1 ha
    have h2 := mayB_true.1 hb
    have h3 := mayB_true.1 hc
    have h4 := mul_bd h1 h2
    by_cases h5 : c < 1
    · have hs : mulDivS a b c = (0, 100) := if_neg (by omega)
      have Hs := Lib.hid hs
      clear hs
      have hk : Kept w w := Kept.refl w
      go_enter Tryd.func52, Tryd.ntmps52
      go_wp2_with (first
        | (go_at_call 31; refine (unitMay_any _ _).mono ?_; rintro e w1 ⟨rfl, hn⟩; replace hk := Kept.trans (by first | ((repeat (first | with_reducible exact hk | with_reducible refine Kept.alloc ?_ _ | with_reducible refine Kept.drew ?_ | with_reducible refine Kept.drewN ?_ _ | with_reducible refine Kept.set ?_ (by first | (simp; done) | (simp; omega) | omega) _)); done) | exact hk | exact (hk.alloc _) | exact ((hk.alloc _).alloc _) | exact (((hk.alloc _).alloc _).alloc _) | exact ((((hk.alloc _).alloc _).alloc _).alloc _) | exact (((((hk.alloc _).alloc _).alloc _).alloc _).alloc _) | exact ((((((hk.alloc _).alloc _).alloc _).alloc _).alloc _).alloc _)) hn)
        | fail)
      go_ret2
      exact ⟨by rw [Hs.out]; rfl, (by first | ((repeat (first | with_reducible exact hk | with_reducible refine Kept.alloc ?_ _ | with_reducible refine Kept.drew ?_ | with_reducible refine Kept.drewN ?_ _ | with_reducible refine Kept.set ?_ (by first | (simp; done) | (simp; omega) | omega) _)); done) | exact hk | exact (hk.alloc _) | exact ((hk.alloc _).alloc _) | exact (((hk.alloc _).alloc _).alloc _) | exact ((((hk.alloc _).alloc _).alloc _).alloc _) | exact (((((hk.alloc _).alloc _).alloc _).alloc _).alloc _) | exact ((((((hk.alloc _).alloc _).alloc _).alloc _).alloc _).alloc _) | (repeat (first | exact hk | refine Kept.alloc ?_ _ | refine Kept.drew ?_ | refine Kept.drewN ?_ _ | refine Kept.set ?_ (by first | (simp; done) | (simp; omega) | omega) _)))⟩
    · have hs : mulDivS a b c = smallS (a * b / c) := if_pos ⟨ha, hb, hc, by omega⟩
      have Hs := Lib.hid hs
      clear hs
      have hk : Kept w w := Kept.refl w
      go_enter Tryd.func52, Tryd.ntmps52
      go_wp2_with (first
        | (go_at_call 31; refine (unitMay_any _ _).mono ?_; rintro e w1 ⟨rfl, hn⟩; replace hk := Kept.trans (by first | ((repeat (first | with_reducible exact hk | with_reducible refine Kept.alloc ?_ _ | with_reducible refine Kept.drew ?_ | with_reducible refine Kept.drewN ?_ _ | with_reducible refine Kept.set ?_ (by first | (simp; done) | (simp; omega) | omega) _)); done) | exact hk | exact (hk.alloc _) | exact ((hk.alloc _).alloc _) | exact (((hk.alloc _).alloc _).alloc _) | exact ((((hk.alloc _).alloc _).alloc _).alloc _) | exact (((((hk.alloc _).alloc _).alloc _).alloc _).alloc _) | exact ((((((hk.alloc _).alloc _).alloc _).alloc _).alloc _).alloc _)) hn)
        | (go_at_call 70; refine (unitFloor_any _ _ _ (by omega) (by omega) (by omega) (by omega)).mono ?_; rintro e w1 ⟨rfl, rfl⟩)
        | (go_at_call 69; refine (unitSmall_any _ _).mono ?_; rintro e w1 ⟨rfl, hn⟩; replace hk := Kept.trans (by first | ((repeat (first | with_reducible exact hk | with_reducible refine Kept.alloc ?_ _ | with_reducible refine Kept.drew ?_ | with_reducible refine Kept.drewN ?_ _ | with_reducible refine Kept.set ?_ (by first | (simp; done) | (simp; omega) | omega) _)); done) | exact hk | exact (hk.alloc _) | exact ((hk.alloc _).alloc _) | exact (((hk.alloc _).alloc _).alloc _) | exact ((((hk.alloc _).alloc _).alloc _).alloc _) | exact (((((hk.alloc _).alloc _).alloc _).alloc _).alloc _) | exact ((((((hk.alloc _).alloc _).alloc _).alloc _).alloc _).alloc _)) hn)
        | fail)
      go_ret2
      exact ⟨by rw [Hs.out]; rfl, (by first | ((repeat (first | with_reducible exact hk | with_reducible refine Kept.alloc ?_ _ | with_reducible refine Kept.drew ?_ | with_reducible refine Kept.drewN ?_ _ | with_reducible refine Kept.set ?_ (by first | (simp; done) | (simp; omega) | omega) _)); done) | exact hk | exact (hk.alloc _) | exact ((hk.alloc _).alloc _) | exact (((hk.alloc _).alloc _).alloc _) | exact ((((hk.alloc _).alloc _).alloc _).alloc _) | exact (((((hk.alloc _).alloc _).alloc _).alloc _).alloc _) | exact ((((((hk.alloc _).alloc _).alloc _).alloc _).alloc _).alloc _) | (repeat (first | exact hk | refine Kept.alloc ?_ _ | refine Kept.drew ?_ | refine Kept.drewN ?_ _ | refine Kept.set ?_ (by first | (simp; done) | (simp; omega) | omega) _)))⟩
  all_goals
    have hs : mulDivS a b c = (0, 100) := if_neg (by simp [ha, hb, hc])
    have Hs := Lib.hid hs
    clear hs
    have hk : Kept w w := Kept.refl w
    go_enter Tryd.func52, Tryd.ntmps52
    go_wp2_with (first
      | (go_at_call 31; refine (unitMay_any _ _).mono ?_; rintro e w1 ⟨rfl, hn⟩; replace hk := Kept.trans (by first | ((repeat (first | with_reducible exact hk | with_reducible refine Kept.alloc ?_ _ | with_reducible refine Kept.drew ?_ | with_reducible refine Kept.drewN ?_ _ | with_reducible refine Kept.set ?_ (by first | (simp; done) | (simp; omega) | omega) _)); done) | exact hk | exact (hk.alloc _) | exact ((hk.alloc _).alloc _) | exact (((hk.alloc _).alloc _).alloc _) | exact ((((hk.alloc _).alloc _).alloc _).alloc _) | exact (((((hk.alloc _).alloc _).alloc _).alloc _).alloc _) | exact ((((((hk.alloc _).alloc _).alloc _).alloc _).alloc _).alloc _)) hn)
      | fail)
    go_ret2
    exact ⟨by rw [Hs.out]; rfl, (by first | ((repeat (first | with_reducible exact hk | with_reducible refine Kept.alloc ?_ _ | with_reducible refine Kept.drew ?_ | with_reducible refine Kept.drewN ?_ _ | with_reducible refine Kept.set ?_ (by first | (simp; done) | (simp; omega) | omega) _)); done) | exact hk | exact (hk.alloc _) | exact ((hk.alloc _).alloc _) | exact (((hk.alloc _).alloc _).alloc _) | exact ((((hk.alloc _).alloc _).alloc _).alloc _) | exact (((((hk.alloc _).alloc _).alloc _).alloc _).alloc _) | exact ((((((hk.alloc _).alloc _).alloc _).alloc _).alloc _).alloc _) | (repeat (first | exact hk | refine Kept.alloc ?_ _ | refine Kept.drew ?_ | refine Kept.drewN ?_ _ | refine Kept.set ?_ (by first | (simp; done) | (simp; omega) | omega) _)))⟩
def percentS (p o : Int) : Int × Int := if mayB o = true ∧ -100 ≤ p ∧ p ≤ 100 then mulDivS o p 100 else (0, 100)
theorem unitPercent_any (p o : Int) (w : World) :
    Calls Tryd.prog 32 #[.int .i64 p, .int .i64 o] w fun e w' => e = .returned (.tuple #[.int .i64 (percentS p o).1, .int .i64 (percentS p o).2]) ∧ Kept w w' := by
  cases ho : mayB o <;> cases hp : inB (-100) 100 p
  case true.true =>
    have h1 : -100 ≤ p ∧ p ≤ 100 := inB_true.1 hp
    have hs : percentS p o = mulDivS o p 100 := if_pos ⟨ho, h1⟩
    have Hs := Lib.hid hs
    clear hs
    have hk : Kept w w := Kept.refl w
    go_enter Tryd.func32, Tryd.ntmps32
    go_wp2_with (first
      | (go_at_call 31; refine (unitMay_any _ _).mono ?_; rintro e w1 ⟨rfl, hn⟩; replace hk := Kept.trans (by first | ((repeat (first | with_reducible exact hk | with_reducible refine Kept.alloc ?_ _ | with_reducible refine Kept.drew ?_ | with_reducible refine Kept.drewN ?_ _ | with_reducible refine Kept.set ?_ (by first | (simp; done) | (simp; omega) | omega) _)); done) | exact hk | exact (hk.alloc _) | exact ((hk.alloc _).alloc _) | exact (((hk.alloc _).alloc _).alloc _) | exact ((((hk.alloc _).alloc _).alloc _).alloc _) | exact (((((hk.alloc _).alloc _).alloc _).alloc _).alloc _) | exact ((((((hk.alloc _).alloc _).alloc _).alloc _).alloc _).alloc _)) hn)
      | (go_at_call 30; refine (each1_any _ _ _ _ _ (cell_at _ _ _ _ _ _ (by simp) rfl)).mono ?_; rintro e w1 ⟨rfl, rfl⟩)
      | (go_at_call 52; refine (unitMulDiv_any _ _ _ _).mono ?_; rintro e w1 ⟨rfl, hn⟩; replace hk := Kept.trans (by first | ((repeat (first | with_reducible exact hk | with_reducible refine Kept.alloc ?_ _ | with_reducible refine Kept.drew ?_ | with_reducible refine Kept.drewN ?_ _ | with_reducible refine Kept.set ?_ (by first | (simp; done) | (simp; omega) | omega) _)); done) | exact hk | exact (hk.alloc _) | exact ((hk.alloc _).alloc _) | exact (((hk.alloc _).alloc _).alloc _) | exact ((((hk.alloc _).alloc _).alloc _).alloc _) | exact (((((hk.alloc _).alloc _).alloc _).alloc _).alloc _) | exact ((((((hk.alloc _).alloc _).alloc _).alloc _).alloc _).alloc _)) hn)
      | fail)
    go_ret2
    exact ⟨by rw [Hs.out]; rfl, (by first | ((repeat (first | with_reducible exact hk | with_reducible refine Kept.alloc ?_ _ | with_reducible refine Kept.drew ?_ | with_reducible refine Kept.drewN ?_ _ | with_reducible refine Kept.set ?_ (by first | (simp; done) | (simp; omega) | omega) _)); done) | exact hk | exact (hk.alloc _) | exact ((hk.alloc _).alloc _) | exact (((hk.alloc _).alloc _).alloc _) | exact ((((hk.alloc _).alloc _).alloc _).alloc _) | exact (((((hk.alloc _).alloc _).alloc _).alloc _).alloc _) | exact ((((((hk.alloc _).alloc _).alloc _).alloc _).alloc _).alloc _) | (repeat (first | exact hk | refine Kept.alloc ?_ _ | refine Kept.drew ?_ | refine Kept.drewN ?_ _ | refine Kept.set ?_ (by first | (simp; done) | (simp; omega) | omega) _)))⟩
  all_goals
    have hs : percentS p o = (0, 100) := if_neg (by first | (rw [inB_false] at hp; omega) | simp [ho])
    have Hs := Lib.hid hs
    clear hs
    have hk : Kept w w := Kept.refl w
    go_enter Tryd.func32, Tryd.ntmps32
    go_wp2_with (first
      | (go_at_call 31; refine (unitMay_any _ _).mono ?_; rintro e w1 ⟨rfl, hn⟩; replace hk := Kept.trans (by first | ((repeat (first | with_reducible exact hk | with_reducible refine Kept.alloc ?_ _ | with_reducible refine Kept.drew ?_ | with_reducible refine Kept.drewN ?_ _ | with_reducible refine Kept.set ?_ (by first | (simp; done) | (simp; omega) | omega) _)); done) | exact hk | exact (hk.alloc _) | exact ((hk.alloc _).alloc _) | exact (((hk.alloc _).alloc _).alloc _) | exact ((((hk.alloc _).alloc _).alloc _).alloc _) | exact (((((hk.alloc _).alloc _).alloc _).alloc _).alloc _) | exact ((((((hk.alloc _).alloc _).alloc _).alloc _).alloc _).alloc _)) hn)
      | (go_at_call 30; refine (each1_any _ _ _ _ _ (cell_at _ _ _ _ _ _ (by simp) rfl)).mono ?_; rintro e w1 ⟨rfl, rfl⟩)
      | fail)
    go_ret2
    exact ⟨by rw [Hs.out]; rfl, (by first | ((repeat (first | with_reducible exact hk | with_reducible refine Kept.alloc ?_ _ | with_reducible refine Kept.drew ?_ | with_reducible refine Kept.drewN ?_ _ | with_reducible refine Kept.set ?_ (by first | (simp; done) | (simp; omega) | omega) _)); done) | exact hk | exact (hk.alloc _) | exact ((hk.alloc _).alloc _) | exact (((hk.alloc _).alloc _).alloc _) | exact ((((hk.alloc _).alloc _).alloc _).alloc _) | exact (((((hk.alloc _).alloc _).alloc _).alloc _).alloc _) | exact ((((((hk.alloc _).alloc _).alloc _).alloc _).alloc _).alloc _) | (repeat (first | exact hk | refine Kept.alloc ?_ _ | refine Kept.drew ?_ | refine Kept.drewN ?_ _ | refine Kept.set ?_ (by first | (simp; done) | (simp; omega) | omega) _)))⟩
end Go.Proofs.YtnbagilcbngdcaaDoor
namespace Go.Proofs.YtnbagilcbngdcaaDoor
open Go.RowKit
set_option linter.unusedSimpArgs false
set_option linter.unusedVariables false
abbrev lenV (k v : Int) : Value := .agg #[.int .i64 k, .int .i64 v]
def lenB (k v : Int) : Bool := if k = 0 then decide (v = 0) else if k = 1 then inB (-8191) 8191 v else if k = 2 then inB (-100) 100 v else false
end Go.Proofs.YtnbagilcbngdcaaDoor
namespace Go.Proofs.YtnbagilcbngdcaaDoor
open Go.RowKit
set_option linter.unusedSimpArgs false
set_option linter.unusedVariables false
/-- x, at most b, then at least a -/
def clampS (x a b : Int) : Int := max a (min x b)
end Go.Proofs.YtnbagilcbngdcaaDoor
namespace Go.Proofs.YtnbagilcbngdcaaDoor
open Go.RowKit
set_option linter.unusedSimpArgs false
set_option linter.unusedVariables false
set_option maxHeartbeats 1000000 in
theorem lengthMay_any (k v : Int) (w : World) :
    Calls Tryd.prog 15 #[lenV k v] w fun e w' => e = .returned (.bool (lenB k v)) ∧ Kept w w' := by
  by_cases h0 : k = 0
  · subst h0
    by_cases hv : v = 0
    · subst hv
      have hk : Kept w w := Kept.refl w
      go_enter Tryd.func15, Tryd.ntmps15
      go_wp2
      go_ret
      exact ⟨rfl, (by first | ((repeat (first | with_reducible exact hk | with_reducible refine Kept.alloc ?_ _ | with_reducible refine Kept.drew ?_ | with_reducible refine Kept.drewN ?_ _ | with_reducible refine Kept.set ?_ (by first | (simp; done) | (simp; omega) | omega) _)); done) | exact hk | exact (hk.alloc _) | exact ((hk.alloc _).alloc _) | exact (((hk.alloc _).alloc _).alloc _) | exact ((((hk.alloc _).alloc _).alloc _).alloc _) | exact (((((hk.alloc _).alloc _).alloc _).alloc _).alloc _) | exact ((((((hk.alloc _).alloc _).alloc _).alloc _).alloc _).alloc _) | (repeat (first | exact hk | refine Kept.alloc ?_ _ | refine Kept.drew ?_ | refine Kept.drewN ?_ _ | refine Kept.set ?_ (by first | (simp; done) | (simp; omega) | omega) _)))⟩
    · have hs : lenB 0 v = false := by unfold lenB; simp [hv]
      have hb : (v == 0) = false := by simpa using hv
      have Hs := Lib.hid hs
      clear hs hv
      have hk : Kept w w := Kept.refl w
      go_enter Tryd.func15, Tryd.ntmps15
      go_wp2
      go_ret
      exact ⟨ret_bool (by rw [Hs.out]), (by first | ((repeat (first | with_reducible exact hk | with_reducible refine Kept.alloc ?_ _ | with_reducible refine Kept.drew ?_ | with_reducible refine Kept.drewN ?_ _ | with_reducible refine Kept.set ?_ (by first | (simp; done) | (simp; omega) | omega) _)); done) | exact hk | exact (hk.alloc _) | exact ((hk.alloc _).alloc _) | exact (((hk.alloc _).alloc _).alloc _) | exact ((((hk.alloc _).alloc _).alloc _).alloc _) | exact (((((hk.alloc _).alloc _).alloc _).alloc _).alloc _) | exact ((((((hk.alloc _).alloc _).alloc _).alloc _).alloc _).alloc _) | (repeat (first | exact hk | refine Kept.alloc ?_ _ | refine Kept.drew ?_ | refine Kept.drewN ?_ _ | refine Kept.set ?_ (by first | (simp; done) | (simp; omega) | omega) _)))⟩
  · by_cases h1 : k = 1
    · subst h1
      have hs : lenB 1 v = inB (-8191) 8191 v := rfl
      have Hs := Lib.hid hs
      clear hs h0
      have hk : Kept w w := Kept.refl w
      go_enter Tryd.func15, Tryd.ntmps15
      go_wp2_with (first
        | (go_at_call 30; refine (each1_any _ _ _ _ _ (cell_at _ _ _ _ _ _ (by simp) rfl)).mono ?_; rintro e w1 ⟨rfl, rfl⟩)
        | fail)
      go_ret
      exact ⟨ret_bool (by rw [Hs.out]), (by first | ((repeat (first | with_reducible exact hk | with_reducible refine Kept.alloc ?_ _ | with_reducible refine Kept.drew ?_ | with_reducible refine Kept.drewN ?_ _ | with_reducible refine Kept.set ?_ (by first | (simp; done) | (simp; omega) | omega) _)); done) | exact hk | exact (hk.alloc _) | exact ((hk.alloc _).alloc _) | exact (((hk.alloc _).alloc _).alloc _) | exact ((((hk.alloc _).alloc _).alloc _).alloc _) | exact (((((hk.alloc _).alloc _).alloc _).alloc _).alloc _) | exact ((((((hk.alloc _).alloc _).alloc _).alloc _).alloc _).alloc _) | (repeat (first | exact hk | refine Kept.alloc ?_ _ | refine Kept.drew ?_ | refine Kept.drewN ?_ _ | refine Kept.set ?_ (by first | (simp; done) | (simp; omega) | omega) _)))⟩
    · by_cases h2 : k = 2
      · subst h2
        have hs : lenB 2 v = inB (-100) 100 v := rfl
        have Hs := Lib.hid hs
        clear hs h0 h1
        have hk : Kept w w := Kept.refl w
        go_enter Tryd.func15, Tryd.ntmps15
        go_wp2_with (first
          | (go_at_call 30; refine (each1_any _ _ _ _ _ (cell_at _ _ _ _ _ _ (by simp) rfl)).mono ?_; rintro e w1 ⟨rfl, rfl⟩)
          | fail)
        go_ret
        exact ⟨ret_bool (by rw [Hs.out]), (by first | ((repeat (first | with_reducible exact hk | with_reducible refine Kept.alloc ?_ _ | with_reducible refine Kept.drew ?_ | with_reducible refine Kept.drewN ?_ _ | with_reducible refine Kept.set ?_ (by first | (simp; done) | (simp; omega) | omega) _)); done) | exact hk | exact (hk.alloc _) | exact ((hk.alloc _).alloc _) | exact (((hk.alloc _).alloc _).alloc _) | exact ((((hk.alloc _).alloc _).alloc _).alloc _) | exact (((((hk.alloc _).alloc _).alloc _).alloc _).alloc _) | exact ((((((hk.alloc _).alloc _).alloc _).alloc _).alloc _).alloc _) | (repeat (first | exact hk | refine Kept.alloc ?_ _ | refine Kept.drew ?_ | refine Kept.drewN ?_ _ | refine Kept.set ?_ (by first | (simp; done) | (simp; omega) | omega) _)))⟩
      · have hs : lenB k v = false := by unfold lenB; simp [h0, h1, h2]
        have b0 : (k == 0) = false := by simpa using h0
        have b1 : (k == 1) = false := by simpa using h1
        have b2 : (k == 2) = false := by simpa using h2
        have Hs := Lib.hid hs
        clear hs h0 h1 h2
        have hk : Kept w w := Kept.refl w
        go_enter Tryd.func15, Tryd.ntmps15
        go_wp2
        go_ret
        exact ⟨ret_bool (by rw [Hs.out]), (by first | ((repeat (first | with_reducible exact hk | with_reducible refine Kept.alloc ?_ _ | with_reducible refine Kept.drew ?_ | with_reducible refine Kept.drewN ?_ _ | with_reducible refine Kept.set ?_ (by first | (simp; done) | (simp; omega) | omega) _)); done) | exact hk | exact (hk.alloc _) | exact ((hk.alloc _).alloc _) | exact (((hk.alloc _).alloc _).alloc _) | exact ((((hk.alloc _).alloc _).alloc _).alloc _) | exact (((((hk.alloc _).alloc _).alloc _).alloc _).alloc _) | exact ((((((hk.alloc _).alloc _).alloc _).alloc _).alloc _).alloc _) | (repeat (first | exact hk | refine Kept.alloc ?_ _ | refine Kept.drew ?_ | refine Kept.drewN ?_ _ | refine Kept.set ?_ (by first | (simp; done) | (simp; omega) | omega) _)))⟩
set_option maxHeartbeats 1000000 in
theorem refLengthMay_any (k v : Int) (w : World) :
    Calls Tryd.prog 46 #[lenV k v] w fun e w' => e = .returned (.bool (lenB k v)) ∧ Kept w w' := by
  by_cases h0 : k = 0
  · subst h0
    by_cases hv : v = 0
    · subst hv
      have hk : Kept w w := Kept.refl w
      go_enter Tryd.func46, Tryd.ntmps46
      go_wp2
      go_ret
      exact ⟨rfl, (by first | ((repeat (first | with_reducible exact hk | with_reducible refine Kept.alloc ?_ _ | with_reducible refine Kept.drew ?_ | with_reducible refine Kept.drewN ?_ _ | with_reducible refine Kept.set ?_ (by first | (simp; done) | (simp; omega) | omega) _)); done) | exact hk | exact (hk.alloc _) | exact ((hk.alloc _).alloc _) | exact (((hk.alloc _).alloc _).alloc _) | exact ((((hk.alloc _).alloc _).alloc _).alloc _) | exact (((((hk.alloc _).alloc _).alloc _).alloc _).alloc _) | exact ((((((hk.alloc _).alloc _).alloc _).alloc _).alloc _).alloc _) | (repeat (first | exact hk | refine Kept.alloc ?_ _ | refine Kept.drew ?_ | refine Kept.drewN ?_ _ | refine Kept.set ?_ (by first | (simp; done) | (simp; omega) | omega) _)))⟩
    · have hs : lenB 0 v = false := by unfold lenB; simp [hv]
      have hb : (v == 0) = false := by simpa using hv
      have Hs := Lib.hid hs
      clear hs hv
      have hk : Kept w w := Kept.refl w
      go_enter Tryd.func46, Tryd.ntmps46
      go_wp2
      go_ret
      exact ⟨ret_bool (by rw [Hs.out]; first | done | (simp; done) | (simp; omega)), (by first | ((repeat (first | with_reducible exact hk | with_reducible refine Kept.alloc ?_ _ | with_reducible refine Kept.drew ?_ | with_reducible refine Kept.drewN ?_ _ | with_reducible refine Kept.set ?_ (by first | (simp; done) | (simp; omega) | omega) _)); done) | exact hk | exact (hk.alloc _) | exact ((hk.alloc _).alloc _) | exact (((hk.alloc _).alloc _).alloc _) | exact ((((hk.alloc _).alloc _).alloc _).alloc _) | exact (((((hk.alloc _).alloc _).alloc _).alloc _).alloc _) | exact ((((((hk.alloc _).alloc _).alloc _).alloc _).alloc _).alloc _) | (repeat (first | exact hk | refine Kept.alloc ?_ _ | refine Kept.drew ?_ | refine Kept.drewN ?_ _ | refine Kept.set ?_ (by first | (simp; done) | (simp; omega) | omega) _)))⟩
  · by_cases h1 : k = 1
    · subst h1
      clear h0
      rcases (by omega : v < -8191 ∨ (-8191 ≤ v ∧ v ≤ 8191) ∨ (-8191 ≤ v ∧ 8191 < v)) with h | ⟨h, h5⟩ | ⟨h, h5⟩
      all_goals
        have hs : lenB 1 v = _ := show inB (-8191) 8191 v = _ from by first | exact inB_true.2 ⟨h, h5⟩ | exact inB_false.2 (by omega)
        have Hs := Lib.hid hs
        clear hs
        have hk : Kept w w := Kept.refl w
        go_enter Tryd.func46, Tryd.ntmps46
        go_wp2
        go_ret
        exact ⟨ret_bool (by rw [Hs.out]; first | done | (simp; done) | (simp; omega)), (by first | ((repeat (first | with_reducible exact hk | with_reducible refine Kept.alloc ?_ _ | with_reducible refine Kept.drew ?_ | with_reducible refine Kept.drewN ?_ _ | with_reducible refine Kept.set ?_ (by first | (simp; done) | (simp; omega) | omega) _)); done) | exact hk | exact (hk.alloc _) | exact ((hk.alloc _).alloc _) | exact (((hk.alloc _).alloc _).alloc _) | exact ((((hk.alloc _).alloc _).alloc _).alloc _) | exact (((((hk.alloc _).alloc _).alloc _).alloc _).alloc _) | exact ((((((hk.alloc _).alloc _).alloc _).alloc _).alloc _).alloc _) | (repeat (first | exact hk | refine Kept.alloc ?_ _ | refine Kept.drew ?_ | refine Kept.drewN ?_ _ | refine Kept.set ?_ (by first | (simp; done) | (simp; omega) | omega) _)))⟩
    · have b0 : (k == 0) = false := by simpa using h0
      have b1 : (k == 1) = false := by simpa using h1
      by_cases h2 : k = 2
      · subst h2
        clear h0 h1 b0 b1
        rcases (by omega : v < -100 ∨ (-100 ≤ v ∧ v ≤ 100) ∨ (-100 ≤ v ∧ 100 < v)) with h | ⟨h, h5⟩ | ⟨h, h5⟩
        all_goals
          have hs : lenB 2 v = _ := show inB (-100) 100 v = _ from by first | exact inB_true.2 ⟨h, h5⟩ | exact inB_false.2 (by omega)
          have Hs := Lib.hid hs
          clear hs
          have hk : Kept w w := Kept.refl w
          go_enter Tryd.func46, Tryd.ntmps46
          go_wp2
          go_ret
          exact ⟨ret_bool (by rw [Hs.out]; first | done | (simp; done) | (simp; omega)), (by first | ((repeat (first | with_reducible exact hk | with_reducible refine Kept.alloc ?_ _ | with_reducible refine Kept.drew ?_ | with_reducible refine Kept.drewN ?_ _ | with_reducible refine Kept.set ?_ (by first | (simp; done) | (simp; omega) | omega) _)); done) | exact hk | exact (hk.alloc _) | exact ((hk.alloc _).alloc _) | exact (((hk.alloc _).alloc _).alloc _) | exact ((((hk.alloc _).alloc _).alloc _).alloc _) | exact (((((hk.alloc _).alloc _).alloc _).alloc _).alloc _) | exact ((((((hk.alloc _).alloc _).alloc _).alloc _).alloc _).alloc _) | (repeat (first | exact hk | refine Kept.alloc ?_ _ | refine Kept.drew ?_ | refine Kept.drewN ?_ _ | refine Kept.set ?_ (by first | (simp; done) | (simp; omega) | omega) _)))⟩
      · have hs : lenB k v = false := by unfold lenB; simp [h0, h1, h2]
        have b2 : (k == 2) = false := by simpa using h2
        have Hs := Lib.hid hs
        clear hs h0 h1 h2
        have hk : Kept w w := Kept.refl w
        go_enter Tryd.func46, Tryd.ntmps46
        go_wp2
        go_ret
        exact ⟨ret_bool (by rw [Hs.out]; first | done | (simp; done) | (simp; omega)), (by first | ((repeat (first | with_reducible exact hk | with_reducible refine Kept.alloc ?_ _ | with_reducible refine Kept.drew ?_ | with_reducible refine Kept.drewN ?_ _ | with_reducible refine Kept.set ?_ (by first | (simp; done) | (simp; omega) | omega) _)); done) | exact hk | exact (hk.alloc _) | exact ((hk.alloc _).alloc _) | exact (((hk.alloc _).alloc _).alloc _) | exact ((((hk.alloc _).alloc _).alloc _).alloc _) | exact (((((hk.alloc _).alloc _).alloc _).alloc _).alloc _) | exact ((((((hk.alloc _).alloc _).alloc _).alloc _).alloc _).alloc _) | (repeat (first | exact hk | refine Kept.alloc ?_ _ | refine Kept.drew ?_ | refine Kept.drewN ?_ _ | refine Kept.set ?_ (by first | (simp; done) | (simp; omega) | omega) _)))⟩
end Go.Proofs.YtnbagilcbngdcaaDoor
namespace Go.Proofs.YtnbagilcbngdcaaDoor
open Go.RowKit
end Go.Proofs.YtnbagilcbngdcaaDoor
namespace Go.Proofs.YtnbagilcbngdcaaDoor
open Go.RowKit
set_option linter.unusedSimpArgs false
set_option linter.unusedVariables false
def usedS (k v o a : Int) : Int × Int := if lenB k v = true ∧ mayB o = true ∧ mayB a = true then (if k = 0 then (a, 0) else if k = 1 then (v, 0) else percentS v o) else (0, 800)
theorem lenB_kind {k v : Int} (h : lenB k v = true) : k = 0 ∨ k = 1 ∨ k = 2 := by
  unfold lenB at h
  by_cases h0 : k = 0
  · exact .inl h0
  · by_cases h1 : k = 1
    · exact .inr (.inl h1)
    · by_cases h2 : k = 2
      · exact .inr (.inr h2)
      · simp [h0, h1, h2] at h
set_option maxHeartbeats 2000000 in
theorem lengthUsed_any (k v o a : Int) (w : World) :
    Calls Tryd.prog 16 #[lenV k v, .int .i64 o, .int .i64 a] w fun e w' => e = .returned (.tuple #[.int .i64 (usedS k v o a).1, .int .i64 (usedS k v o a).2]) ∧ Kept w w' := by
  cases hl : lenB k v
  · have hs : usedS k v o a = (0, 800) := if_neg (by simp [hl])
    have Hs := Lib.hid hs
    clear hs
    have hk : Kept w w := Kept.refl w
    go_enter Tryd.func16, Tryd.ntmps16
    go_wp2_with fail
    refine with_boxes1 ?_
    intro X hX m
    have hsz := hk.size
    replace hk := hk.trans hX
    clear hX
    replace m_l := m.lt
    replace m_0 := m.at 0 _ rfl
    replace m_1 := m.at 1 _ rfl
    refine (lengthMay_any _ _ _).mono ?_
    rintro e w1 ⟨rfl, hn⟩
    replace hk := hk.trans hn
    replace m := m.kept hn
    clear hn
    replace m_l := m.lt
    replace m_0 := m.at 0 _ rfl
    replace m_1 := m.at 1 _ rfl
    go_wp2
    go_ret2
    exact ⟨by rw [Hs.out]; rfl, hk⟩
  · cases ho : mayB o
    · have hs : usedS k v o a = (0, 800) := if_neg (by simp [ho])
      have Hs := Lib.hid hs
      clear hs
      have hk : Kept w w := Kept.refl w
      go_enter Tryd.func16, Tryd.ntmps16
      go_wp2_with fail
      refine with_boxes1 ?_
      intro X hX m
      have hsz := hk.size
      replace hk := hk.trans hX
      clear hX
      replace m_l := m.lt
      replace m_0 := m.at 0 _ rfl
      replace m_1 := m.at 1 _ rfl
      refine (lengthMay_any _ _ _).mono ?_
      rintro e w1 ⟨rfl, hn⟩
      replace hk := hk.trans hn
      replace m := m.kept hn
      clear hn
      replace m_l := m.lt
      replace m_0 := m.at 0 _ rfl
      replace m_1 := m.at 1 _ rfl
      go_wp2_with fail
      refine (unitMay_any _ _).mono ?_
      rintro e w1 ⟨rfl, hn⟩
      replace hk := hk.trans hn
      replace m := m.kept hn
      clear hn
      replace m_l := m.lt
      replace m_0 := m.at 0 _ rfl
      replace m_1 := m.at 1 _ rfl
      go_wp2
      go_ret2
      exact ⟨by rw [Hs.out]; rfl, hk⟩
    · cases ha : mayB a
      · have hs : usedS k v o a = (0, 800) := if_neg (by simp [ha])
        have Hs := Lib.hid hs
        clear hs
        have hk : Kept w w := Kept.refl w
        go_enter Tryd.func16, Tryd.ntmps16
        go_wp2_with fail
        refine with_boxes1 ?_
        intro X hX m
        have hsz := hk.size
        replace hk := hk.trans hX
        clear hX
        replace m_l := m.lt
        replace m_0 := m.at 0 _ rfl
        replace m_1 := m.at 1 _ rfl
        refine (lengthMay_any _ _ _).mono ?_
        rintro e w1 ⟨rfl, hn⟩
        replace hk := hk.trans hn
        replace m := m.kept hn
        clear hn
        replace m_l := m.lt
        replace m_0 := m.at 0 _ rfl
        replace m_1 := m.at 1 _ rfl
        go_wp2_with fail
        refine (unitMay_any _ _).mono ?_
        rintro e w1 ⟨rfl, hn⟩
        replace hk := hk.trans hn
        replace m := m.kept hn
        clear hn
        replace m_l := m.lt
        replace m_0 := m.at 0 _ rfl
        replace m_1 := m.at 1 _ rfl
        go_wp2_with fail
        refine (unitMay_any _ _).mono ?_
        rintro e w1 ⟨rfl, hn⟩
        replace hk := hk.trans hn
        replace m := m.kept hn
        clear hn
        replace m_l := m.lt
        replace m_0 := m.at 0 _ rfl
        replace m_1 := m.at 1 _ rfl
        go_wp2
        go_ret2
        exact ⟨by rw [Hs.out]; rfl, hk⟩
      · have hs := lenB_kind hl
        rcases hs with rfl | rfl | rfl
        · have hs : usedS 0 v o a = (a, 0) := if_pos ⟨hl, ho, ha⟩
          have Hs := Lib.hid hs
          clear hs
          have hk : Kept w w := Kept.refl w
          go_enter Tryd.func16, Tryd.ntmps16
          go_wp2_with fail
          refine with_boxes1 ?_
          intro X hX m
          have hsz := hk.size
          replace hk := hk.trans hX
          clear hX
          replace m_l := m.lt
          replace m_0 := m.at 0 _ rfl
          replace m_1 := m.at 1 _ rfl
          refine (lengthMay_any _ _ _).mono ?_
          rintro e w1 ⟨rfl, hn⟩
          replace hk := hk.trans hn
          replace m := m.kept hn
          clear hn
          replace m_l := m.lt
          replace m_0 := m.at 0 _ rfl
          replace m_1 := m.at 1 _ rfl
          go_wp2_with fail
          refine (unitMay_any _ _).mono ?_
          rintro e w1 ⟨rfl, hn⟩
          replace hk := hk.trans hn
          replace m := m.kept hn
          clear hn
          replace m_l := m.lt
          replace m_0 := m.at 0 _ rfl
          replace m_1 := m.at 1 _ rfl
          go_wp2_with fail
          refine (unitMay_any _ _).mono ?_
          rintro e w1 ⟨rfl, hn⟩
          replace hk := hk.trans hn
          replace m := m.kept hn
          clear hn
          replace m_l := m.lt
          replace m_0 := m.at 0 _ rfl
          replace m_1 := m.at 1 _ rfl
          go_wp2
          go_ret2
          exact ⟨by rw [Hs.out]; rfl, hk⟩
        · have hs : usedS 1 v o a = (v, 0) := if_pos ⟨hl, ho, ha⟩
          have Hs := Lib.hid hs
          clear hs
          have hk : Kept w w := Kept.refl w
          go_enter Tryd.func16, Tryd.ntmps16
          go_wp2_with fail
          refine with_boxes1 ?_
          intro X hX m
          have hsz := hk.size
          replace hk := hk.trans hX
          clear hX
          replace m_l := m.lt
          replace m_0 := m.at 0 _ rfl
          replace m_1 := m.at 1 _ rfl
          refine (lengthMay_any _ _ _).mono ?_
          rintro e w1 ⟨rfl, hn⟩
          replace hk := hk.trans hn
          replace m := m.kept hn
          clear hn
          replace m_l := m.lt
          replace m_0 := m.at 0 _ rfl
          replace m_1 := m.at 1 _ rfl
          go_wp2_with fail
          refine (unitMay_any _ _).mono ?_
          rintro e w1 ⟨rfl, hn⟩
          replace hk := hk.trans hn
          replace m := m.kept hn
          clear hn
          replace m_l := m.lt
          replace m_0 := m.at 0 _ rfl
          replace m_1 := m.at 1 _ rfl
          go_wp2_with fail
          refine (unitMay_any _ _).mono ?_
          rintro e w1 ⟨rfl, hn⟩
          replace hk := hk.trans hn
          replace m := m.kept hn
          clear hn
          replace m_l := m.lt
          replace m_0 := m.at 0 _ rfl
          replace m_1 := m.at 1 _ rfl
          go_wp2
          go_ret2
          exact ⟨by rw [Hs.out]; rfl, hk⟩
        · have hs : usedS 2 v o a = percentS v o := if_pos ⟨hl, ho, ha⟩
          have Hs := Lib.hid hs
          clear hs
          have hk : Kept w w := Kept.refl w
          go_enter Tryd.func16, Tryd.ntmps16
          go_wp2_with fail
          refine with_boxes1 ?_
          intro X hX m
          have hsz := hk.size
          replace hk := hk.trans hX
          clear hX
          replace m_l := m.lt
          replace m_0 := m.at 0 _ rfl
          replace m_1 := m.at 1 _ rfl
          refine (lengthMay_any _ _ _).mono ?_
          rintro e w1 ⟨rfl, hn⟩
          replace hk := hk.trans hn
          replace m := m.kept hn
          clear hn
          replace m_l := m.lt
          replace m_0 := m.at 0 _ rfl
          replace m_1 := m.at 1 _ rfl
          go_wp2_with fail
          refine (unitMay_any _ _).mono ?_
          rintro e w1 ⟨rfl, hn⟩
          replace hk := hk.trans hn
          replace m := m.kept hn
          clear hn
          replace m_l := m.lt
          replace m_0 := m.at 0 _ rfl
          replace m_1 := m.at 1 _ rfl
          go_wp2_with fail
          refine (unitMay_any _ _).mono ?_
          rintro e w1 ⟨rfl, hn⟩
          replace hk := hk.trans hn
          replace m := m.kept hn
          clear hn
          replace m_l := m.lt
          replace m_0 := m.at 0 _ rfl
          replace m_1 := m.at 1 _ rfl
          go_wp2_with fail
          refine (unitPercent_any _ _ _).mono ?_
          rintro e w1 ⟨rfl, hn⟩
          replace hk := hk.trans hn
          replace m := m.kept hn
          clear hn
          replace m_l := m.lt
          replace m_0 := m.at 0 _ rfl
          replace m_1 := m.at 1 _ rfl
          go_wp2
          go_ret2
          exact ⟨by rw [Hs.out]; rfl, hk⟩
end Go.Proofs.YtnbagilcbngdcaaDoor
namespace Go.Proofs.YtnbagilcbngdcaaDoor
open Go.RowKit
set_option linter.unusedSimpArgs false
set_option linter.unusedVariables false
theorem index0_any (x : Int) (o : Option Addr) (c : Nat) (w : World) :
    Calls Tryd.prog 65 #[.slice o 0 c, .int .i64 x] w fun e w' => e = .returned (.int .i64 (-1)) ∧ w = w' := by
  go_enter Tryd.func65, Tryd.ntmps65
  go_wp2
  refine wp_loop_rounds 1 ?_
  rw [rounds_succ]
  go_wp2
  go_ret
  exact ⟨rfl, rfl⟩
theorem index1_any (x a : Int) (g c : Nat) (w : World) (h : w.cell? ⟨g, 0, none⟩ = some (.int .i64 a)) :
    Calls Tryd.prog 65 #[.slice (some ⟨g, 0, none⟩) 1 c, .int .i64 x] w fun e w' => e = .returned (.int .i64 (if x = a then 0 else -1)) ∧ w = w' := by
  cases hx : (x == a)
  · have hs : (if x = a then (0 : Int) else -1) = -1 := if_neg (by simpa using hx)
    rw [hs]
    clear hs
    go_enter Tryd.func65, Tryd.ntmps65
    go_wp2
    refine wp_loop_rounds 2 ?_
    rw [rounds_succ]
    go_wp2
    rw [rounds_succ]
    go_wp2
    go_ret
    exact ⟨rfl, rfl⟩
  · obtain rfl : x = a := by simpa using hx
    rw [if_pos rfl]
    clear hx
    go_enter Tryd.func65, Tryd.ntmps65
    go_wp2
    refine wp_loop_rounds 1 ?_
    rw [rounds_succ]
    go_wp2
    go_ret
    exact ⟨rfl, rfl⟩
theorem index2_any (x a b : Int) (g c : Nat) (w : World) (h : w.cell? ⟨g, 0, none⟩ = some (.int .i64 a)) (h2 : w.cell? ⟨g, 1, none⟩ = some (.int .i64 b)) :
    Calls Tryd.prog 65 #[.slice (some ⟨g, 0, none⟩) 2 c, .int .i64 x] w fun e w' => e = .returned (.int .i64 (if x = a then 0 else if x = b then 1 else -1)) ∧ w = w' := by
  cases hx : (x == a)
  · cases hy : (x == b)
    · have hs : (if x = a then (0 : Int) else if x = b then 1 else -1) = -1 := by rw [if_neg (by simpa using hx), if_neg (by simpa using hy)]
      rw [hs]
      clear hs
      go_enter Tryd.func65, Tryd.ntmps65
      go_wp2
      refine wp_loop_rounds 3 ?_
      rw [rounds_succ]
      go_wp2
      rw [rounds_succ]
      go_wp2
      rw [rounds_succ]
      go_wp2
      go_ret
      exact ⟨rfl, rfl⟩
    · have hs : (if x = a then (0 : Int) else if x = b then 1 else -1) = 1 := by rw [if_neg (by simpa using hx), if_pos (by simpa using hy)]
      rw [hs]
      clear hs
      obtain rfl : x = b := by simpa using hy
      clear hy
      go_enter Tryd.func65, Tryd.ntmps65
      go_wp2
      refine wp_loop_rounds 2 ?_
      rw [rounds_succ]
      go_wp2
      rw [rounds_succ]
      go_wp2
      go_ret
      exact ⟨rfl, rfl⟩
  · obtain rfl : x = a := by simpa using hx
    rw [if_pos rfl]
    clear hx
    go_enter Tryd.func65, Tryd.ntmps65
    go_wp2
    refine wp_loop_rounds 2 ?_
    rw [rounds_succ]
    go_wp2
    go_ret
    exact ⟨rfl, rfl⟩
/-- a slice of at most two numbers, as it lies -/
inductive FewAt (w : World) : Value → List Int → Prop
  | none (o : Option Addr) (c : Nat) : FewAt w (.slice o 0 c) []
  | one (g c : Nat) (a : Int) (h : w.cell? ⟨g, 0, none⟩ = some (.int .i64 a)) : FewAt w (.slice (some ⟨g, 0, none⟩) 1 c) [a]
  | two (g c : Nat) (a b : Int) (h : w.cell? ⟨g, 0, none⟩ = some (.int .i64 a)) (h2 : w.cell? ⟨g, 1, none⟩ = some (.int .i64 b)) : FewAt w (.slice (some ⟨g, 0, none⟩) 2 c) [a, b]
theorem containsFew_any (x : Int) (v : Value) (l : List Int) (w : World) (h : FewAt w v l) :
    Calls Tryd.prog 44 #[v, .int .i64 x] w fun e w' => e = .returned (.bool (l.contains x)) ∧ w = w' := by
  cases h with
  | none o c =>
    go_enter Tryd.func44, Tryd.ntmps44
    go_wp2_with fail
    refine (index0_any _ _ _ _).mono ?_
    rintro e w1 ⟨rfl, rfl⟩
    go_wp2
    go_ret
    exact ⟨rfl, rfl⟩
  | one g c a h =>
    cases hx : (x == a)
    · have hs : (if x = a then (0 : Int) else -1) = -1 := if_neg (by simpa using hx)
      have hr : [a].contains x = false := by simp; simpa using hx
      rw [hr]
      go_enter Tryd.func44, Tryd.ntmps44
      go_wp2_with fail
      refine (index1_any _ _ _ _ _ h).mono ?_
      rintro e w1 ⟨rfl, rfl⟩
      clear hr
      simp only [hs]
      go_wp2
      go_ret
      exact ⟨rfl, rfl⟩
    · obtain rfl : x = a := by simpa using hx
      have hs : (if x = x then (0 : Int) else -1) = 0 := if_pos rfl
      have hr : [x].contains x = true := by simp
      rw [hr]
      go_enter Tryd.func44, Tryd.ntmps44
      go_wp2_with fail
      refine (index1_any _ _ _ _ _ h).mono ?_
      rintro e w1 ⟨rfl, rfl⟩
      clear hr
      simp only [hs]
      go_wp2
      go_ret
      exact ⟨rfl, rfl⟩
  | two g c a b h h2 =>
    cases hx : (x == a)
    · cases hy : (x == b)
      · have hs : (if x = a then (0 : Int) else if x = b then 1 else -1) = -1 := by rw [if_neg (by simpa using hx), if_neg (by simpa using hy)]
        have hr : [a, b].contains x = false := by simp; exact ⟨by simpa using hx, by simpa using hy⟩
        rw [hr]
        go_enter Tryd.func44, Tryd.ntmps44
        go_wp2_with fail
        refine (index2_any _ _ _ _ _ _ h h2).mono ?_
        rintro e w1 ⟨rfl, rfl⟩
        clear hr
        simp only [hs]
        go_wp2
        go_ret
        exact ⟨rfl, rfl⟩
      · have hs : (if x = a then (0 : Int) else if x = b then 1 else -1) = 1 := by rw [if_neg (by simpa using hx), if_pos (by simpa using hy)]
        have hr : [a, b].contains x = true := by simp; exact .inr (by simpa using hy)
        rw [hr]
        go_enter Tryd.func44, Tryd.ntmps44
        go_wp2_with fail
        refine (index2_any _ _ _ _ _ _ h h2).mono ?_
        rintro e w1 ⟨rfl, rfl⟩
        clear hr
        simp only [hs]
        go_wp2
        go_ret
        exact ⟨rfl, rfl⟩
    · have hs : (if x = a then (0 : Int) else if x = b then 1 else -1) = 0 := by rw [if_pos (by simpa using hx)]
      have hr : [a, b].contains x = true := by simp; exact .inl (by simpa using hx)
      rw [hr]
      go_enter Tryd.func44, Tryd.ntmps44
      go_wp2_with fail
      refine (index2_any _ _ _ _ _ _ h h2).mono ?_
      rintro e w1 ⟨rfl, rfl⟩
      clear hr
      simp only [hs]
      go_wp2
      go_ret
      exact ⟨rfl, rfl⟩
theorem FewAt.kept {w w' : World} {v : Value} {l : List Int} (h : FewAt w v l) (k : Kept w w') : FewAt w' v l := by
  cases h with
  | none o c => exact .none o c
  | one g c a h => exact .one g c a ((k.cell (World.block_lt_of_cell? w _ h)).trans h)
  | two g c a b h h2 => exact .two g c a b ((k.cell (World.block_lt_of_cell? w _ h)).trans h) ((k.cell (World.block_lt_of_cell? w _ h2)).trans h2)
/-- is a length odd for a least number, with kinds left out? -/
def oddB (least : Int) (out : List Int) (k v : Int) : Bool := !lenB k v || decide (v < least) || out.contains k
set_option maxHeartbeats 1000000 in
theorem oddLength_any (least : Int) (out : List Int) (k v : Int) (p q : Nat) (s : Value) (w : World) (hp : w.cell? ⟨p, 0, none⟩ = some (.int .i64 least)) (hq : w.cell? ⟨q, 0, none⟩ = some s) (hs : FewAt w s out) :
    Calls Tryd.prog 43 #[lenV k v, .pointer (some ⟨p, 0, none⟩), .pointer (some ⟨q, 0, none⟩)] w fun e w' => e = .returned (.bool (oddB least out k v)) ∧ Kept w w' := by
  have hpl : p < w.heap.size := World.block_lt_of_cell? w _ hp
  have hql : q < w.heap.size := World.block_lt_of_cell? w _ hq
  cases hl : lenB k v
  · have hr : oddB least out k v = true := by unfold oddB; rw [hl]; rfl
    have HR := Lib.hid hr
    clear hr
    have hk : Kept w w := Kept.refl w
    go_enter Tryd.func43, Tryd.ntmps43
    go_wp2_with fail
    refine with_boxes1 ?_
    intro X hX m
    have hsz := hk.size
    replace hk := hk.trans hX
    clear hX
    replace m_l := m.lt
    replace m_0 := m.at 0 _ rfl
    replace m_1 := m.at 1 _ rfl
    refine (lengthMay_any _ _ _).mono ?_
    rintro e w1 ⟨rfl, hn⟩
    replace hk := hk.trans hn
    replace m := m.kept hn
    clear hn
    replace m_l := m.lt
    replace m_0 := m.at 0 _ rfl
    replace m_1 := m.at 1 _ rfl
    go_wp2
    go_ret
    exact ⟨by rw [HR.out]; rfl, hk⟩
  · rcases Int.lt_or_le v least with h | h
    · have hr : oddB least out k v = true := by unfold oddB; rw [hl, decide_eq_true h]; rfl
      have HR := Lib.hid hr
      clear hr
      have hk : Kept w w := Kept.refl w
      go_enter Tryd.func43, Tryd.ntmps43
      go_wp2_with fail
      refine with_boxes1 ?_
      intro X hX m
      have hsz := hk.size
      replace hk := hk.trans hX
      clear hX
      replace m_l := m.lt
      replace m_0 := m.at 0 _ rfl
      replace m_1 := m.at 1 _ rfl
      refine (lengthMay_any _ _ _).mono ?_
      rintro e w1 ⟨rfl, hn⟩
      replace hk := hk.trans hn
      replace m := m.kept hn
      clear hn
      replace m_l := m.lt
      replace m_0 := m.at 0 _ rfl
      replace m_1 := m.at 1 _ rfl
      have c1 := (hk.cell hpl).trans hp
      go_wp2
      go_ret
      exact ⟨by rw [HR.out]; rfl, hk⟩
    · have hr : oddB least out k v = out.contains k := by unfold oddB; rw [hl, decide_eq_false (by omega)]; rfl
      have HR := Lib.hid hr
      clear hr
      have hk : Kept w w := Kept.refl w
      go_enter Tryd.func43, Tryd.ntmps43
      go_wp2_with fail
      refine with_boxes1 ?_
      intro X hX m
      have hsz := hk.size
      replace hk := hk.trans hX
      clear hX
      replace m_l := m.lt
      replace m_0 := m.at 0 _ rfl
      replace m_1 := m.at 1 _ rfl
      refine (lengthMay_any _ _ _).mono ?_
      rintro e w1 ⟨rfl, hn⟩
      replace hk := hk.trans hn
      replace m := m.kept hn
      clear hn
      replace m_l := m.lt
      replace m_0 := m.at 0 _ rfl
      replace m_1 := m.at 1 _ rfl
      have c1 := (hk.cell hpl).trans hp
      have c2 := (hk.cell hql).trans hq
      go_wp2_with fail
      refine (containsFew_any _ _ _ _ (hs.kept hk)).mono ?_
      rintro e w1 ⟨rfl, rfl⟩
      go_wp2
      go_ret
      exact ⟨ret_bool (by rw [HR.out, decide_eq_false (show ¬ v < least by omega)]; simp), hk⟩
end Go.Proofs.YtnbagilcbngdcaaDoor
namespace Go.Proofs.YtnbagilcbngdcaaDoor
open Go.RowKit
set_option linter.unusedSimpArgs false
set_option linter.unusedVariables false
theorem two_boxes (least : Int) (s : Value) (w : World) : ((w.alloc (.cells #[.int .i64 least] 3)).alloc (.cells #[s] 56)).cell? ⟨w.heap.size, 0, none⟩ = some (.int .i64 least) ∧ ((w.alloc (.cells #[.int .i64 least] 3)).alloc (.cells #[s] 56)).cell? ⟨w.heap.size + 1, 0, none⟩ = some s ∧ Kept w ((w.alloc (.cells #[.int .i64 least] 3)).alloc (.cells #[s] 56)) := by
  have a2 := (Own.new (w.alloc (.cells #[.int .i64 least] 3)) #[s] 56).at 0 _ rfl
  rw [show (w.alloc (.cells #[.int .i64 least] 3)).heap.size = w.heap.size + 1 by simp] at a2
  exact ⟨((Own.new w #[.int .i64 least] 3).kept ((Kept.refl _).alloc _)).at 0 _ rfl, a2, ((Kept.refl w).alloc _).alloc _⟩
theorem oddMake_any (least : Int) (s : Value) (out : List Int) (w : World) (hs : FewAt w s out) :
    Calls Tryd.prog 42 #[.int .i64 least, s] w fun e w' => ∃ p q, e = .returned (.func (.func 43) #[] #[.pointer (some ⟨p, 0, none⟩), .pointer (some ⟨q, 0, none⟩)]) ∧ w'.cell? ⟨p, 0, none⟩ = some (.int .i64 least) ∧ w'.cell? ⟨q, 0, none⟩ = some s ∧ FewAt w' s out ∧ Kept w w' := by
  cases hs
  all_goals
    have hk : Kept w w := Kept.refl w
    go_enter Tryd.func42, Tryd.ntmps42
    go_wp2
    go_ret
    have hb := fun s => two_boxes least s w
    refine ⟨_, _, rfl, (hb _).1, (hb _).2.1, ?_, (hb _).2.2⟩
    first
      | exact (FewAt.none _ _).kept (hb _).2.2
      | exact (FewAt.one _ _ _ ‹_›).kept (hb _).2.2
      | exact (FewAt.two _ _ _ _ ‹_› ‹_›).kept (hb _).2.2
end Go.Proofs.YtnbagilcbngdcaaDoor
namespace Go.Proofs.YtnbagilcbngdcaaDoor
open Go.RowKit
set_option linter.unusedSimpArgs false
set_option linter.unusedVariables false
/-- a variable of the call's own is read whole -/
theorem wpList_load_own {P : Program} {ops : Array Oper} {rest : List Oper} {op : Oper} {a : Act} {w : World} {Q : Exit → Act → World → Prop} (hgd : op.guard = none) (ty : TypeId) (x : Operand) (ho : op.op = .load ty x)
    (b : Nat) (hx : a.eval x = .pointer (some ⟨b, 0, none⟩)) {t : TypeId} {cs : Array Value} (h : Own w b t cs) (d : TypeDesc)
    (hu : P.underlying ty = some d) (hd : d.isRow = true) (hi : (P.info? ty).map (·.size) = some cs.size)
    (k : wpList P ops Q rest (a.put op.dst (.agg cs)) w) : wpList P ops Q (op :: rest) a w := by
  refine wpList_load_mid hgd ty x ho b 0 hx cs.toList d (fun j v hj => ?_) hu hd (by simpa using hi) (by simpa using k)
  rw [Nat.zero_add]; exact h.at j v hj
/-- the walk stands at a load, a store of this type: guards of the arms -/
theorem here_load {P : Program} {ops : Array Oper} {rest : List Oper} {op : Oper} {a : Act} {w : World} {Q : Exit → Act → World → Prop} (ty : TypeId) (x : Operand) (ho : op.op = .load ty x)
    (k : wpList P ops Q (op :: rest) a w) : wpList P ops Q (op :: rest) a w := k
theorem here_store {P : Program} {ops : Array Oper} {rest : List Oper} {op : Oper} {a : Act} {w : World} {Q : Exit → Act → World → Prop} (ty : TypeId) (x y : Operand) (ho : op.op = .store ty x y)
    (k : wpList P ops Q (op :: rest) a w) : wpList P ops Q (op :: rest) a w := k
theorem list_boxes1 {P : Program} {ops : Array Oper} {rest : List Oper} {Q : Exit → Act → World → Prop} {a : Act} {w : World} {c0 : Array Value} {t0 : TypeId}
    (h : ∀ X, Kept w X → Own X (w.heap.size) t0 c0 → wpList P ops Q rest a X) : wpList P ops Q rest a (w.alloc (.cells c0 t0)) := by
  obtain ⟨X, e, k, b0⟩ := boxes1 w c0 t0
  rw [← e]; exact h X k b0
theorem rounds_eq {P : Program} {c : Code} {Q : Exit → Act → World → Prop} {n : Nat} {a : Act} {w : World} (h : ∀ X, X = w → Code.rounds P c Q n a X) : Code.rounds P c Q n a w := h w rfl
/-- an array over which values are laid from o on -/
def laidOn (cs : Array Value) : Nat → List Value → Array Value
  | _, [] => cs
  | o, v :: vs => laidOn (cs.setIfInBounds o v) (o + 1) vs
theorem laidOn_list (vs : List Value) : ∀ (cs : Array Value) (o : Nat), o + vs.length ≤ cs.size → (laidOn cs o vs).toList = cs.toList.take o ++ vs ++ cs.toList.drop (o + vs.length) := by
  induction vs with
  | nil => intro cs o h; simp [laidOn]
  | cons v vs ih =>
    intro cs o h
    simp only [List.length_cons] at h
    unfold laidOn
    rw [ih _ _ (by simp; omega)]
    have ho : o < cs.toList.length := by simp; omega
    rw [Array.toList_setIfInBounds, List.take_set, List.take_succ_eq_append_getElem ho, List.drop_set_of_lt (by omega)]
    rw [List.set_append_right _ _ (by simp; omega)]
    simp [Nat.min_eq_left (Nat.le_of_lt (by simpa using ho)), Nat.add_assoc, Nat.add_comm 1]
theorem laidOn_all {cs ds : Array Value} (h : ds.size = cs.size) : laidOn cs 0 ds.toList = ds := by
  apply Array.toList_inj.1
  rw [laidOn_list _ _ _ (by simp; omega)]
  simp [h]
theorem Own.setCells {t : TypeId} {b : Nat} (vs : List Value) : ∀ {w : World} {cs : Array Value} (o : Nat), Own w b t cs → Own (w.setCells b o vs) b t (laidOn cs o vs) := by
  induction vs with
  | nil => intro w cs o h; exact h
  | cons v vs ih => intro w cs o h; exact ih (o + 1) (h.set o v)
theorem heap_setCells_ {b : Nat} (vs : List Value) : ∀ (w : World) (o i : Nat), i ≠ b → (w.setCells b o vs).heap[i]? = w.heap[i]? := by
  induction vs with
  | nil => intro w o i h; rfl
  | cons v vs ih => intro w o i h; exact (ih _ _ i h).trans (Below.heap_setCell w _ v i h)
theorem Kept.setCells {a : World} {b : Nat} (vs : List Value) (hb : a.heap.size ≤ b) : ∀ {w : World} (o : Nat), Kept a w → Kept a (w.setCells b o vs) := by
  induction vs with
  | nil => intro w o h; exact h
  | cons v vs ih => intro w o h; exact ih (o + 1) (h.set hb v)
/-- a struct is stored into a variable of the call's own, whole -/
theorem wpList_store_own {P : Program} {ops : Array Oper} {rest : List Oper} {op : Oper} {a : Act} {w : World} {Q : Exit → Act → World → Prop} (hgd : op.guard = none) (ty : TypeId) (x y : Operand) (ho : op.op = .store ty x y)
    (b : Nat) (ds : Array Value) (hx : a.eval x = .pointer (some ⟨b, 0, none⟩)) (hy : a.eval y = .agg ds) {t : TypeId} {cs : Array Value} (h : Own w b t cs)
    (hs : ds.size = cs.size) (hi : (P.info? ty).map (·.size) = some ds.size) (h1 : ds.toList.all (fun v => v.oneCell') = true)
    (k : ∀ X, Own X b t ds → (∀ i, i ≠ b → X.heap[i]? = w.heap[i]?) → (∀ A, Kept A w → A.heap.size ≤ b → Kept A X) → wpList P ops Q rest (a.put op.dst undef) X) : wpList P ops Q (op :: rest) a w := by
  refine wpList_store_mid hgd ty x y ho b 0 ds hx hy (fun j hj => ?_) hi (Array.all_eq_true_iff_forall_mem.2 fun v hv => List.all_eq_true.1 h1 v (by simpa using hv)) ?_
  · rw [Nat.zero_add]
    exact ⟨by rw [h.cell]; simp; omega, h.free j⟩
  · refine k _ ?_ (fun i hne => heap_setCells_ _ _ _ i hne) (fun A hA hb => Kept.setCells _ hb 0 hA)
    have := Own.setCells ds.toList 0 h
    rwa [laidOn_all hs] at this
/-- the result of a function that returns a struct -/
theorem results_own {P : Program} {fn : Func} {tmps : Array Value} {w : World} {b : Nat} {t : TypeId} {cs : Array Value} {i : Tmp} (T : TypeId) (d : TypeDesc) (hr : fn.results = #[.cell i T])
    (hx : tmps.getD i undef = .pointer (some ⟨b, 0, none⟩)) (h : Own w b t cs) (hu : P.underlying T = some d) (hd : d.isRow = true) (hi : (P.info? T).map (·.size) = some cs.size) :
    (results fn tmps).run P w = .ok (.agg cs) w := by
  have hl := run_loadVar_mid (P := P) w b 0 T cs.toList d (fun j v hj => by rw [Nat.zero_add]; exact h.at j v hj) hu hd (by simpa using hi)
  have hx' : tmps[i]?.getD undef = .pointer (some ⟨b, 0, none⟩) := by simpa using hx
  simp [results, hr, hx', asAddr, Sem.run_bind, Sem.run_pure, hl]
theorem results_own_tmp {P : Program} {fn : Func} {tmps : Array Value} {w : World} {b : Nat} {t : TypeId} {cs : Array Value} {i j : Tmp} (T : TypeId) (d : TypeDesc) (hr : fn.results = #[.cell i T, .tmp j])
    (hx : tmps.getD i undef = .pointer (some ⟨b, 0, none⟩)) (h : Own w b t cs) (hu : P.underlying T = some d) (hd : d.isRow = true) (hi : (P.info? T).map (·.size) = some cs.size) :
    (results fn tmps).run P w = .ok (.tuple #[.agg cs, tmps.getD j undef]) w := by
  have hl := run_loadVar_mid (P := P) w b 0 T cs.toList d (fun j v hj => by rw [Nat.zero_add]; exact h.at j v hj) hu hd (by simpa using hi)
  have hx' : tmps[i]?.getD undef = .pointer (some ⟨b, 0, none⟩) := by simpa using hx
  simp [results, hr, hx', asAddr, Sem.run_bind, Sem.run_pure, hl]
end Go.Proofs.YtnbagilcbngdcaaDoor
namespace Go.Proofs.YtnbagilcbngdcaaDoor
open Go.RowKit
set_option linter.unusedSimpArgs false
set_option linter.unusedVariables false
/-- a length -/
structure Len where
  k : Int
  v : Int
/-- a style -/
structure Sty where
  inl : Len
  blk : Len
  mn : Len
  mx : Len
  m0 : Len
  m1 : Len
  m2 : Len
  m3 : Len
  p0 : Len
  p1 : Len
  p2 : Len
  p3 : Len
  bas : Len
  grow : Int
  shrink : Int
  align : Int
  items : Int
  just : Int
  wrap : Bool
abbrev Len.V (x : Len) : Value := lenV x.k x.v
/-- its cells -/
def Sty.C (s : Sty) : Array Value := #[.int .i64 s.inl.k, .int .i64 s.inl.v, .int .i64 s.blk.k, .int .i64 s.blk.v, .int .i64 s.mn.k, .int .i64 s.mn.v, .int .i64 s.mx.k, .int .i64 s.mx.v, .int .i64 s.m0.k, .int .i64 s.m0.v, .int .i64 s.m1.k, .int .i64 s.m1.v, .int .i64 s.m2.k, .int .i64 s.m2.v, .int .i64 s.m3.k, .int .i64 s.m3.v, .int .i64 s.p0.k, .int .i64 s.p0.v, .int .i64 s.p1.k, .int .i64 s.p1.v, .int .i64 s.p2.k, .int .i64 s.p2.v, .int .i64 s.p3.k, .int .i64 s.p3.v, .int .i64 s.bas.k, .int .i64 s.bas.v, .int .i64 s.grow, .int .i64 s.shrink, .int .i64 s.align, .int .i64 s.items, .int .i64 s.just, .bool s.wrap]
abbrev Sty.V (s : Sty) : Value := .agg s.C
/-- a test of lengths that lies in memory -/
structure OddAt (w : World) (p q : Nat) (least : Int) (out : List Int) : Prop where
  lp : w.cell? ⟨p, 0, none⟩ = some (.int .i64 least)
  lq : ∃ s, w.cell? ⟨q, 0, none⟩ = some s ∧ FewAt w s out
theorem OddAt.kept {w w' : World} {p q : Nat} {least : Int} {out : List Int} (h : OddAt w p q least out) (k : Kept w w') : OddAt w' p q least out :=
  ⟨(k.cell (World.block_lt_of_cell? w _ h.lp)).trans h.lp, by obtain ⟨s, h1, h2⟩ := h.lq; exact ⟨s, (k.cell (World.block_lt_of_cell? w _ h1)).trans h1, h2.kept k⟩⟩
abbrev oddF (p q : Nat) : Value := .func (.func 43) #[] #[.pointer (some ⟨p, 0, none⟩), .pointer (some ⟨q, 0, none⟩)]
def oddL (least : Int) (out : List Int) (x : Len) : Bool := oddB least out x.k x.v
theorem odd_any (least : Int) (out : List Int) (x : Len) (p q : Nat) (w : World) (h : OddAt w p q least out) :
    Calls Tryd.prog 43 #[x.V, .pointer (some ⟨p, 0, none⟩), .pointer (some ⟨q, 0, none⟩)] w fun e w' => e = .returned (.bool (oddL least out x)) ∧ Kept w w' := by
  obtain ⟨s, h1, h2⟩ := h.lq
  exact oddLength_any least out x.k x.v p q s w h.lp h1 h2
/-- the maker's contract -/
theorem make_any (least : Int) (s : Value) (out : List Int) (w : World) (hs : FewAt w s out) :
    Calls Tryd.prog 42 #[.int .i64 least, s] w fun e w' => ∃ p q, e = .returned (oddF p q) ∧ OddAt w' p q least out ∧ Kept w w' :=
  (oddMake_any least s out w hs).mono fun e w' ⟨p, q, he, h1, h2, h3, h4⟩ => ⟨p, q, he, ⟨h1, _, h2, h3⟩, h4⟩

/-- four lengths that lie in a row -/
structure Four (w : World) (b off : Nat) (x0 x1 x2 x3 : Len) : Prop where
  c0 : w.cell? ⟨b, off + 0, none⟩ = some (.int .i64 x0.k)
  c1 : w.cell? ⟨b, off + 1, none⟩ = some (.int .i64 x0.v)
  c2 : w.cell? ⟨b, off + 2, none⟩ = some (.int .i64 x1.k)
  c3 : w.cell? ⟨b, off + 3, none⟩ = some (.int .i64 x1.v)
  c4 : w.cell? ⟨b, off + 4, none⟩ = some (.int .i64 x2.k)
  c5 : w.cell? ⟨b, off + 5, none⟩ = some (.int .i64 x2.v)
  c6 : w.cell? ⟨b, off + 6, none⟩ = some (.int .i64 x3.k)
  c7 : w.cell? ⟨b, off + 7, none⟩ = some (.int .i64 x3.v)
theorem Four.kept {w w' : World} {b off : Nat} {x0 x1 x2 x3 : Len} (h : Four w b off x0 x1 x2 x3) (k : Kept w w') : Four w' b off x0 x1 x2 x3 :=
  ⟨(k.cell (World.block_lt_of_cell? w _ h.c0)).trans h.c0, (k.cell (World.block_lt_of_cell? w _ h.c1)).trans h.c1, (k.cell (World.block_lt_of_cell? w _ h.c2)).trans h.c2, (k.cell (World.block_lt_of_cell? w _ h.c3)).trans h.c3, (k.cell (World.block_lt_of_cell? w _ h.c4)).trans h.c4, (k.cell (World.block_lt_of_cell? w _ h.c5)).trans h.c5, (k.cell (World.block_lt_of_cell? w _ h.c6)).trans h.c6, (k.cell (World.block_lt_of_cell? w _ h.c7)).trans h.c7⟩

def anyOdd (least : Int) (out : List Int) (x0 x1 x2 x3 : Len) : Bool := oddL least out x0 || oddL least out x1 || oddL least out x2 || oddL least out x3
set_option maxHeartbeats 1000000 in
theorem idx8_0 (least : Int) (out : List Int) (x0 x1 x2 x3 : Len) (b p q c : Nat) (w : World) (hf : Four w b 8 x0 x1 x2 x3) (ho : OddAt w p q least out) (h0 : oddL least out x0 = true) :
    Calls Tryd.prog 66 #[.slice (some ⟨b, 8, none⟩) 4 c, oddF p q] w fun e w' => e = .returned (.int .i64 (0)) ∧ Kept w w' := by
  have e0 := hf.c0
  have e1 := hf.c1
  have hb : b < w.heap.size := World.block_lt_of_cell? w _ hf.c0
  simp only [Nat.add_zero, Nat.reduceAdd] at e0 e1
  have hk : Kept w w := Kept.refl w
  go_enter Tryd.func66, Tryd.ntmps66
  go_wp2
  refine wp_loop_rounds 1 ?_
  rw [rounds_succ]
  go_wp2_with fail
  refine (odd_any least out x0 _ _ _ (ho.kept hk)).mono ?_
  rintro e w1 ⟨rfl, hn⟩
  replace hk := hk.trans hn
  clear hn
  go_wp2
  go_ret
  exact ⟨rfl, hk⟩
set_option maxHeartbeats 1000000 in
theorem idx8_1 (least : Int) (out : List Int) (x0 x1 x2 x3 : Len) (b p q c : Nat) (w : World) (hf : Four w b 8 x0 x1 x2 x3) (ho : OddAt w p q least out) (h0 : oddL least out x0 = false) (h1 : oddL least out x1 = true) :
    Calls Tryd.prog 66 #[.slice (some ⟨b, 8, none⟩) 4 c, oddF p q] w fun e w' => e = .returned (.int .i64 (1)) ∧ Kept w w' := by
  have e0 := hf.c0
  have e1 := hf.c1
  have e2 := hf.c2
  have e3 := hf.c3
  have hb : b < w.heap.size := World.block_lt_of_cell? w _ hf.c0
  simp only [Nat.add_zero, Nat.reduceAdd] at e0 e1 e2 e3
  have E2 := e2
  clear e2
  have E3 := e3
  clear e3
  have hk : Kept w w := Kept.refl w
  go_enter Tryd.func66, Tryd.ntmps66
  go_wp2
  refine wp_loop_rounds 2 ?_
  rw [rounds_succ]
  go_wp2_with fail
  refine (odd_any least out x0 _ _ _ (ho.kept hk)).mono ?_
  rintro e w1 ⟨rfl, hn⟩
  replace hk := hk.trans hn
  clear hn
  go_wp2
  rw [rounds_succ]
  have e2 := (hk.cell (p := ⟨b, 10, none⟩) hb).trans E2; have e3 := (hk.cell (p := ⟨b, 11, none⟩) hb).trans E3
  go_wp2_with fail
  refine (odd_any least out x1 _ _ _ (ho.kept hk)).mono ?_
  rintro e w1 ⟨rfl, hn⟩
  replace hk := hk.trans hn
  clear hn
  go_wp2
  go_ret
  exact ⟨rfl, hk⟩
set_option maxHeartbeats 1000000 in
theorem idx8_2 (least : Int) (out : List Int) (x0 x1 x2 x3 : Len) (b p q c : Nat) (w : World) (hf : Four w b 8 x0 x1 x2 x3) (ho : OddAt w p q least out) (h0 : oddL least out x0 = false) (h1 : oddL least out x1 = false) (h2 : oddL least out x2 = true) :
    Calls Tryd.prog 66 #[.slice (some ⟨b, 8, none⟩) 4 c, oddF p q] w fun e w' => e = .returned (.int .i64 (2)) ∧ Kept w w' := by
  have e0 := hf.c0
  have e1 := hf.c1
  have e2 := hf.c2
  have e3 := hf.c3
  have e4 := hf.c4
  have e5 := hf.c5
  have hb : b < w.heap.size := World.block_lt_of_cell? w _ hf.c0
  simp only [Nat.add_zero, Nat.reduceAdd] at e0 e1 e2 e3 e4 e5
  have E2 := e2
  clear e2
  have E3 := e3
  clear e3
  have E4 := e4
  clear e4
  have E5 := e5
  clear e5
  have hk : Kept w w := Kept.refl w
  go_enter Tryd.func66, Tryd.ntmps66
  go_wp2
  refine wp_loop_rounds 3 ?_
  rw [rounds_succ]
  go_wp2_with fail
  refine (odd_any least out x0 _ _ _ (ho.kept hk)).mono ?_
  rintro e w1 ⟨rfl, hn⟩
  replace hk := hk.trans hn
  clear hn
  go_wp2
  rw [rounds_succ]
  have e2 := (hk.cell (p := ⟨b, 10, none⟩) hb).trans E2; have e3 := (hk.cell (p := ⟨b, 11, none⟩) hb).trans E3
  go_wp2_with fail
  refine (odd_any least out x1 _ _ _ (ho.kept hk)).mono ?_
  rintro e w1 ⟨rfl, hn⟩
  replace hk := hk.trans hn
  clear hn
  go_wp2
  rw [rounds_succ]
  have e4 := (hk.cell (p := ⟨b, 12, none⟩) hb).trans E4; have e5 := (hk.cell (p := ⟨b, 13, none⟩) hb).trans E5
  go_wp2_with fail
  refine (odd_any least out x2 _ _ _ (ho.kept hk)).mono ?_
  rintro e w1 ⟨rfl, hn⟩
  replace hk := hk.trans hn
  clear hn
  go_wp2
  go_ret
  exact ⟨rfl, hk⟩
set_option maxHeartbeats 1000000 in
theorem idx8_3 (least : Int) (out : List Int) (x0 x1 x2 x3 : Len) (b p q c : Nat) (w : World) (hf : Four w b 8 x0 x1 x2 x3) (ho : OddAt w p q least out) (h0 : oddL least out x0 = false) (h1 : oddL least out x1 = false) (h2 : oddL least out x2 = false) (h3 : oddL least out x3 = true) :
    Calls Tryd.prog 66 #[.slice (some ⟨b, 8, none⟩) 4 c, oddF p q] w fun e w' => e = .returned (.int .i64 (3)) ∧ Kept w w' := by
  have e0 := hf.c0
  have e1 := hf.c1
  have e2 := hf.c2
  have e3 := hf.c3
  have e4 := hf.c4
  have e5 := hf.c5
  have e6 := hf.c6
  have e7 := hf.c7
  have hb : b < w.heap.size := World.block_lt_of_cell? w _ hf.c0
  simp only [Nat.add_zero, Nat.reduceAdd] at e0 e1 e2 e3 e4 e5 e6 e7
  have E2 := e2
  clear e2
  have E3 := e3
  clear e3
  have E4 := e4
  clear e4
  have E5 := e5
  clear e5
  have E6 := e6
  clear e6
  have E7 := e7
  clear e7
  have hk : Kept w w := Kept.refl w
  go_enter Tryd.func66, Tryd.ntmps66
  go_wp2
  refine wp_loop_rounds 4 ?_
  rw [rounds_succ]
  go_wp2_with fail
  refine (odd_any least out x0 _ _ _ (ho.kept hk)).mono ?_
  rintro e w1 ⟨rfl, hn⟩
  replace hk := hk.trans hn
  clear hn
  go_wp2
  rw [rounds_succ]
  have e2 := (hk.cell (p := ⟨b, 10, none⟩) hb).trans E2; have e3 := (hk.cell (p := ⟨b, 11, none⟩) hb).trans E3
  go_wp2_with fail
  refine (odd_any least out x1 _ _ _ (ho.kept hk)).mono ?_
  rintro e w1 ⟨rfl, hn⟩
  replace hk := hk.trans hn
  clear hn
  go_wp2
  rw [rounds_succ]
  have e4 := (hk.cell (p := ⟨b, 12, none⟩) hb).trans E4; have e5 := (hk.cell (p := ⟨b, 13, none⟩) hb).trans E5
  go_wp2_with fail
  refine (odd_any least out x2 _ _ _ (ho.kept hk)).mono ?_
  rintro e w1 ⟨rfl, hn⟩
  replace hk := hk.trans hn
  clear hn
  go_wp2
  rw [rounds_succ]
  have e6 := (hk.cell (p := ⟨b, 14, none⟩) hb).trans E6; have e7 := (hk.cell (p := ⟨b, 15, none⟩) hb).trans E7
  go_wp2_with fail
  refine (odd_any least out x3 _ _ _ (ho.kept hk)).mono ?_
  rintro e w1 ⟨rfl, hn⟩
  replace hk := hk.trans hn
  clear hn
  go_wp2
  go_ret
  exact ⟨rfl, hk⟩
set_option maxHeartbeats 1000000 in
theorem idx8_4 (least : Int) (out : List Int) (x0 x1 x2 x3 : Len) (b p q c : Nat) (w : World) (hf : Four w b 8 x0 x1 x2 x3) (ho : OddAt w p q least out) (h0 : oddL least out x0 = false) (h1 : oddL least out x1 = false) (h2 : oddL least out x2 = false) (h3 : oddL least out x3 = false) :
    Calls Tryd.prog 66 #[.slice (some ⟨b, 8, none⟩) 4 c, oddF p q] w fun e w' => e = .returned (.int .i64 (-1)) ∧ Kept w w' := by
  have e0 := hf.c0
  have e1 := hf.c1
  have e2 := hf.c2
  have e3 := hf.c3
  have e4 := hf.c4
  have e5 := hf.c5
  have e6 := hf.c6
  have e7 := hf.c7
  have hb : b < w.heap.size := World.block_lt_of_cell? w _ hf.c0
  simp only [Nat.add_zero, Nat.reduceAdd] at e0 e1 e2 e3 e4 e5 e6 e7
  have E2 := e2
  clear e2
  have E3 := e3
  clear e3
  have E4 := e4
  clear e4
  have E5 := e5
  clear e5
  have E6 := e6
  clear e6
  have E7 := e7
  clear e7
  have hk : Kept w w := Kept.refl w
  go_enter Tryd.func66, Tryd.ntmps66
  go_wp2
  refine wp_loop_rounds 5 ?_
  rw [rounds_succ]
  go_wp2_with fail
  refine (odd_any least out x0 _ _ _ (ho.kept hk)).mono ?_
  rintro e w1 ⟨rfl, hn⟩
  replace hk := hk.trans hn
  clear hn
  go_wp2
  rw [rounds_succ]
  have e2 := (hk.cell (p := ⟨b, 10, none⟩) hb).trans E2; have e3 := (hk.cell (p := ⟨b, 11, none⟩) hb).trans E3
  go_wp2_with fail
  refine (odd_any least out x1 _ _ _ (ho.kept hk)).mono ?_
  rintro e w1 ⟨rfl, hn⟩
  replace hk := hk.trans hn
  clear hn
  go_wp2
  rw [rounds_succ]
  have e4 := (hk.cell (p := ⟨b, 12, none⟩) hb).trans E4; have e5 := (hk.cell (p := ⟨b, 13, none⟩) hb).trans E5
  go_wp2_with fail
  refine (odd_any least out x2 _ _ _ (ho.kept hk)).mono ?_
  rintro e w1 ⟨rfl, hn⟩
  replace hk := hk.trans hn
  clear hn
  go_wp2
  rw [rounds_succ]
  have e6 := (hk.cell (p := ⟨b, 14, none⟩) hb).trans E6; have e7 := (hk.cell (p := ⟨b, 15, none⟩) hb).trans E7
  go_wp2_with fail
  refine (odd_any least out x3 _ _ _ (ho.kept hk)).mono ?_
  rintro e w1 ⟨rfl, hn⟩
  replace hk := hk.trans hn
  clear hn
  go_wp2
  rw [rounds_succ]
  go_wp2
  go_ret
  exact ⟨rfl, hk⟩
set_option maxHeartbeats 1000000 in
theorem idx16_0 (least : Int) (out : List Int) (x0 x1 x2 x3 : Len) (b p q c : Nat) (w : World) (hf : Four w b 16 x0 x1 x2 x3) (ho : OddAt w p q least out) (h0 : oddL least out x0 = true) :
    Calls Tryd.prog 66 #[.slice (some ⟨b, 16, none⟩) 4 c, oddF p q] w fun e w' => e = .returned (.int .i64 (0)) ∧ Kept w w' := by
  have e0 := hf.c0
  have e1 := hf.c1
  have hb : b < w.heap.size := World.block_lt_of_cell? w _ hf.c0
  simp only [Nat.add_zero, Nat.reduceAdd] at e0 e1
  have hk : Kept w w := Kept.refl w
  go_enter Tryd.func66, Tryd.ntmps66
  go_wp2
  refine wp_loop_rounds 1 ?_
  rw [rounds_succ]
  go_wp2_with fail
  refine (odd_any least out x0 _ _ _ (ho.kept hk)).mono ?_
  rintro e w1 ⟨rfl, hn⟩
  replace hk := hk.trans hn
  clear hn
  go_wp2
  go_ret
  exact ⟨rfl, hk⟩
set_option maxHeartbeats 1000000 in
theorem idx16_1 (least : Int) (out : List Int) (x0 x1 x2 x3 : Len) (b p q c : Nat) (w : World) (hf : Four w b 16 x0 x1 x2 x3) (ho : OddAt w p q least out) (h0 : oddL least out x0 = false) (h1 : oddL least out x1 = true) :
    Calls Tryd.prog 66 #[.slice (some ⟨b, 16, none⟩) 4 c, oddF p q] w fun e w' => e = .returned (.int .i64 (1)) ∧ Kept w w' := by
  have e0 := hf.c0
  have e1 := hf.c1
  have e2 := hf.c2
  have e3 := hf.c3
  have hb : b < w.heap.size := World.block_lt_of_cell? w _ hf.c0
  simp only [Nat.add_zero, Nat.reduceAdd] at e0 e1 e2 e3
  have E2 := e2
  clear e2
  have E3 := e3
  clear e3
  have hk : Kept w w := Kept.refl w
  go_enter Tryd.func66, Tryd.ntmps66
  go_wp2
  refine wp_loop_rounds 2 ?_
  rw [rounds_succ]
  go_wp2_with fail
  refine (odd_any least out x0 _ _ _ (ho.kept hk)).mono ?_
  rintro e w1 ⟨rfl, hn⟩
  replace hk := hk.trans hn
  clear hn
  go_wp2
  rw [rounds_succ]
  have e2 := (hk.cell (p := ⟨b, 18, none⟩) hb).trans E2; have e3 := (hk.cell (p := ⟨b, 19, none⟩) hb).trans E3
  go_wp2_with fail
  refine (odd_any least out x1 _ _ _ (ho.kept hk)).mono ?_
  rintro e w1 ⟨rfl, hn⟩
  replace hk := hk.trans hn
  clear hn
  go_wp2
  go_ret
  exact ⟨rfl, hk⟩
set_option maxHeartbeats 1000000 in
theorem idx16_2 (least : Int) (out : List Int) (x0 x1 x2 x3 : Len) (b p q c : Nat) (w : World) (hf : Four w b 16 x0 x1 x2 x3) (ho : OddAt w p q least out) (h0 : oddL least out x0 = false) (h1 : oddL least out x1 = false) (h2 : oddL least out x2 = true) :
    Calls Tryd.prog 66 #[.slice (some ⟨b, 16, none⟩) 4 c, oddF p q] w fun e w' => e = .returned (.int .i64 (2)) ∧ Kept w w' := by
  have e0 := hf.c0
  have e1 := hf.c1
  have e2 := hf.c2
  have e3 := hf.c3
  have e4 := hf.c4
  have e5 := hf.c5
  have hb : b < w.heap.size := World.block_lt_of_cell? w _ hf.c0
  simp only [Nat.add_zero, Nat.reduceAdd] at e0 e1 e2 e3 e4 e5
  have E2 := e2
  clear e2
  have E3 := e3
  clear e3
  have E4 := e4
  clear e4
  have E5 := e5
  clear e5
  have hk : Kept w w := Kept.refl w
  go_enter Tryd.func66, Tryd.ntmps66
  go_wp2
  refine wp_loop_rounds 3 ?_
  rw [rounds_succ]
  go_wp2_with fail
  refine (odd_any least out x0 _ _ _ (ho.kept hk)).mono ?_
  rintro e w1 ⟨rfl, hn⟩
  replace hk := hk.trans hn
  clear hn
  go_wp2
  rw [rounds_succ]
  have e2 := (hk.cell (p := ⟨b, 18, none⟩) hb).trans E2; have e3 := (hk.cell (p := ⟨b, 19, none⟩) hb).trans E3
  go_wp2_with fail
  refine (odd_any least out x1 _ _ _ (ho.kept hk)).mono ?_
  rintro e w1 ⟨rfl, hn⟩
  replace hk := hk.trans hn
  clear hn
  go_wp2
  rw [rounds_succ]
  have e4 := (hk.cell (p := ⟨b, 20, none⟩) hb).trans E4; have e5 := (hk.cell (p := ⟨b, 21, none⟩) hb).trans E5
  go_wp2_with fail
  refine (odd_any least out x2 _ _ _ (ho.kept hk)).mono ?_
  rintro e w1 ⟨rfl, hn⟩
  replace hk := hk.trans hn
  clear hn
  go_wp2
  go_ret
  exact ⟨rfl, hk⟩
set_option maxHeartbeats 1000000 in
theorem idx16_3 (least : Int) (out : List Int) (x0 x1 x2 x3 : Len) (b p q c : Nat) (w : World) (hf : Four w b 16 x0 x1 x2 x3) (ho : OddAt w p q least out) (h0 : oddL least out x0 = false) (h1 : oddL least out x1 = false) (h2 : oddL least out x2 = false) (h3 : oddL least out x3 = true) :
    Calls Tryd.prog 66 #[.slice (some ⟨b, 16, none⟩) 4 c, oddF p q] w fun e w' => e = .returned (.int .i64 (3)) ∧ Kept w w' := by
  have e0 := hf.c0
  have e1 := hf.c1
  have e2 := hf.c2
  have e3 := hf.c3
  have e4 := hf.c4
  have e5 := hf.c5
  have e6 := hf.c6
  have e7 := hf.c7
  have hb : b < w.heap.size := World.block_lt_of_cell? w _ hf.c0
  simp only [Nat.add_zero, Nat.reduceAdd] at e0 e1 e2 e3 e4 e5 e6 e7
  have E2 := e2
  clear e2
  have E3 := e3
  clear e3
  have E4 := e4
  clear e4
  have E5 := e5
  clear e5
  have E6 := e6
  clear e6
  have E7 := e7
  clear e7
  have hk : Kept w w := Kept.refl w
  go_enter Tryd.func66, Tryd.ntmps66
  go_wp2
  refine wp_loop_rounds 4 ?_
  rw [rounds_succ]
  go_wp2_with fail
  refine (odd_any least out x0 _ _ _ (ho.kept hk)).mono ?_
  rintro e w1 ⟨rfl, hn⟩
  replace hk := hk.trans hn
  clear hn
  go_wp2
  rw [rounds_succ]
  have e2 := (hk.cell (p := ⟨b, 18, none⟩) hb).trans E2; have e3 := (hk.cell (p := ⟨b, 19, none⟩) hb).trans E3
  go_wp2_with fail
  refine (odd_any least out x1 _ _ _ (ho.kept hk)).mono ?_
  rintro e w1 ⟨rfl, hn⟩
  replace hk := hk.trans hn
  clear hn
  go_wp2
  rw [rounds_succ]
  have e4 := (hk.cell (p := ⟨b, 20, none⟩) hb).trans E4; have e5 := (hk.cell (p := ⟨b, 21, none⟩) hb).trans E5
  go_wp2_with fail
  refine (odd_any least out x2 _ _ _ (ho.kept hk)).mono ?_
  rintro e w1 ⟨rfl, hn⟩
  replace hk := hk.trans hn
  clear hn
  go_wp2
  rw [rounds_succ]
  have e6 := (hk.cell (p := ⟨b, 22, none⟩) hb).trans E6; have e7 := (hk.cell (p := ⟨b, 23, none⟩) hb).trans E7
  go_wp2_with fail
  refine (odd_any least out x3 _ _ _ (ho.kept hk)).mono ?_
  rintro e w1 ⟨rfl, hn⟩
  replace hk := hk.trans hn
  clear hn
  go_wp2
  go_ret
  exact ⟨rfl, hk⟩
set_option maxHeartbeats 1000000 in
theorem idx16_4 (least : Int) (out : List Int) (x0 x1 x2 x3 : Len) (b p q c : Nat) (w : World) (hf : Four w b 16 x0 x1 x2 x3) (ho : OddAt w p q least out) (h0 : oddL least out x0 = false) (h1 : oddL least out x1 = false) (h2 : oddL least out x2 = false) (h3 : oddL least out x3 = false) :
    Calls Tryd.prog 66 #[.slice (some ⟨b, 16, none⟩) 4 c, oddF p q] w fun e w' => e = .returned (.int .i64 (-1)) ∧ Kept w w' := by
  have e0 := hf.c0
  have e1 := hf.c1
  have e2 := hf.c2
  have e3 := hf.c3
  have e4 := hf.c4
  have e5 := hf.c5
  have e6 := hf.c6
  have e7 := hf.c7
  have hb : b < w.heap.size := World.block_lt_of_cell? w _ hf.c0
  simp only [Nat.add_zero, Nat.reduceAdd] at e0 e1 e2 e3 e4 e5 e6 e7
  have E2 := e2
  clear e2
  have E3 := e3
  clear e3
  have E4 := e4
  clear e4
  have E5 := e5
  clear e5
  have E6 := e6
  clear e6
  have E7 := e7
  clear e7
  have hk : Kept w w := Kept.refl w
  go_enter Tryd.func66, Tryd.ntmps66
  go_wp2
  refine wp_loop_rounds 5 ?_
  rw [rounds_succ]
  go_wp2_with fail
  refine (odd_any least out x0 _ _ _ (ho.kept hk)).mono ?_
  rintro e w1 ⟨rfl, hn⟩
  replace hk := hk.trans hn
  clear hn
  go_wp2
  rw [rounds_succ]
  have e2 := (hk.cell (p := ⟨b, 18, none⟩) hb).trans E2; have e3 := (hk.cell (p := ⟨b, 19, none⟩) hb).trans E3
  go_wp2_with fail
  refine (odd_any least out x1 _ _ _ (ho.kept hk)).mono ?_
  rintro e w1 ⟨rfl, hn⟩
  replace hk := hk.trans hn
  clear hn
  go_wp2
  rw [rounds_succ]
  have e4 := (hk.cell (p := ⟨b, 20, none⟩) hb).trans E4; have e5 := (hk.cell (p := ⟨b, 21, none⟩) hb).trans E5
  go_wp2_with fail
  refine (odd_any least out x2 _ _ _ (ho.kept hk)).mono ?_
  rintro e w1 ⟨rfl, hn⟩
  replace hk := hk.trans hn
  clear hn
  go_wp2
  rw [rounds_succ]
  have e6 := (hk.cell (p := ⟨b, 22, none⟩) hb).trans E6; have e7 := (hk.cell (p := ⟨b, 23, none⟩) hb).trans E7
  go_wp2_with fail
  refine (odd_any least out x3 _ _ _ (ho.kept hk)).mono ?_
  rintro e w1 ⟨rfl, hn⟩
  replace hk := hk.trans hn
  clear hn
  go_wp2
  rw [rounds_succ]
  go_wp2
  go_ret
  exact ⟨rfl, hk⟩
theorem contains8_any (least : Int) (out : List Int) (x0 x1 x2 x3 : Len) (b p q c : Nat) (w : World) (hf : Four w b 8 x0 x1 x2 x3) (ho : OddAt w p q least out) :
    Calls Tryd.prog 45 #[.slice (some ⟨b, 8, none⟩) 4 c, oddF p q] w fun e w' => e = .returned (.bool (anyOdd least out x0 x1 x2 x3)) ∧ Kept w w' := by
  cases h0 : oddL least out x0
  · skip
    cases h1 : oddL least out x1
    · skip
      cases h2 : oddL least out x2
      · skip
        cases h3 : oddL least out x3
        · skip
          have hs : anyOdd least out x0 x1 x2 x3 = false := by unfold anyOdd; simp [h0, h1, h2, h3]
          have Hs := Lib.hid hs
          clear hs
          have hk : Kept w w := Kept.refl w
          go_enter Tryd.func45, Tryd.ntmps45
          go_wp2_with fail
          refine (idx8_4 least out x0 x1 x2 x3 _ _ _ _ _ hf ho h0 h1 h2 h3).mono ?_
          rintro e w1 ⟨rfl, hn⟩
          replace hk := hk.trans hn
          clear hn
          go_wp2
          go_ret
          exact ⟨ret_bool (by rw [Hs.out]), hk⟩
        · skip
          have hs : anyOdd least out x0 x1 x2 x3 = true := by unfold anyOdd; simp [h0, h1, h2, h3]
          have Hs := Lib.hid hs
          clear hs
          have hk : Kept w w := Kept.refl w
          go_enter Tryd.func45, Tryd.ntmps45
          go_wp2_with fail
          refine (idx8_3 least out x0 x1 x2 x3 _ _ _ _ _ hf ho h0 h1 h2 h3).mono ?_
          rintro e w1 ⟨rfl, hn⟩
          replace hk := hk.trans hn
          clear hn
          go_wp2
          go_ret
          exact ⟨ret_bool (by rw [Hs.out]), hk⟩
      · skip
        have hs : anyOdd least out x0 x1 x2 x3 = true := by unfold anyOdd; simp [h0, h1, h2]
        have Hs := Lib.hid hs
        clear hs
        have hk : Kept w w := Kept.refl w
        go_enter Tryd.func45, Tryd.ntmps45
        go_wp2_with fail
        refine (idx8_2 least out x0 x1 x2 x3 _ _ _ _ _ hf ho h0 h1 h2).mono ?_
        rintro e w1 ⟨rfl, hn⟩
        replace hk := hk.trans hn
        clear hn
        go_wp2
        go_ret
        exact ⟨ret_bool (by rw [Hs.out]), hk⟩
    · skip
      have hs : anyOdd least out x0 x1 x2 x3 = true := by unfold anyOdd; simp [h0, h1]
      have Hs := Lib.hid hs
      clear hs
      have hk : Kept w w := Kept.refl w
      go_enter Tryd.func45, Tryd.ntmps45
      go_wp2_with fail
      refine (idx8_1 least out x0 x1 x2 x3 _ _ _ _ _ hf ho h0 h1).mono ?_
      rintro e w1 ⟨rfl, hn⟩
      replace hk := hk.trans hn
      clear hn
      go_wp2
      go_ret
      exact ⟨ret_bool (by rw [Hs.out]), hk⟩
  · skip
    have hs : anyOdd least out x0 x1 x2 x3 = true := by unfold anyOdd; simp [h0]
    have Hs := Lib.hid hs
    clear hs
    have hk : Kept w w := Kept.refl w
    go_enter Tryd.func45, Tryd.ntmps45
    go_wp2_with fail
    refine (idx8_0 least out x0 x1 x2 x3 _ _ _ _ _ hf ho h0).mono ?_
    rintro e w1 ⟨rfl, hn⟩
    replace hk := hk.trans hn
    clear hn
    go_wp2
    go_ret
    exact ⟨ret_bool (by rw [Hs.out]), hk⟩

theorem contains16_any (least : Int) (out : List Int) (x0 x1 x2 x3 : Len) (b p q c : Nat) (w : World) (hf : Four w b 16 x0 x1 x2 x3) (ho : OddAt w p q least out) :
    Calls Tryd.prog 45 #[.slice (some ⟨b, 16, none⟩) 4 c, oddF p q] w fun e w' => e = .returned (.bool (anyOdd least out x0 x1 x2 x3)) ∧ Kept w w' := by
  cases h0 : oddL least out x0
  · skip
    cases h1 : oddL least out x1
    · skip
      cases h2 : oddL least out x2
      · skip
        cases h3 : oddL least out x3
        · skip
          have hs : anyOdd least out x0 x1 x2 x3 = false := by unfold anyOdd; simp [h0, h1, h2, h3]
          have Hs := Lib.hid hs
          clear hs
          have hk : Kept w w := Kept.refl w
          go_enter Tryd.func45, Tryd.ntmps45
          go_wp2_with fail
          refine (idx16_4 least out x0 x1 x2 x3 _ _ _ _ _ hf ho h0 h1 h2 h3).mono ?_
          rintro e w1 ⟨rfl, hn⟩
          replace hk := hk.trans hn
          clear hn
          go_wp2
          go_ret
          exact ⟨ret_bool (by rw [Hs.out]), hk⟩
        · skip
          have hs : anyOdd least out x0 x1 x2 x3 = true := by unfold anyOdd; simp [h0, h1, h2, h3]
          have Hs := Lib.hid hs
          clear hs
          have hk : Kept w w := Kept.refl w
          go_enter Tryd.func45, Tryd.ntmps45
          go_wp2_with fail
          refine (idx16_3 least out x0 x1 x2 x3 _ _ _ _ _ hf ho h0 h1 h2 h3).mono ?_
          rintro e w1 ⟨rfl, hn⟩
          replace hk := hk.trans hn
          clear hn
          go_wp2
          go_ret
          exact ⟨ret_bool (by rw [Hs.out]), hk⟩
      · skip
        have hs : anyOdd least out x0 x1 x2 x3 = true := by unfold anyOdd; simp [h0, h1, h2]
        have Hs := Lib.hid hs
        clear hs
        have hk : Kept w w := Kept.refl w
        go_enter Tryd.func45, Tryd.ntmps45
        go_wp2_with fail
        refine (idx16_2 least out x0 x1 x2 x3 _ _ _ _ _ hf ho h0 h1 h2).mono ?_
        rintro e w1 ⟨rfl, hn⟩
        replace hk := hk.trans hn
        clear hn
        go_wp2
        go_ret
        exact ⟨ret_bool (by rw [Hs.out]), hk⟩
    · skip
      have hs : anyOdd least out x0 x1 x2 x3 = true := by unfold anyOdd; simp [h0, h1]
      have Hs := Lib.hid hs
      clear hs
      have hk : Kept w w := Kept.refl w
      go_enter Tryd.func45, Tryd.ntmps45
      go_wp2_with fail
      refine (idx16_1 least out x0 x1 x2 x3 _ _ _ _ _ hf ho h0 h1).mono ?_
      rintro e w1 ⟨rfl, hn⟩
      replace hk := hk.trans hn
      clear hn
      go_wp2
      go_ret
      exact ⟨ret_bool (by rw [Hs.out]), hk⟩
  · skip
    have hs : anyOdd least out x0 x1 x2 x3 = true := by unfold anyOdd; simp [h0]
    have Hs := Lib.hid hs
    clear hs
    have hk : Kept w w := Kept.refl w
    go_enter Tryd.func45, Tryd.ntmps45
    go_wp2_with fail
    refine (idx16_0 least out x0 x1 x2 x3 _ _ _ _ _ hf ho h0).mono ?_
    rintro e w1 ⟨rfl, hn⟩
    replace hk := hk.trans hn
    clear hn
    go_wp2
    go_ret
    exact ⟨ret_bool (by rw [Hs.out]), hk⟩
end Go.Proofs.YtnbagilcbngdcaaDoor
namespace Go.Proofs.YtnbagilcbngdcaaDoor
open Go.RowKit
set_option linter.unusedSimpArgs false
set_option linter.unusedVariables false
/-- each of a style's values is one -/
def mayS (s : Sty) : Bool :=
  !(oddL 0 [] s.inl || oddL 0 [] s.mx || oddL 0 [] s.bas || oddL 0 [2] s.blk || oddL 0 [0] s.mn) &&
  !(anyOdd (-8191) [2] s.m0 s.m1 s.m2 s.m3 || anyOdd 0 [0, 2] s.p0 s.p1 s.p2 s.p3) &&
  (inB 0 100 s.grow && inB 0 100 s.shrink) && inB 0 3 s.align && inB 0 3 s.items && inB 0 3 s.just
theorem true_first (b : Bool) : b = true ∨ b = false := by cases b <;> simp
theorem false_first (b : Bool) : b = false ∨ b = true := by cases b <;> simp

set_option maxHeartbeats 8000000 in
set_option maxRecDepth 20000 in
theorem cascadeMay_any (s : Sty) (w : World) :
    Calls Tryd.prog 20 #[s.V] w fun e w' => e = .returned (.bool (mayS s)) ∧ Kept w w' := by
  unfold Sty.V Sty.C
  have hk : Kept w w := Kept.refl w
  go_enter Tryd.func20, Tryd.ntmps20
  go_wp2_with fail
  refine with_boxes1 ?_
  intro X hX st
  have hsz := hk.size
  replace hk := hk.trans hX
  clear hX
  refine (make_any 0 _ [] _ (.none _ _)).mono ?_
  rintro e w1 ⟨p0, q0, rfl, o0, hn⟩
  replace hk := hk.trans hn
  replace st := st.kept hn
  clear hn
  go_wp2_with fail
  refine with_boxes1 ?_
  intro X hX b1
  have hsz := hk.size
  replace hk := hk.trans hX
  replace st := st.kept hX
  replace o0 := o0.kept hX
  clear hX
  replace b1_l := b1.lt
  replace b1_0 := b1.at 0 _ rfl
  refine (make_any 0 _ [2] _ (.one _ _ _ b1_0)).mono ?_
  rintro e w1 ⟨p1, q1, rfl, o1, hn⟩
  replace hk := hk.trans hn
  replace st := st.kept hn
  replace o0 := o0.kept hn
  replace b1 := b1.kept hn
  clear hn
  replace b1_l := b1.lt
  replace b1_0 := b1.at 0 _ rfl
  clear b1
  clear b1_l b1_0
  go_wp2_with fail
  refine with_boxes1 ?_
  intro X hX b2
  have hsz := hk.size
  replace hk := hk.trans hX
  replace st := st.kept hX
  replace o0 := o0.kept hX
  replace o1 := o1.kept hX
  clear hX
  replace b2_l := b2.lt
  replace b2_0 := b2.at 0 _ rfl
  refine (make_any 0 _ [0] _ (.one _ _ _ b2_0)).mono ?_
  rintro e w1 ⟨p2, q2, rfl, o2, hn⟩
  replace hk := hk.trans hn
  replace st := st.kept hn
  replace o0 := o0.kept hn
  replace o1 := o1.kept hn
  replace b2 := b2.kept hn
  clear hn
  replace b2_l := b2.lt
  replace b2_0 := b2.at 0 _ rfl
  clear b2
  clear b2_l b2_0
  go_wp2_with fail
  refine with_boxes1 ?_
  intro X hX b3
  have hsz := hk.size
  replace hk := hk.trans hX
  replace st := st.kept hX
  replace o0 := o0.kept hX
  replace o1 := o1.kept hX
  replace o2 := o2.kept hX
  clear hX
  replace b3_l := b3.lt
  replace b3_0 := b3.at 0 _ rfl
  refine (make_any (-8191) _ [2] _ (.one _ _ _ b3_0)).mono ?_
  rintro e w1 ⟨p3, q3, rfl, o3, hn⟩
  replace hk := hk.trans hn
  replace st := st.kept hn
  replace o0 := o0.kept hn
  replace o1 := o1.kept hn
  replace o2 := o2.kept hn
  replace b3 := b3.kept hn
  clear hn
  replace b3_l := b3.lt
  replace b3_0 := b3.at 0 _ rfl
  clear b3
  clear b3_l b3_0
  go_wp2_with fail
  refine with_boxes1 ?_
  intro X hX b4
  have hsz := hk.size
  replace hk := hk.trans hX
  replace st := st.kept hX
  replace o0 := o0.kept hX
  replace o1 := o1.kept hX
  replace o2 := o2.kept hX
  replace o3 := o3.kept hX
  clear hX
  replace b4_l := b4.lt
  replace b4_0 := b4.at 0 _ rfl
  replace b4_1 := b4.at 1 _ rfl
  refine (make_any 0 _ [0, 2] _ (.two _ _ _ _ b4_0 b4_1)).mono ?_
  rintro e w1 ⟨p4, q4, rfl, o4, hn⟩
  replace hk := hk.trans hn
  replace st := st.kept hn
  replace o0 := o0.kept hn
  replace o1 := o1.kept hn
  replace o2 := o2.kept hn
  replace o3 := o3.kept hn
  replace b4 := b4.kept hn
  clear hn
  replace b4_l := b4.lt
  replace b4_0 := b4.at 0 _ rfl
  replace b4_1 := b4.at 1 _ rfl
  clear b4
  clear b4_l b4_0 b4_1
  have c0 := st.at 0 _ rfl
  have c1 := st.at 1 _ rfl
  rcases true_first (oddL 0 [] s.inl) with t0 | t0
  · have Hs := Lib.hid (show mayS s = false by unfold mayS; simp [t0])
    go_wp2_with fail
    refine (odd_any 0 [] s.inl _ _ _ o0).mono ?_
    rintro e w1 ⟨rfl, hn⟩
    replace hk := hk.trans hn
    replace st := st.kept hn
    replace o0 := o0.kept hn
    replace o1 := o1.kept hn
    replace o2 := o2.kept hn
    replace o3 := o3.kept hn
    replace o4 := o4.kept hn
    clear hn
    clear c0 c1
    go_wp2
    go_ret
    exact ⟨ret_bool (by rw [Hs.out]), hk⟩
  go_wp2_with fail
  refine (odd_any 0 [] s.inl _ _ _ o0).mono ?_
  rintro e w1 ⟨rfl, hn⟩
  replace hk := hk.trans hn
  replace st := st.kept hn
  replace o0 := o0.kept hn
  replace o1 := o1.kept hn
  replace o2 := o2.kept hn
  replace o3 := o3.kept hn
  replace o4 := o4.kept hn
  clear hn
  clear c0 c1
  have c6 := st.at 6 _ rfl
  have c7 := st.at 7 _ rfl
  rcases true_first (oddL 0 [] s.mx) with t1 | t1
  · have Hs := Lib.hid (show mayS s = false by unfold mayS; simp [t0, t1])
    go_wp2_with fail
    refine (odd_any 0 [] s.mx _ _ _ o0).mono ?_
    rintro e w1 ⟨rfl, hn⟩
    replace hk := hk.trans hn
    replace st := st.kept hn
    replace o0 := o0.kept hn
    replace o1 := o1.kept hn
    replace o2 := o2.kept hn
    replace o3 := o3.kept hn
    replace o4 := o4.kept hn
    clear hn
    clear c6 c7
    go_wp2
    go_ret
    exact ⟨ret_bool (by rw [Hs.out]), hk⟩
  go_wp2_with fail
  refine (odd_any 0 [] s.mx _ _ _ o0).mono ?_
  rintro e w1 ⟨rfl, hn⟩
  replace hk := hk.trans hn
  replace st := st.kept hn
  replace o0 := o0.kept hn
  replace o1 := o1.kept hn
  replace o2 := o2.kept hn
  replace o3 := o3.kept hn
  replace o4 := o4.kept hn
  clear hn
  clear c6 c7
  have c24 := st.at 24 _ rfl
  have c25 := st.at 25 _ rfl
  rcases true_first (oddL 0 [] s.bas) with t2 | t2
  · have Hs := Lib.hid (show mayS s = false by unfold mayS; simp [t0, t1, t2])
    go_wp2_with fail
    refine (odd_any 0 [] s.bas _ _ _ o0).mono ?_
    rintro e w1 ⟨rfl, hn⟩
    replace hk := hk.trans hn
    replace st := st.kept hn
    replace o0 := o0.kept hn
    replace o1 := o1.kept hn
    replace o2 := o2.kept hn
    replace o3 := o3.kept hn
    replace o4 := o4.kept hn
    clear hn
    clear c24 c25
    go_wp2
    go_ret
    exact ⟨ret_bool (by rw [Hs.out]), hk⟩
  go_wp2_with fail
  refine (odd_any 0 [] s.bas _ _ _ o0).mono ?_
  rintro e w1 ⟨rfl, hn⟩
  replace hk := hk.trans hn
  replace st := st.kept hn
  replace o0 := o0.kept hn
  replace o1 := o1.kept hn
  replace o2 := o2.kept hn
  replace o3 := o3.kept hn
  replace o4 := o4.kept hn
  clear hn
  clear c24 c25
  have c2 := st.at 2 _ rfl
  have c3 := st.at 3 _ rfl
  rcases true_first (oddL 0 [2] s.blk) with t3 | t3
  · have Hs := Lib.hid (show mayS s = false by unfold mayS; simp [t0, t1, t2, t3])
    go_wp2_with fail
    refine (odd_any 0 [2] s.blk _ _ _ o1).mono ?_
    rintro e w1 ⟨rfl, hn⟩
    replace hk := hk.trans hn
    replace st := st.kept hn
    replace o0 := o0.kept hn
    replace o1 := o1.kept hn
    replace o2 := o2.kept hn
    replace o3 := o3.kept hn
    replace o4 := o4.kept hn
    clear hn
    clear c2 c3
    go_wp2
    go_ret
    exact ⟨ret_bool (by rw [Hs.out]), hk⟩
  go_wp2_with fail
  refine (odd_any 0 [2] s.blk _ _ _ o1).mono ?_
  rintro e w1 ⟨rfl, hn⟩
  replace hk := hk.trans hn
  replace st := st.kept hn
  replace o0 := o0.kept hn
  replace o1 := o1.kept hn
  replace o2 := o2.kept hn
  replace o3 := o3.kept hn
  replace o4 := o4.kept hn
  clear hn
  clear c2 c3
  have c4 := st.at 4 _ rfl
  have c5 := st.at 5 _ rfl
  rcases true_first (oddL 0 [0] s.mn) with t4 | t4
  · have Hs := Lib.hid (show mayS s = false by unfold mayS; simp [t0, t1, t2, t3, t4])
    go_wp2_with fail
    refine (odd_any 0 [0] s.mn _ _ _ o2).mono ?_
    rintro e w1 ⟨rfl, hn⟩
    replace hk := hk.trans hn
    replace st := st.kept hn
    replace o0 := o0.kept hn
    replace o1 := o1.kept hn
    replace o2 := o2.kept hn
    replace o3 := o3.kept hn
    replace o4 := o4.kept hn
    clear hn
    clear c4 c5
    go_wp2
    go_ret
    exact ⟨ret_bool (by rw [Hs.out]), hk⟩
  go_wp2_with fail
  refine (odd_any 0 [0] s.mn _ _ _ o2).mono ?_
  rintro e w1 ⟨rfl, hn⟩
  replace hk := hk.trans hn
  replace st := st.kept hn
  replace o0 := o0.kept hn
  replace o1 := o1.kept hn
  replace o2 := o2.kept hn
  replace o3 := o3.kept hn
  replace o4 := o4.kept hn
  clear hn
  clear c4 c5
  rcases true_first (anyOdd (-8191) [2] s.m0 s.m1 s.m2 s.m3) with t5 | t5
  · have Hs := Lib.hid (show mayS s = false by unfold mayS; simp [t0, t1, t2, t3, t4, t5])
    go_wp2_with fail
    refine (contains8_any (-8191) [2] s.m0 s.m1 s.m2 s.m3 _ _ _ _ _ ⟨st.at 8 _ rfl, st.at 9 _ rfl, st.at 10 _ rfl, st.at 11 _ rfl, st.at 12 _ rfl, st.at 13 _ rfl, st.at 14 _ rfl, st.at 15 _ rfl⟩ o3).mono ?_
    rintro e w1 ⟨rfl, hn⟩
    replace hk := hk.trans hn
    replace st := st.kept hn
    replace o0 := o0.kept hn
    replace o1 := o1.kept hn
    replace o2 := o2.kept hn
    replace o3 := o3.kept hn
    replace o4 := o4.kept hn
    clear hn
    go_wp2
    go_ret
    exact ⟨ret_bool (by rw [Hs.out]), hk⟩
  go_wp2_with fail
  refine (contains8_any (-8191) [2] s.m0 s.m1 s.m2 s.m3 _ _ _ _ _ ⟨st.at 8 _ rfl, st.at 9 _ rfl, st.at 10 _ rfl, st.at 11 _ rfl, st.at 12 _ rfl, st.at 13 _ rfl, st.at 14 _ rfl, st.at 15 _ rfl⟩ o3).mono ?_
  rintro e w1 ⟨rfl, hn⟩
  replace hk := hk.trans hn
  replace st := st.kept hn
  replace o0 := o0.kept hn
  replace o1 := o1.kept hn
  replace o2 := o2.kept hn
  replace o3 := o3.kept hn
  replace o4 := o4.kept hn
  clear hn
  rcases true_first (anyOdd 0 [0, 2] s.p0 s.p1 s.p2 s.p3) with t6 | t6
  · have Hs := Lib.hid (show mayS s = false by unfold mayS; simp [t0, t1, t2, t3, t4, t5, t6])
    go_wp2_with fail
    refine (contains16_any 0 [0, 2] s.p0 s.p1 s.p2 s.p3 _ _ _ _ _ ⟨st.at 16 _ rfl, st.at 17 _ rfl, st.at 18 _ rfl, st.at 19 _ rfl, st.at 20 _ rfl, st.at 21 _ rfl, st.at 22 _ rfl, st.at 23 _ rfl⟩ o4).mono ?_
    rintro e w1 ⟨rfl, hn⟩
    replace hk := hk.trans hn
    replace st := st.kept hn
    replace o0 := o0.kept hn
    replace o1 := o1.kept hn
    replace o2 := o2.kept hn
    replace o3 := o3.kept hn
    replace o4 := o4.kept hn
    clear hn
    go_wp2
    go_ret
    exact ⟨ret_bool (by rw [Hs.out]), hk⟩
  go_wp2_with fail
  refine (contains16_any 0 [0, 2] s.p0 s.p1 s.p2 s.p3 _ _ _ _ _ ⟨st.at 16 _ rfl, st.at 17 _ rfl, st.at 18 _ rfl, st.at 19 _ rfl, st.at 20 _ rfl, st.at 21 _ rfl, st.at 22 _ rfl, st.at 23 _ rfl⟩ o4).mono ?_
  rintro e w1 ⟨rfl, hn⟩
  replace hk := hk.trans hn
  replace st := st.kept hn
  replace o0 := o0.kept hn
  replace o1 := o1.kept hn
  replace o2 := o2.kept hn
  replace o3 := o3.kept hn
  replace o4 := o4.kept hn
  clear hn
  have c26 := st.at 26 _ rfl
  have c27 := st.at 27 _ rfl
  rcases false_first ((inB 0 100 s.grow && inB 0 100 s.shrink)) with t7 | t7
  · have Hs := Lib.hid (show mayS s = false by unfold mayS; simp [t0, t1, t2, t3, t4, t5, t6, t7])
    go_wp2_with fail
    refine with_boxes1 ?_
    intro X hX b5
    have hsz := hk.size
    replace hk := hk.trans hX
    replace st := st.kept hX
    replace o0 := o0.kept hX
    replace o1 := o1.kept hX
    replace o2 := o2.kept hX
    replace o3 := o3.kept hX
    replace o4 := o4.kept hX
    clear hX
    replace b5_l := b5.lt
    replace b5_0 := b5.at 0 _ rfl
    replace b5_1 := b5.at 1 _ rfl
    refine (each2_any _ _ _ _ _ _ b5_0 b5_1).mono ?_
    rintro e w1 ⟨rfl, rfl⟩
    clear b5
    clear b5_l b5_0 b5_1
    go_wp2
    go_ret
    exact ⟨ret_bool (by rw [Hs.out]), hk⟩
  go_wp2_with fail
  refine with_boxes1 ?_
  intro X hX b5
  have hsz := hk.size
  replace hk := hk.trans hX
  replace st := st.kept hX
  replace o0 := o0.kept hX
  replace o1 := o1.kept hX
  replace o2 := o2.kept hX
  replace o3 := o3.kept hX
  replace o4 := o4.kept hX
  clear hX
  replace b5_l := b5.lt
  replace b5_0 := b5.at 0 _ rfl
  replace b5_1 := b5.at 1 _ rfl
  refine (each2_any _ _ _ _ _ _ b5_0 b5_1).mono ?_
  rintro e w1 ⟨rfl, rfl⟩
  clear b5
  clear b5_l b5_0 b5_1
  have c28 := st.at 28 _ rfl
  rcases false_first (inB 0 3 s.align) with t8 | t8
  · have Hs := Lib.hid (show mayS s = false by unfold mayS; simp [t0, t1, t2, t3, t4, t5, t6, t7, t8])
    go_wp2_with fail
    refine with_boxes1 ?_
    intro X hX b6
    have hsz := hk.size
    replace hk := hk.trans hX
    replace st := st.kept hX
    replace o0 := o0.kept hX
    replace o1 := o1.kept hX
    replace o2 := o2.kept hX
    replace o3 := o3.kept hX
    replace o4 := o4.kept hX
    clear hX
    replace b6_l := b6.lt
    replace b6_0 := b6.at 0 _ rfl
    refine (each1_any _ _ _ _ _ b6_0).mono ?_
    rintro e w1 ⟨rfl, rfl⟩
    clear b6
    clear b6_l b6_0
    go_wp2
    go_ret
    exact ⟨ret_bool (by rw [Hs.out]), hk⟩
  go_wp2_with fail
  refine with_boxes1 ?_
  intro X hX b6
  have hsz := hk.size
  replace hk := hk.trans hX
  replace st := st.kept hX
  replace o0 := o0.kept hX
  replace o1 := o1.kept hX
  replace o2 := o2.kept hX
  replace o3 := o3.kept hX
  replace o4 := o4.kept hX
  clear hX
  replace b6_l := b6.lt
  replace b6_0 := b6.at 0 _ rfl
  refine (each1_any _ _ _ _ _ b6_0).mono ?_
  rintro e w1 ⟨rfl, rfl⟩
  clear b6
  clear b6_l b6_0
  have c29 := st.at 29 _ rfl
  rcases false_first (inB 0 3 s.items) with t9 | t9
  · have Hs := Lib.hid (show mayS s = false by unfold mayS; simp [t0, t1, t2, t3, t4, t5, t6, t7, t8, t9])
    go_wp2_with fail
    refine with_boxes1 ?_
    intro X hX b7
    have hsz := hk.size
    replace hk := hk.trans hX
    replace st := st.kept hX
    replace o0 := o0.kept hX
    replace o1 := o1.kept hX
    replace o2 := o2.kept hX
    replace o3 := o3.kept hX
    replace o4 := o4.kept hX
    clear hX
    replace b7_l := b7.lt
    replace b7_0 := b7.at 0 _ rfl
    refine (each1_any _ _ _ _ _ b7_0).mono ?_
    rintro e w1 ⟨rfl, rfl⟩
    clear b7
    clear b7_l b7_0
    go_wp2
    go_ret
    exact ⟨ret_bool (by rw [Hs.out]), hk⟩
  go_wp2_with fail
  refine with_boxes1 ?_
  intro X hX b7
  have hsz := hk.size
  replace hk := hk.trans hX
  replace st := st.kept hX
  replace o0 := o0.kept hX
  replace o1 := o1.kept hX
  replace o2 := o2.kept hX
  replace o3 := o3.kept hX
  replace o4 := o4.kept hX
  clear hX
  replace b7_l := b7.lt
  replace b7_0 := b7.at 0 _ rfl
  refine (each1_any _ _ _ _ _ b7_0).mono ?_
  rintro e w1 ⟨rfl, rfl⟩
  clear b7
  clear b7_l b7_0
  have c30 := st.at 30 _ rfl
  rcases false_first (inB 0 3 s.just) with t10 | t10
  · have Hs := Lib.hid (show mayS s = false by unfold mayS; simp [t0, t1, t2, t3, t4, t5, t6, t7, t8, t9, t10])
    go_wp2_with fail
    refine with_boxes1 ?_
    intro X hX b8
    have hsz := hk.size
    replace hk := hk.trans hX
    replace st := st.kept hX
    replace o0 := o0.kept hX
    replace o1 := o1.kept hX
    replace o2 := o2.kept hX
    replace o3 := o3.kept hX
    replace o4 := o4.kept hX
    clear hX
    replace b8_l := b8.lt
    replace b8_0 := b8.at 0 _ rfl
    refine (each1_any _ _ _ _ _ b8_0).mono ?_
    rintro e w1 ⟨rfl, rfl⟩
    clear b8
    clear b8_l b8_0
    go_wp2
    go_ret
    exact ⟨ret_bool (by rw [Hs.out]), hk⟩
  go_wp2_with fail
  refine with_boxes1 ?_
  intro X hX b8
  have hsz := hk.size
  replace hk := hk.trans hX
  replace st := st.kept hX
  replace o0 := o0.kept hX
  replace o1 := o1.kept hX
  replace o2 := o2.kept hX
  replace o3 := o3.kept hX
  replace o4 := o4.kept hX
  clear hX
  replace b8_l := b8.lt
  replace b8_0 := b8.at 0 _ rfl
  refine (each1_any _ _ _ _ _ b8_0).mono ?_
  rintro e w1 ⟨rfl, rfl⟩
  clear b8
  clear b8_l b8_0
  have Hs := Lib.hid (show mayS s = true by unfold mayS; simp only [t0, t1, t2, t3, t4, t5, t6, t7, t8, t9, t10]; rfl)
  go_wp2
  go_ret
  exact ⟨ret_bool (by rw [Hs.out]), hk⟩
end Go.Proofs.YtnbagilcbngdcaaDoor
namespace Go.Proofs.YtnbagilcbngdcaaDoor
open Go.RowKit
set_option linter.unusedSimpArgs false
set_option linter.unusedVariables false
def okL (x : Len) : Bool := lenB x.k x.v && decide (0 ≤ x.v)
def okM (m p : Len) : Bool := lenB m.k m.v && !(m.k == 2) && (p.k == 1) && lenB p.k p.v && decide (0 ≤ p.v)
def refS (s : Sty) : Bool :=
  okL s.inl && okL s.bas && okL s.mx && okL s.blk && okL s.mn && okM s.m0 s.p0 && okM s.m1 s.p1 && okM s.m2 s.p2 && okM s.m3 s.p3 &&
  !(s.blk.k == 2) && !(s.mn.k == 0) && inB 0 100 s.grow && inB 0 100 s.shrink && inB 0 3 s.align && inB 0 3 s.items && inB 0 3 s.just
theorem lenB_lo {k v : Int} (h : lenB k v = true) : -8191 ≤ v := by
  unfold lenB at h
  by_cases h0 : k = 0
  · subst h0; simp at h; omega
  · by_cases h1 : k = 1
    · subst h1; simp at h; exact (inB_true.1 h).1
    · by_cases h2 : k = 2
      · subst h2; simp at h; have := (inB_true.1 h).1; omega
      · simp [h0, h1, h2] at h
theorem oddL_nil (x : Len) : oddL 0 [] x = !okL x := by
  unfold oddL oddB okL
  by_cases hv : x.v < 0 <;> cases lenB x.k x.v <;> simp [hv] <;> omega
theorem oddL_one (j : Int) (x : Len) : oddL 0 [j] x = !(okL x && !(x.k == j)) := by
  unfold oddL oddB okL
  by_cases hv : x.v < 0 <;> by_cases hk : x.k = j <;> cases lenB x.k x.v <;> simp [hv, hk] <;> omega
theorem odd_pad (m p : Len) : (oddL (-8191) [2] m || oddL 0 [0, 2] p) = !okM m p := by
  unfold oddL oddB okM
  cases hm : lenB m.k m.v
  · simp
  · have h1 := lenB_lo hm
    have h2 : decide (m.v < -8191) = false := by simp; omega
    rw [h2]
    cases hp : lenB p.k p.v
    · simp
    · rcases lenB_kind hp with h | h | h <;> simp [h] <;> by_cases hv : p.v < 0 <;> simp [hv] <;> by_cases hk : m.k = 2 <;> simp [hk] <;> omega
theorem ref_may (s : Sty) : refS s = mayS s := by
  have a : mayS s = (!(oddL 0 [] s.inl || oddL 0 [] s.mx || oddL 0 [] s.bas || oddL 0 [2] s.blk || oddL 0 [0] s.mn) &&
      !((oddL (-8191) [2] s.m0 || oddL 0 [0, 2] s.p0) || (oddL (-8191) [2] s.m1 || oddL 0 [0, 2] s.p1) || (oddL (-8191) [2] s.m2 || oddL 0 [0, 2] s.p2) || (oddL (-8191) [2] s.m3 || oddL 0 [0, 2] s.p3)) &&
      (inB 0 100 s.grow && inB 0 100 s.shrink) && inB 0 3 s.align && inB 0 3 s.items && inB 0 3 s.just) := by
    unfold mayS anyOdd
    generalize oddL (-8191) [2] s.m0 = a0
    generalize oddL (-8191) [2] s.m1 = a1
    generalize oddL (-8191) [2] s.m2 = a2
    generalize oddL (-8191) [2] s.m3 = a3
    generalize oddL 0 [0, 2] s.p0 = b0
    generalize oddL 0 [0, 2] s.p1 = b1
    generalize oddL 0 [0, 2] s.p2 = b2
    generalize oddL 0 [0, 2] s.p3 = b3
    cases a0 <;> cases a1 <;> cases a2 <;> cases a3 <;> simp
  rw [a, odd_pad, odd_pad, odd_pad, odd_pad, oddL_nil, oddL_nil, oddL_nil, oddL_one, oddL_one]
  unfold refS
  generalize okL s.inl = a0
  generalize okL s.bas = a1
  generalize okL s.mx = a2
  generalize okL s.blk = a3
  generalize okL s.mn = a4
  generalize okM s.m0 s.p0 = b0
  generalize okM s.m1 s.p1 = b1
  generalize okM s.m2 s.p2 = b2
  generalize okM s.m3 s.p3 = b3
  generalize (s.blk.k == 2) = c0
  generalize (s.mn.k == 0) = c1
  cases a0 <;> simp
  cases a1 <;> simp
  cases a2 <;> simp
  cases a3 <;> simp
  cases a4 <;> simp
  cases c0 <;> simp
  cases c1 <;> simp
  cases b0 <;> simp
  cases b1 <;> simp
  cases b2 <;> simp
  cases b3 <;> simp
theorem refUpTo_any (x m : Int) (w : World) :
    Calls Tryd.prog 47 #[.int .i64 x, .int .i64 m] w fun e w' => e = .returned (.bool (inB 0 m x)) ∧ w = w' := by
  rcases (by omega : x < 0 ∨ (0 ≤ x ∧ x ≤ m) ∨ (0 ≤ x ∧ m < x)) with h | ⟨h, h5⟩ | ⟨h, h5⟩
  · have Hs := Lib.hid (show inB 0 m x = false from inB_false.2 (by omega))
    go_enter Tryd.func47, Tryd.ntmps47
    go_wp2
    go_ret
    exact ⟨ret_bool (by rw [Hs.out]; first | done | (simp; done) | (simp; omega)), rfl⟩
  · have Hs := Lib.hid (show inB 0 m x = true from inB_true.2 ⟨h, h5⟩)
    go_enter Tryd.func47, Tryd.ntmps47
    go_wp2
    go_ret
    exact ⟨ret_bool (by rw [Hs.out]; first | done | (simp; done) | (simp; omega)), rfl⟩
  · have Hs := Lib.hid (show inB 0 m x = false from inB_false.2 (by omega))
    go_enter Tryd.func47, Tryd.ntmps47
    go_wp2
    go_ret
    exact ⟨ret_bool (by rw [Hs.out]; first | done | (simp; done) | (simp; omega)), rfl⟩

set_option maxHeartbeats 16000000 in
set_option maxRecDepth 20000 in
theorem refStyleMay_any (s : Sty) (w : World) :
    Calls Tryd.prog 21 #[s.V] w fun e w' => e = .returned (.bool (mayS s)) ∧ Kept w w' := by
  unfold Sty.V Sty.C
  have hk : Kept w w := Kept.refl w
  go_enter Tryd.func21, Tryd.ntmps21
  go_wp2_with fail
  refine code_boxes2 ?_
  intro X hX st ls
  have hsz := hk.size
  replace hk := hk.trans hX
  clear hX
  refine wp_loop_rounds 6 ?_
  rw [rounds_succ]
  have c0 := ls.at 0 _ rfl
  have c1 := ls.at 1 _ rfl
  rcases false_first (lenB s.inl.k s.inl.v) with h0 | h0
  · have Hs := Lib.hid (show mayS s = false by rw [← ref_may]; unfold refS okL okM; simp [h0])
    go_wp2_with fail
    refine (refLengthMay_any s.inl.k s.inl.v _).mono ?_
    rintro e w1 ⟨rfl, hn⟩
    replace hk := hk.trans hn
    replace st := st.kept hn
    replace ls := ls.kept hn
    clear hn
    replace c0 := ls.at 0 _ rfl
    replace c1 := ls.at 1 _ rfl
    go_wp2
    go_ret
    exact ⟨ret_bool (by rw [Hs.out]), hk⟩
  go_wp2_with fail
  refine (refLengthMay_any s.inl.k s.inl.v _).mono ?_
  rintro e w1 ⟨rfl, hn⟩
  replace hk := hk.trans hn
  replace st := st.kept hn
  replace ls := ls.kept hn
  clear hn
  replace c0 := ls.at 0 _ rfl
  replace c1 := ls.at 1 _ rfl
  rcases Int.lt_or_le (s.inl.v) 0 with h1 | h1
  · have Hs := Lib.hid (show mayS s = false by rw [← ref_may]; unfold refS okL okM; simp [h0, Int.not_le.2 h1])
    go_wp2
    go_ret
    exact ⟨ret_bool (by rw [Hs.out]), hk⟩
  go_wp2_with fail
  clear c0 c1
  go_wp2
  rw [rounds_succ]
  have c2 := ls.at 2 _ rfl
  have c3 := ls.at 3 _ rfl
  rcases false_first (lenB s.bas.k s.bas.v) with h2 | h2
  · have Hs := Lib.hid (show mayS s = false by rw [← ref_may]; unfold refS okL okM; simp [h0, h1, h2])
    go_wp2_with fail
    refine (refLengthMay_any s.bas.k s.bas.v _).mono ?_
    rintro e w1 ⟨rfl, hn⟩
    replace hk := hk.trans hn
    replace st := st.kept hn
    replace ls := ls.kept hn
    clear hn
    replace c2 := ls.at 2 _ rfl
    replace c3 := ls.at 3 _ rfl
    go_wp2
    go_ret
    exact ⟨ret_bool (by rw [Hs.out]), hk⟩
  go_wp2_with fail
  refine (refLengthMay_any s.bas.k s.bas.v _).mono ?_
  rintro e w1 ⟨rfl, hn⟩
  replace hk := hk.trans hn
  replace st := st.kept hn
  replace ls := ls.kept hn
  clear hn
  replace c2 := ls.at 2 _ rfl
  replace c3 := ls.at 3 _ rfl
  rcases Int.lt_or_le (s.bas.v) 0 with h3 | h3
  · have Hs := Lib.hid (show mayS s = false by rw [← ref_may]; unfold refS okL okM; simp [h0, h1, h2, Int.not_le.2 h3])
    go_wp2
    go_ret
    exact ⟨ret_bool (by rw [Hs.out]), hk⟩
  go_wp2_with fail
  clear c2 c3
  go_wp2
  rw [rounds_succ]
  have c4 := ls.at 4 _ rfl
  have c5 := ls.at 5 _ rfl
  rcases false_first (lenB s.mx.k s.mx.v) with h4 | h4
  · have Hs := Lib.hid (show mayS s = false by rw [← ref_may]; unfold refS okL okM; simp [h0, h1, h2, h3, h4])
    go_wp2_with fail
    refine (refLengthMay_any s.mx.k s.mx.v _).mono ?_
    rintro e w1 ⟨rfl, hn⟩
    replace hk := hk.trans hn
    replace st := st.kept hn
    replace ls := ls.kept hn
    clear hn
    replace c4 := ls.at 4 _ rfl
    replace c5 := ls.at 5 _ rfl
    go_wp2
    go_ret
    exact ⟨ret_bool (by rw [Hs.out]), hk⟩
  go_wp2_with fail
  refine (refLengthMay_any s.mx.k s.mx.v _).mono ?_
  rintro e w1 ⟨rfl, hn⟩
  replace hk := hk.trans hn
  replace st := st.kept hn
  replace ls := ls.kept hn
  clear hn
  replace c4 := ls.at 4 _ rfl
  replace c5 := ls.at 5 _ rfl
  rcases Int.lt_or_le (s.mx.v) 0 with h5 | h5
  · have Hs := Lib.hid (show mayS s = false by rw [← ref_may]; unfold refS okL okM; simp [h0, h1, h2, h3, h4, Int.not_le.2 h5])
    go_wp2
    go_ret
    exact ⟨ret_bool (by rw [Hs.out]), hk⟩
  go_wp2_with fail
  clear c4 c5
  go_wp2
  rw [rounds_succ]
  have c6 := ls.at 6 _ rfl
  have c7 := ls.at 7 _ rfl
  rcases false_first (lenB s.blk.k s.blk.v) with h6 | h6
  · have Hs := Lib.hid (show mayS s = false by rw [← ref_may]; unfold refS okL okM; simp [h0, h1, h2, h3, h4, h5, h6])
    go_wp2_with fail
    refine (refLengthMay_any s.blk.k s.blk.v _).mono ?_
    rintro e w1 ⟨rfl, hn⟩
    replace hk := hk.trans hn
    replace st := st.kept hn
    replace ls := ls.kept hn
    clear hn
    replace c6 := ls.at 6 _ rfl
    replace c7 := ls.at 7 _ rfl
    go_wp2
    go_ret
    exact ⟨ret_bool (by rw [Hs.out]), hk⟩
  go_wp2_with fail
  refine (refLengthMay_any s.blk.k s.blk.v _).mono ?_
  rintro e w1 ⟨rfl, hn⟩
  replace hk := hk.trans hn
  replace st := st.kept hn
  replace ls := ls.kept hn
  clear hn
  replace c6 := ls.at 6 _ rfl
  replace c7 := ls.at 7 _ rfl
  rcases Int.lt_or_le (s.blk.v) 0 with h7 | h7
  · have Hs := Lib.hid (show mayS s = false by rw [← ref_may]; unfold refS okL okM; simp [h0, h1, h2, h3, h4, h5, h6, Int.not_le.2 h7])
    go_wp2
    go_ret
    exact ⟨ret_bool (by rw [Hs.out]), hk⟩
  go_wp2_with fail
  clear c6 c7
  go_wp2
  rw [rounds_succ]
  have c8 := ls.at 8 _ rfl
  have c9 := ls.at 9 _ rfl
  rcases false_first (lenB s.mn.k s.mn.v) with h8 | h8
  · have Hs := Lib.hid (show mayS s = false by rw [← ref_may]; unfold refS okL okM; simp [h0, h1, h2, h3, h4, h5, h6, h7, h8])
    go_wp2_with fail
    refine (refLengthMay_any s.mn.k s.mn.v _).mono ?_
    rintro e w1 ⟨rfl, hn⟩
    replace hk := hk.trans hn
    replace st := st.kept hn
    replace ls := ls.kept hn
    clear hn
    replace c8 := ls.at 8 _ rfl
    replace c9 := ls.at 9 _ rfl
    go_wp2
    go_ret
    exact ⟨ret_bool (by rw [Hs.out]), hk⟩
  go_wp2_with fail
  refine (refLengthMay_any s.mn.k s.mn.v _).mono ?_
  rintro e w1 ⟨rfl, hn⟩
  replace hk := hk.trans hn
  replace st := st.kept hn
  replace ls := ls.kept hn
  clear hn
  replace c8 := ls.at 8 _ rfl
  replace c9 := ls.at 9 _ rfl
  rcases Int.lt_or_le (s.mn.v) 0 with h9 | h9
  · have Hs := Lib.hid (show mayS s = false by rw [← ref_may]; unfold refS okL okM; simp [h0, h1, h2, h3, h4, h5, h6, h7, h8, Int.not_le.2 h9])
    go_wp2
    go_ret
    exact ⟨ret_bool (by rw [Hs.out]), hk⟩
  go_wp2_with fail
  clear c8 c9
  go_wp2
  rw [rounds_succ]
  go_wp2
  refine wp_loop_rounds 5 ?_
  rw [rounds_succ]
  have d8 := st.at 8 _ rfl
  have d9 := st.at 9 _ rfl
  have d16 := st.at 16 _ rfl
  have d17 := st.at 17 _ rfl
  rcases false_first (lenB s.m0.k s.m0.v) with h10 | h10
  · have Hs := Lib.hid (show mayS s = false by rw [← ref_may]; unfold refS okL okM; simp [h0, h1, h2, h3, h4, h5, h6, h7, h8, h9, h10])
    go_wp2_with fail
    refine (refLengthMay_any s.m0.k s.m0.v _).mono ?_
    rintro e w1 ⟨rfl, hn⟩
    replace hk := hk.trans hn
    replace st := st.kept hn
    replace ls := ls.kept hn
    clear hn
    replace d8 := st.at 8 _ rfl
    replace d9 := st.at 9 _ rfl
    replace d16 := st.at 16 _ rfl
    replace d17 := st.at 17 _ rfl
    go_wp2
    go_ret
    exact ⟨ret_bool (by rw [Hs.out]), hk⟩
  go_wp2_with fail
  refine (refLengthMay_any s.m0.k s.m0.v _).mono ?_
  rintro e w1 ⟨rfl, hn⟩
  replace hk := hk.trans hn
  replace st := st.kept hn
  replace ls := ls.kept hn
  clear hn
  replace d8 := st.at 8 _ rfl
  replace d9 := st.at 9 _ rfl
  replace d16 := st.at 16 _ rfl
  replace d17 := st.at 17 _ rfl
  rcases true_first (s.m0.k == 2) with h11 | h11
  · have Hs := Lib.hid (show mayS s = false by rw [← ref_may]; unfold refS okL okM; simp [h0, h1, h2, h3, h4, h5, h6, h7, h8, h9, h10, h11])
    go_wp2
    go_ret
    exact ⟨ret_bool (by rw [Hs.out]), hk⟩
  rcases false_first (s.p0.k == 1) with h12 | h12
  · have Hs := Lib.hid (show mayS s = false by rw [← ref_may]; unfold refS okL okM; simp [h0, h1, h2, h3, h4, h5, h6, h7, h8, h9, h10, h11, h12])
    have h12' : (s.p0.k != 1) = true := by simpa using h12
    go_wp2
    go_ret
    exact ⟨ret_bool (by rw [Hs.out]), hk⟩
  have h12' : (s.p0.k != 1) = false := by simpa using h12
  rcases false_first (lenB s.p0.k s.p0.v) with h13 | h13
  · have Hs := Lib.hid (show mayS s = false by rw [← ref_may]; unfold refS okL okM; simp [h0, h1, h2, h3, h4, h5, h6, h7, h8, h9, h10, h11, h12, h13])
    go_wp2_with fail
    refine (refLengthMay_any s.p0.k s.p0.v _).mono ?_
    rintro e w1 ⟨rfl, hn⟩
    replace hk := hk.trans hn
    replace st := st.kept hn
    replace ls := ls.kept hn
    clear hn
    replace d8 := st.at 8 _ rfl
    replace d9 := st.at 9 _ rfl
    replace d16 := st.at 16 _ rfl
    replace d17 := st.at 17 _ rfl
    go_wp2
    go_ret
    exact ⟨ret_bool (by rw [Hs.out]), hk⟩
  go_wp2_with fail
  refine (refLengthMay_any s.p0.k s.p0.v _).mono ?_
  rintro e w1 ⟨rfl, hn⟩
  replace hk := hk.trans hn
  replace st := st.kept hn
  replace ls := ls.kept hn
  clear hn
  replace d8 := st.at 8 _ rfl
  replace d9 := st.at 9 _ rfl
  replace d16 := st.at 16 _ rfl
  replace d17 := st.at 17 _ rfl
  rcases Int.lt_or_le (s.p0.v) 0 with h14 | h14
  · have Hs := Lib.hid (show mayS s = false by rw [← ref_may]; unfold refS okL okM; simp [h0, h1, h2, h3, h4, h5, h6, h7, h8, h9, h10, h11, h12, h13, Int.not_le.2 h14])
    go_wp2
    go_ret
    exact ⟨ret_bool (by rw [Hs.out]), hk⟩
  go_wp2_with fail
  clear d8 d9 d16 d17
  go_wp2
  rw [rounds_succ]
  have d10 := st.at 10 _ rfl
  have d11 := st.at 11 _ rfl
  have d18 := st.at 18 _ rfl
  have d19 := st.at 19 _ rfl
  rcases false_first (lenB s.m1.k s.m1.v) with h15 | h15
  · have Hs := Lib.hid (show mayS s = false by rw [← ref_may]; unfold refS okL okM; simp [h0, h1, h2, h3, h4, h5, h6, h7, h8, h9, h10, h11, h12, h13, h14, h15])
    go_wp2_with fail
    refine (refLengthMay_any s.m1.k s.m1.v _).mono ?_
    rintro e w1 ⟨rfl, hn⟩
    replace hk := hk.trans hn
    replace st := st.kept hn
    replace ls := ls.kept hn
    clear hn
    replace d10 := st.at 10 _ rfl
    replace d11 := st.at 11 _ rfl
    replace d18 := st.at 18 _ rfl
    replace d19 := st.at 19 _ rfl
    go_wp2
    go_ret
    exact ⟨ret_bool (by rw [Hs.out]), hk⟩
  go_wp2_with fail
  refine (refLengthMay_any s.m1.k s.m1.v _).mono ?_
  rintro e w1 ⟨rfl, hn⟩
  replace hk := hk.trans hn
  replace st := st.kept hn
  replace ls := ls.kept hn
  clear hn
  replace d10 := st.at 10 _ rfl
  replace d11 := st.at 11 _ rfl
  replace d18 := st.at 18 _ rfl
  replace d19 := st.at 19 _ rfl
  rcases true_first (s.m1.k == 2) with h16 | h16
  · have Hs := Lib.hid (show mayS s = false by rw [← ref_may]; unfold refS okL okM; simp [h0, h1, h2, h3, h4, h5, h6, h7, h8, h9, h10, h11, h12, h13, h14, h15, h16])
    go_wp2
    go_ret
    exact ⟨ret_bool (by rw [Hs.out]), hk⟩
  rcases false_first (s.p1.k == 1) with h17 | h17
  · have Hs := Lib.hid (show mayS s = false by rw [← ref_may]; unfold refS okL okM; simp [h0, h1, h2, h3, h4, h5, h6, h7, h8, h9, h10, h11, h12, h13, h14, h15, h16, h17])
    have h17' : (s.p1.k != 1) = true := by simpa using h17
    go_wp2
    go_ret
    exact ⟨ret_bool (by rw [Hs.out]), hk⟩
  have h17' : (s.p1.k != 1) = false := by simpa using h17
  rcases false_first (lenB s.p1.k s.p1.v) with h18 | h18
  · have Hs := Lib.hid (show mayS s = false by rw [← ref_may]; unfold refS okL okM; simp [h0, h1, h2, h3, h4, h5, h6, h7, h8, h9, h10, h11, h12, h13, h14, h15, h16, h17, h18])
    go_wp2_with fail
    refine (refLengthMay_any s.p1.k s.p1.v _).mono ?_
    rintro e w1 ⟨rfl, hn⟩
    replace hk := hk.trans hn
    replace st := st.kept hn
    replace ls := ls.kept hn
    clear hn
    replace d10 := st.at 10 _ rfl
    replace d11 := st.at 11 _ rfl
    replace d18 := st.at 18 _ rfl
    replace d19 := st.at 19 _ rfl
    go_wp2
    go_ret
    exact ⟨ret_bool (by rw [Hs.out]), hk⟩
  go_wp2_with fail
  refine (refLengthMay_any s.p1.k s.p1.v _).mono ?_
  rintro e w1 ⟨rfl, hn⟩
  replace hk := hk.trans hn
  replace st := st.kept hn
  replace ls := ls.kept hn
  clear hn
  replace d10 := st.at 10 _ rfl
  replace d11 := st.at 11 _ rfl
  replace d18 := st.at 18 _ rfl
  replace d19 := st.at 19 _ rfl
  rcases Int.lt_or_le (s.p1.v) 0 with h19 | h19
  · have Hs := Lib.hid (show mayS s = false by rw [← ref_may]; unfold refS okL okM; simp [h0, h1, h2, h3, h4, h5, h6, h7, h8, h9, h10, h11, h12, h13, h14, h15, h16, h17, h18, Int.not_le.2 h19])
    go_wp2
    go_ret
    exact ⟨ret_bool (by rw [Hs.out]), hk⟩
  go_wp2_with fail
  clear d10 d11 d18 d19
  go_wp2
  rw [rounds_succ]
  have d12 := st.at 12 _ rfl
  have d13 := st.at 13 _ rfl
  have d20 := st.at 20 _ rfl
  have d21 := st.at 21 _ rfl
  rcases false_first (lenB s.m2.k s.m2.v) with h20 | h20
  · have Hs := Lib.hid (show mayS s = false by rw [← ref_may]; unfold refS okL okM; simp [h0, h1, h2, h3, h4, h5, h6, h7, h8, h9, h10, h11, h12, h13, h14, h15, h16, h17, h18, h19, h20])
    go_wp2_with fail
    refine (refLengthMay_any s.m2.k s.m2.v _).mono ?_
    rintro e w1 ⟨rfl, hn⟩
    replace hk := hk.trans hn
    replace st := st.kept hn
    replace ls := ls.kept hn
    clear hn
    replace d12 := st.at 12 _ rfl
    replace d13 := st.at 13 _ rfl
    replace d20 := st.at 20 _ rfl
    replace d21 := st.at 21 _ rfl
    go_wp2
    go_ret
    exact ⟨ret_bool (by rw [Hs.out]), hk⟩
  go_wp2_with fail
  refine (refLengthMay_any s.m2.k s.m2.v _).mono ?_
  rintro e w1 ⟨rfl, hn⟩
  replace hk := hk.trans hn
  replace st := st.kept hn
  replace ls := ls.kept hn
  clear hn
  replace d12 := st.at 12 _ rfl
  replace d13 := st.at 13 _ rfl
  replace d20 := st.at 20 _ rfl
  replace d21 := st.at 21 _ rfl
  rcases true_first (s.m2.k == 2) with h21 | h21
  · have Hs := Lib.hid (show mayS s = false by rw [← ref_may]; unfold refS okL okM; simp [h0, h1, h2, h3, h4, h5, h6, h7, h8, h9, h10, h11, h12, h13, h14, h15, h16, h17, h18, h19, h20, h21])
    go_wp2
    go_ret
    exact ⟨ret_bool (by rw [Hs.out]), hk⟩
  rcases false_first (s.p2.k == 1) with h22 | h22
  · have Hs := Lib.hid (show mayS s = false by rw [← ref_may]; unfold refS okL okM; simp [h0, h1, h2, h3, h4, h5, h6, h7, h8, h9, h10, h11, h12, h13, h14, h15, h16, h17, h18, h19, h20, h21, h22])
    have h22' : (s.p2.k != 1) = true := by simpa using h22
    go_wp2
    go_ret
    exact ⟨ret_bool (by rw [Hs.out]), hk⟩
  have h22' : (s.p2.k != 1) = false := by simpa using h22
  rcases false_first (lenB s.p2.k s.p2.v) with h23 | h23
  · have Hs := Lib.hid (show mayS s = false by rw [← ref_may]; unfold refS okL okM; simp [h0, h1, h2, h3, h4, h5, h6, h7, h8, h9, h10, h11, h12, h13, h14, h15, h16, h17, h18, h19, h20, h21, h22, h23])
    go_wp2_with fail
    refine (refLengthMay_any s.p2.k s.p2.v _).mono ?_
    rintro e w1 ⟨rfl, hn⟩
    replace hk := hk.trans hn
    replace st := st.kept hn
    replace ls := ls.kept hn
    clear hn
    replace d12 := st.at 12 _ rfl
    replace d13 := st.at 13 _ rfl
    replace d20 := st.at 20 _ rfl
    replace d21 := st.at 21 _ rfl
    go_wp2
    go_ret
    exact ⟨ret_bool (by rw [Hs.out]), hk⟩
  go_wp2_with fail
  refine (refLengthMay_any s.p2.k s.p2.v _).mono ?_
  rintro e w1 ⟨rfl, hn⟩
  replace hk := hk.trans hn
  replace st := st.kept hn
  replace ls := ls.kept hn
  clear hn
  replace d12 := st.at 12 _ rfl
  replace d13 := st.at 13 _ rfl
  replace d20 := st.at 20 _ rfl
  replace d21 := st.at 21 _ rfl
  rcases Int.lt_or_le (s.p2.v) 0 with h24 | h24
  · have Hs := Lib.hid (show mayS s = false by rw [← ref_may]; unfold refS okL okM; simp [h0, h1, h2, h3, h4, h5, h6, h7, h8, h9, h10, h11, h12, h13, h14, h15, h16, h17, h18, h19, h20, h21, h22, h23, Int.not_le.2 h24])
    go_wp2
    go_ret
    exact ⟨ret_bool (by rw [Hs.out]), hk⟩
  go_wp2_with fail
  clear d12 d13 d20 d21
  go_wp2
  rw [rounds_succ]
  have d14 := st.at 14 _ rfl
  have d15 := st.at 15 _ rfl
  have d22 := st.at 22 _ rfl
  have d23 := st.at 23 _ rfl
  rcases false_first (lenB s.m3.k s.m3.v) with h25 | h25
  · have Hs := Lib.hid (show mayS s = false by rw [← ref_may]; unfold refS okL okM; simp [h0, h1, h2, h3, h4, h5, h6, h7, h8, h9, h10, h11, h12, h13, h14, h15, h16, h17, h18, h19, h20, h21, h22, h23, h24, h25])
    go_wp2_with fail
    refine (refLengthMay_any s.m3.k s.m3.v _).mono ?_
    rintro e w1 ⟨rfl, hn⟩
    replace hk := hk.trans hn
    replace st := st.kept hn
    replace ls := ls.kept hn
    clear hn
    replace d14 := st.at 14 _ rfl
    replace d15 := st.at 15 _ rfl
    replace d22 := st.at 22 _ rfl
    replace d23 := st.at 23 _ rfl
    go_wp2
    go_ret
    exact ⟨ret_bool (by rw [Hs.out]), hk⟩
  go_wp2_with fail
  refine (refLengthMay_any s.m3.k s.m3.v _).mono ?_
  rintro e w1 ⟨rfl, hn⟩
  replace hk := hk.trans hn
  replace st := st.kept hn
  replace ls := ls.kept hn
  clear hn
  replace d14 := st.at 14 _ rfl
  replace d15 := st.at 15 _ rfl
  replace d22 := st.at 22 _ rfl
  replace d23 := st.at 23 _ rfl
  rcases true_first (s.m3.k == 2) with h26 | h26
  · have Hs := Lib.hid (show mayS s = false by rw [← ref_may]; unfold refS okL okM; simp [h0, h1, h2, h3, h4, h5, h6, h7, h8, h9, h10, h11, h12, h13, h14, h15, h16, h17, h18, h19, h20, h21, h22, h23, h24, h25, h26])
    go_wp2
    go_ret
    exact ⟨ret_bool (by rw [Hs.out]), hk⟩
  rcases false_first (s.p3.k == 1) with h27 | h27
  · have Hs := Lib.hid (show mayS s = false by rw [← ref_may]; unfold refS okL okM; simp [h0, h1, h2, h3, h4, h5, h6, h7, h8, h9, h10, h11, h12, h13, h14, h15, h16, h17, h18, h19, h20, h21, h22, h23, h24, h25, h26, h27])
    have h27' : (s.p3.k != 1) = true := by simpa using h27
    go_wp2
    go_ret
    exact ⟨ret_bool (by rw [Hs.out]), hk⟩
  have h27' : (s.p3.k != 1) = false := by simpa using h27
  rcases false_first (lenB s.p3.k s.p3.v) with h28 | h28
  · have Hs := Lib.hid (show mayS s = false by rw [← ref_may]; unfold refS okL okM; simp [h0, h1, h2, h3, h4, h5, h6, h7, h8, h9, h10, h11, h12, h13, h14, h15, h16, h17, h18, h19, h20, h21, h22, h23, h24, h25, h26, h27, h28])
    go_wp2_with fail
    refine (refLengthMay_any s.p3.k s.p3.v _).mono ?_
    rintro e w1 ⟨rfl, hn⟩
    replace hk := hk.trans hn
    replace st := st.kept hn
    replace ls := ls.kept hn
    clear hn
    replace d14 := st.at 14 _ rfl
    replace d15 := st.at 15 _ rfl
    replace d22 := st.at 22 _ rfl
    replace d23 := st.at 23 _ rfl
    go_wp2
    go_ret
    exact ⟨ret_bool (by rw [Hs.out]), hk⟩
  go_wp2_with fail
  refine (refLengthMay_any s.p3.k s.p3.v _).mono ?_
  rintro e w1 ⟨rfl, hn⟩
  replace hk := hk.trans hn
  replace st := st.kept hn
  replace ls := ls.kept hn
  clear hn
  replace d14 := st.at 14 _ rfl
  replace d15 := st.at 15 _ rfl
  replace d22 := st.at 22 _ rfl
  replace d23 := st.at 23 _ rfl
  rcases Int.lt_or_le (s.p3.v) 0 with h29 | h29
  · have Hs := Lib.hid (show mayS s = false by rw [← ref_may]; unfold refS okL okM; simp [h0, h1, h2, h3, h4, h5, h6, h7, h8, h9, h10, h11, h12, h13, h14, h15, h16, h17, h18, h19, h20, h21, h22, h23, h24, h25, h26, h27, h28, Int.not_le.2 h29])
    go_wp2
    go_ret
    exact ⟨ret_bool (by rw [Hs.out]), hk⟩
  go_wp2_with fail
  clear d14 d15 d22 d23
  go_wp2
  rw [rounds_succ]
  have d2 := st.at 2 _ rfl
  have d4 := st.at 4 _ rfl
  rcases true_first (s.blk.k == 2) with h30 | h30
  · have Hs := Lib.hid (show mayS s = false by rw [← ref_may]; unfold refS okL okM; simp [h0, h1, h2, h3, h4, h5, h6, h7, h8, h9, h10, h11, h12, h13, h14, h15, h16, h17, h18, h19, h20, h21, h22, h23, h24, h25, h26, h27, h28, h29, h30])
    have hb' : (s.blk.k != 2) = false := by simpa using h30
    go_wp2
    go_ret
    exact ⟨ret_bool (by rw [Hs.out]), hk⟩
  have hb' : (s.blk.k != 2) = true := by simpa using h30
  rcases true_first (s.mn.k == 0) with h31 | h31
  · have Hs := Lib.hid (show mayS s = false by rw [← ref_may]; unfold refS okL okM; simp [h0, h1, h2, h3, h4, h5, h6, h7, h8, h9, h10, h11, h12, h13, h14, h15, h16, h17, h18, h19, h20, h21, h22, h23, h24, h25, h26, h27, h28, h29, h30, h31])
    have hm' : (s.mn.k != 0) = false := by simpa using h31
    go_wp2
    go_ret
    exact ⟨ret_bool (by rw [Hs.out]), hk⟩
  have hm' : (s.mn.k != 0) = true := by simpa using h31
  have d26 := st.at 26 _ rfl
  rcases false_first (inB 0 100 s.grow) with h32 | h32
  · have Hs := Lib.hid (show mayS s = false by rw [← ref_may]; unfold refS okL okM; simp [h0, h1, h2, h3, h4, h5, h6, h7, h8, h9, h10, h11, h12, h13, h14, h15, h16, h17, h18, h19, h20, h21, h22, h23, h24, h25, h26, h27, h28, h29, h30, h31, h32])
    go_wp2_with fail
    refine (refUpTo_any s.grow 100 _).mono ?_
    rintro e w1 ⟨rfl, rfl⟩
    go_wp2
    go_ret
    exact ⟨ret_bool (by rw [Hs.out]), hk⟩
  go_wp2_with fail
  refine (refUpTo_any s.grow 100 _).mono ?_
  rintro e w1 ⟨rfl, rfl⟩
  have d27 := st.at 27 _ rfl
  rcases false_first (inB 0 100 s.shrink) with h33 | h33
  · have Hs := Lib.hid (show mayS s = false by rw [← ref_may]; unfold refS okL okM; simp [h0, h1, h2, h3, h4, h5, h6, h7, h8, h9, h10, h11, h12, h13, h14, h15, h16, h17, h18, h19, h20, h21, h22, h23, h24, h25, h26, h27, h28, h29, h30, h31, h32, h33])
    go_wp2_with fail
    refine (refUpTo_any s.shrink 100 _).mono ?_
    rintro e w1 ⟨rfl, rfl⟩
    go_wp2
    go_ret
    exact ⟨ret_bool (by rw [Hs.out]), hk⟩
  go_wp2_with fail
  refine (refUpTo_any s.shrink 100 _).mono ?_
  rintro e w1 ⟨rfl, rfl⟩
  have d28 := st.at 28 _ rfl
  rcases false_first (inB 0 3 s.align) with h34 | h34
  · have Hs := Lib.hid (show mayS s = false by rw [← ref_may]; unfold refS okL okM; simp [h0, h1, h2, h3, h4, h5, h6, h7, h8, h9, h10, h11, h12, h13, h14, h15, h16, h17, h18, h19, h20, h21, h22, h23, h24, h25, h26, h27, h28, h29, h30, h31, h32, h33, h34])
    go_wp2_with fail
    refine (refUpTo_any s.align 3 _).mono ?_
    rintro e w1 ⟨rfl, rfl⟩
    go_wp2
    go_ret
    exact ⟨ret_bool (by rw [Hs.out]), hk⟩
  go_wp2_with fail
  refine (refUpTo_any s.align 3 _).mono ?_
  rintro e w1 ⟨rfl, rfl⟩
  have d29 := st.at 29 _ rfl
  rcases false_first (inB 0 3 s.items) with h35 | h35
  · have Hs := Lib.hid (show mayS s = false by rw [← ref_may]; unfold refS okL okM; simp [h0, h1, h2, h3, h4, h5, h6, h7, h8, h9, h10, h11, h12, h13, h14, h15, h16, h17, h18, h19, h20, h21, h22, h23, h24, h25, h26, h27, h28, h29, h30, h31, h32, h33, h34, h35])
    go_wp2_with fail
    refine (refUpTo_any s.items 3 _).mono ?_
    rintro e w1 ⟨rfl, rfl⟩
    go_wp2
    go_ret
    exact ⟨ret_bool (by rw [Hs.out]), hk⟩
  go_wp2_with fail
  refine (refUpTo_any s.items 3 _).mono ?_
  rintro e w1 ⟨rfl, rfl⟩
  have d30 := st.at 30 _ rfl
  rcases false_first (inB 0 3 s.just) with h36 | h36
  · have Hs := Lib.hid (show mayS s = false by rw [← ref_may]; unfold refS okL okM; simp [h0, h1, h2, h3, h4, h5, h6, h7, h8, h9, h10, h11, h12, h13, h14, h15, h16, h17, h18, h19, h20, h21, h22, h23, h24, h25, h26, h27, h28, h29, h30, h31, h32, h33, h34, h35, h36])
    go_wp2_with fail
    refine (refUpTo_any s.just 3 _).mono ?_
    rintro e w1 ⟨rfl, rfl⟩
    go_wp2
    go_ret
    exact ⟨ret_bool (by rw [Hs.out]), hk⟩
  go_wp2_with fail
  refine (refUpTo_any s.just 3 _).mono ?_
  rintro e w1 ⟨rfl, rfl⟩
  have Hs := Lib.hid (show mayS s = true by rw [← ref_may]; unfold refS okL okM; simp [h0, h1, h2, h3, h4, h5, h6, h7, h8, h9, h10, h11, h12, h13, h14, h15, h16, h17, h18, h19, h20, h21, h22, h23, h24, h25, h26, h27, h28, h29, h30, h31, h32, h33, h34, h35, h36])
  go_wp2
  go_ret
  exact ⟨ret_bool (by rw [Hs.out]), hk⟩
end Go.Proofs.YtnbagilcbngdcaaDoor
namespace Go.Proofs.YtnbagilcbngdcaaDoor
open Go.RowKit
set_option linter.unusedSimpArgs false
set_option linter.unusedVariables false
/-- a box without declarations -/
def newS : Sty := ⟨⟨0, 0⟩, ⟨0, 0⟩, ⟨1, 0⟩, ⟨0, 0⟩, ⟨1, 0⟩, ⟨1, 0⟩, ⟨1, 0⟩, ⟨1, 0⟩, ⟨1, 0⟩, ⟨1, 0⟩, ⟨1, 0⟩, ⟨1, 0⟩, ⟨0, 0⟩, 0, 1, 0, 0, 0, false⟩
theorem px_any (x : Int) (w : World) :
    Calls Tryd.prog 48 #[.int .i64 x] w fun e w' => e = .returned (lenV 1 x) ∧ Kept w w' := by
  have hk : Kept w w := Kept.refl w
  go_enter Tryd.func48, Tryd.ntmps48
  go_wp2
  exact bodyPost_ret (v := lenV 1 x) (by simp [results, Tryd.results48, go_sem]) rfl ⟨by first | (rw [Hs.out]; done) | rfl, (by first | ((repeat (first | with_reducible exact hk | with_reducible refine Kept.alloc ?_ _ | with_reducible refine Kept.drew ?_ | with_reducible refine Kept.drewN ?_ _ | with_reducible refine Kept.set ?_ (by first | (simp; done) | (simp; omega) | omega) _)); done) | exact hk | exact (hk.alloc _) | exact ((hk.alloc _).alloc _) | exact (((hk.alloc _).alloc _).alloc _) | exact ((((hk.alloc _).alloc _).alloc _).alloc _) | exact (((((hk.alloc _).alloc _).alloc _).alloc _).alloc _) | exact ((((((hk.alloc _).alloc _).alloc _).alloc _).alloc _).alloc _) | (repeat (first | exact hk | refine Kept.alloc ?_ _ | refine Kept.drew ?_ | refine Kept.drewN ?_ _ | refine Kept.set ?_ (by first | (simp; done) | (simp; omega) | omega) _)))⟩
set_option maxHeartbeats 4000000 in
set_option maxRecDepth 20000 in
theorem newStyle_any (w : World) :
    Calls Tryd.prog 23 #[] w fun e w' => e = .returned newS.V ∧ Kept w w' := by
  have Hs := Lib.hid (show newS.V = .agg #[.int .i64 0, .int .i64 0, .int .i64 0, .int .i64 0, .int .i64 1, .int .i64 0, .int .i64 0, .int .i64 0, .int .i64 1, .int .i64 0, .int .i64 1, .int .i64 0, .int .i64 1, .int .i64 0, .int .i64 1, .int .i64 0, .int .i64 1, .int .i64 0, .int .i64 1, .int .i64 0, .int .i64 1, .int .i64 0, .int .i64 1, .int .i64 0, .int .i64 0, .int .i64 0, .int .i64 0, .int .i64 1, .int .i64 0, .int .i64 0, .int .i64 0, .bool false] from rfl)
  have hk : Kept w w := Kept.refl w
  go_enter Tryd.func23, Tryd.ntmps23
  go_wp2_with fail
  refine with_boxes1 ?_
  intro X hX r
  have hsz := hk.size
  replace hk := hk.trans hX
  clear hX
  refine (px_any _ _).mono ?_
  rintro e w1 ⟨rfl, hn⟩
  replace hk := hk.trans hn
  replace r := r.kept hn
  clear hn
  have rl := r.lt
  go_wp2_with (first | (refine here_store 42 _ _ rfl ?_; refine wpList_store_own rfl 42 _ _ rfl _ _ rfl rfl (Own.new _ _ _) (by rfl) (by kernel_rfl) (by rfl) ?_; intro X s hoX hkX; have hsz := hk.size; replace hk := hkX _ (hk.alloc _) (by first | omega | (simp; omega)); have r_l := r.lt; replace r := (r.alloc _).same (hoX _ (by first | omega | (simp; omega))); clear hoX hkX))
  refine wp_loop_rounds 5 ?_
  rw [rounds_succ]
  go_wp2_with fail
  refine (px_any _ _).mono ?_
  rintro e w1 ⟨rfl, hn⟩
  replace hk := hk.trans hn
  replace r := r.kept hn
  replace s := s.kept hn
  clear hn
  have f0 := s.free 8
  have f1 := s.free 9
  have c0 := s.at 8 _ rfl
  have c1 := s.at 9 _ rfl
  go_wp2_with fail
  refine with_eq ?_
  intro X eX
  have hsz := hk.size
  replace hk := (eX ▸ (by first | ((repeat (first | with_reducible exact hk | with_reducible refine Kept.alloc ?_ _ | with_reducible refine Kept.drew ?_ | with_reducible refine Kept.drewN ?_ _ | with_reducible refine Kept.set ?_ (by first | (simp; done) | (simp; omega) | omega) _)); done) | exact hk | exact (hk.alloc _) | exact ((hk.alloc _).alloc _) | exact (((hk.alloc _).alloc _).alloc _) | exact ((((hk.alloc _).alloc _).alloc _).alloc _) | exact (((((hk.alloc _).alloc _).alloc _).alloc _).alloc _) | exact ((((((hk.alloc _).alloc _).alloc _).alloc _).alloc _).alloc _) | (repeat (first | exact hk | refine Kept.alloc ?_ _ | refine Kept.drew ?_ | refine Kept.drewN ?_ _ | refine Kept.set ?_ (by first | (simp; done) | (simp; omega) | omega) _))) : Kept w X)
  replace r := r.same (X := X) (by rw [eX]; repeat (first | with_reducible rfl | with_reducible refine (Below.heap_setCell _ _ _ _ (by first | omega | (simp; done) | (simp; omega))).trans ?_ | with_reducible refine (heap_drew_ _ _).trans ?_ | with_reducible refine (heap_drewN_ _ _ _).trans ?_))
  replace s : Own X _ _ #[.int .i64 0, .int .i64 0, .int .i64 0, .int .i64 0, .int .i64 1, .int .i64 0, .int .i64 0, .int .i64 0, .int .i64 1, .int .i64 0, .int .i64 0, .int .i64 0, .int .i64 0, .int .i64 0, .int .i64 0, .int .i64 0, .int .i64 0, .int .i64 0, .int .i64 0, .int .i64 0, .int .i64 0, .int .i64 0, .int .i64 0, .int .i64 0, .int .i64 0, .int .i64 0, .int .i64 0, .int .i64 1, .int .i64 0, .int .i64 0, .int .i64 0, .bool false] := eX ▸ ((((s.set 8 _).set 9 _)).is (by rfl))
  clear eX
  clear f0 f1 c0 c1
  go_wp2_with fail
  refine (px_any _ _).mono ?_
  rintro e w1 ⟨rfl, hn⟩
  replace hk := hk.trans hn
  replace r := r.kept hn
  replace s := s.kept hn
  clear hn
  have f0 := s.free 16
  have f1 := s.free 17
  have c0 := s.at 16 _ rfl
  have c1 := s.at 17 _ rfl
  go_wp2
  rw [rounds_succ]
  go_wp2_with fail
  refine with_eq ?_
  intro X eX
  have hsz := hk.size
  replace hk := (eX ▸ (by first | ((repeat (first | with_reducible exact hk | with_reducible refine Kept.alloc ?_ _ | with_reducible refine Kept.drew ?_ | with_reducible refine Kept.drewN ?_ _ | with_reducible refine Kept.set ?_ (by first | (simp; done) | (simp; omega) | omega) _)); done) | exact hk | exact (hk.alloc _) | exact ((hk.alloc _).alloc _) | exact (((hk.alloc _).alloc _).alloc _) | exact ((((hk.alloc _).alloc _).alloc _).alloc _) | exact (((((hk.alloc _).alloc _).alloc _).alloc _).alloc _) | exact ((((((hk.alloc _).alloc _).alloc _).alloc _).alloc _).alloc _) | (repeat (first | exact hk | refine Kept.alloc ?_ _ | refine Kept.drew ?_ | refine Kept.drewN ?_ _ | refine Kept.set ?_ (by first | (simp; done) | (simp; omega) | omega) _))) : Kept w X)
  replace r := r.same (X := X) (by rw [eX]; repeat (first | with_reducible rfl | with_reducible refine (Below.heap_setCell _ _ _ _ (by first | omega | (simp; done) | (simp; omega))).trans ?_ | with_reducible refine (heap_drew_ _ _).trans ?_ | with_reducible refine (heap_drewN_ _ _ _).trans ?_))
  replace s : Own X _ _ #[.int .i64 0, .int .i64 0, .int .i64 0, .int .i64 0, .int .i64 1, .int .i64 0, .int .i64 0, .int .i64 0, .int .i64 1, .int .i64 0, .int .i64 0, .int .i64 0, .int .i64 0, .int .i64 0, .int .i64 0, .int .i64 0, .int .i64 1, .int .i64 0, .int .i64 0, .int .i64 0, .int .i64 0, .int .i64 0, .int .i64 0, .int .i64 0, .int .i64 0, .int .i64 0, .int .i64 0, .int .i64 1, .int .i64 0, .int .i64 0, .int .i64 0, .bool false] := eX ▸ ((((s.set 16 _).set 17 _)).is (by rfl))
  clear eX
  clear f0 f1 c0 c1
  go_wp2_with fail
  refine (px_any _ _).mono ?_
  rintro e w1 ⟨rfl, hn⟩
  replace hk := hk.trans hn
  replace r := r.kept hn
  replace s := s.kept hn
  clear hn
  have f0 := s.free 10
  have f1 := s.free 11
  have c0 := s.at 10 _ rfl
  have c1 := s.at 11 _ rfl
  go_wp2_with fail
  refine with_eq ?_
  intro X eX
  have hsz := hk.size
  replace hk := (eX ▸ (by first | ((repeat (first | with_reducible exact hk | with_reducible refine Kept.alloc ?_ _ | with_reducible refine Kept.drew ?_ | with_reducible refine Kept.drewN ?_ _ | with_reducible refine Kept.set ?_ (by first | (simp; done) | (simp; omega) | omega) _)); done) | exact hk | exact (hk.alloc _) | exact ((hk.alloc _).alloc _) | exact (((hk.alloc _).alloc _).alloc _) | exact ((((hk.alloc _).alloc _).alloc _).alloc _) | exact (((((hk.alloc _).alloc _).alloc _).alloc _).alloc _) | exact ((((((hk.alloc _).alloc _).alloc _).alloc _).alloc _).alloc _) | (repeat (first | exact hk | refine Kept.alloc ?_ _ | refine Kept.drew ?_ | refine Kept.drewN ?_ _ | refine Kept.set ?_ (by first | (simp; done) | (simp; omega) | omega) _))) : Kept w X)
  replace r := r.same (X := X) (by rw [eX]; repeat (first | with_reducible rfl | with_reducible refine (Below.heap_setCell _ _ _ _ (by first | omega | (simp; done) | (simp; omega))).trans ?_ | with_reducible refine (heap_drew_ _ _).trans ?_ | with_reducible refine (heap_drewN_ _ _ _).trans ?_))
  replace s : Own X _ _ #[.int .i64 0, .int .i64 0, .int .i64 0, .int .i64 0, .int .i64 1, .int .i64 0, .int .i64 0, .int .i64 0, .int .i64 1, .int .i64 0, .int .i64 1, .int .i64 0, .int .i64 0, .int .i64 0, .int .i64 0, .int .i64 0, .int .i64 1, .int .i64 0, .int .i64 0, .int .i64 0, .int .i64 0, .int .i64 0, .int .i64 0, .int .i64 0, .int .i64 0, .int .i64 0, .int .i64 0, .int .i64 1, .int .i64 0, .int .i64 0, .int .i64 0, .bool false] := eX ▸ ((((s.set 10 _).set 11 _)).is (by rfl))
  clear eX
  clear f0 f1 c0 c1
  go_wp2_with fail
  refine (px_any _ _).mono ?_
  rintro e w1 ⟨rfl, hn⟩
  replace hk := hk.trans hn
  replace r := r.kept hn
  replace s := s.kept hn
  clear hn
  have f0 := s.free 18
  have f1 := s.free 19
  have c0 := s.at 18 _ rfl
  have c1 := s.at 19 _ rfl
  go_wp2
  rw [rounds_succ]
  go_wp2_with fail
  refine with_eq ?_
  intro X eX
  have hsz := hk.size
  replace hk := (eX ▸ (by first | ((repeat (first | with_reducible exact hk | with_reducible refine Kept.alloc ?_ _ | with_reducible refine Kept.drew ?_ | with_reducible refine Kept.drewN ?_ _ | with_reducible refine Kept.set ?_ (by first | (simp; done) | (simp; omega) | omega) _)); done) | exact hk | exact (hk.alloc _) | exact ((hk.alloc _).alloc _) | exact (((hk.alloc _).alloc _).alloc _) | exact ((((hk.alloc _).alloc _).alloc _).alloc _) | exact (((((hk.alloc _).alloc _).alloc _).alloc _).alloc _) | exact ((((((hk.alloc _).alloc _).alloc _).alloc _).alloc _).alloc _) | (repeat (first | exact hk | refine Kept.alloc ?_ _ | refine Kept.drew ?_ | refine Kept.drewN ?_ _ | refine Kept.set ?_ (by first | (simp; done) | (simp; omega) | omega) _))) : Kept w X)
  replace r := r.same (X := X) (by rw [eX]; repeat (first | with_reducible rfl | with_reducible refine (Below.heap_setCell _ _ _ _ (by first | omega | (simp; done) | (simp; omega))).trans ?_ | with_reducible refine (heap_drew_ _ _).trans ?_ | with_reducible refine (heap_drewN_ _ _ _).trans ?_))
  replace s : Own X _ _ #[.int .i64 0, .int .i64 0, .int .i64 0, .int .i64 0, .int .i64 1, .int .i64 0, .int .i64 0, .int .i64 0, .int .i64 1, .int .i64 0, .int .i64 1, .int .i64 0, .int .i64 0, .int .i64 0, .int .i64 0, .int .i64 0, .int .i64 1, .int .i64 0, .int .i64 1, .int .i64 0, .int .i64 0, .int .i64 0, .int .i64 0, .int .i64 0, .int .i64 0, .int .i64 0, .int .i64 0, .int .i64 1, .int .i64 0, .int .i64 0, .int .i64 0, .bool false] := eX ▸ ((((s.set 18 _).set 19 _)).is (by rfl))
  clear eX
  clear f0 f1 c0 c1
  go_wp2_with fail
  refine (px_any _ _).mono ?_
  rintro e w1 ⟨rfl, hn⟩
  replace hk := hk.trans hn
  replace r := r.kept hn
  replace s := s.kept hn
  clear hn
  have f0 := s.free 12
  have f1 := s.free 13
  have c0 := s.at 12 _ rfl
  have c1 := s.at 13 _ rfl
  go_wp2_with fail
  refine with_eq ?_
  intro X eX
  have hsz := hk.size
  replace hk := (eX ▸ (by first | ((repeat (first | with_reducible exact hk | with_reducible refine Kept.alloc ?_ _ | with_reducible refine Kept.drew ?_ | with_reducible refine Kept.drewN ?_ _ | with_reducible refine Kept.set ?_ (by first | (simp; done) | (simp; omega) | omega) _)); done) | exact hk | exact (hk.alloc _) | exact ((hk.alloc _).alloc _) | exact (((hk.alloc _).alloc _).alloc _) | exact ((((hk.alloc _).alloc _).alloc _).alloc _) | exact (((((hk.alloc _).alloc _).alloc _).alloc _).alloc _) | exact ((((((hk.alloc _).alloc _).alloc _).alloc _).alloc _).alloc _) | (repeat (first | exact hk | refine Kept.alloc ?_ _ | refine Kept.drew ?_ | refine Kept.drewN ?_ _ | refine Kept.set ?_ (by first | (simp; done) | (simp; omega) | omega) _))) : Kept w X)
  replace r := r.same (X := X) (by rw [eX]; repeat (first | with_reducible rfl | with_reducible refine (Below.heap_setCell _ _ _ _ (by first | omega | (simp; done) | (simp; omega))).trans ?_ | with_reducible refine (heap_drew_ _ _).trans ?_ | with_reducible refine (heap_drewN_ _ _ _).trans ?_))
  replace s : Own X _ _ #[.int .i64 0, .int .i64 0, .int .i64 0, .int .i64 0, .int .i64 1, .int .i64 0, .int .i64 0, .int .i64 0, .int .i64 1, .int .i64 0, .int .i64 1, .int .i64 0, .int .i64 1, .int .i64 0, .int .i64 0, .int .i64 0, .int .i64 1, .int .i64 0, .int .i64 1, .int .i64 0, .int .i64 0, .int .i64 0, .int .i64 0, .int .i64 0, .int .i64 0, .int .i64 0, .int .i64 0, .int .i64 1, .int .i64 0, .int .i64 0, .int .i64 0, .bool false] := eX ▸ ((((s.set 12 _).set 13 _)).is (by rfl))
  clear eX
  clear f0 f1 c0 c1
  go_wp2_with fail
  refine (px_any _ _).mono ?_
  rintro e w1 ⟨rfl, hn⟩
  replace hk := hk.trans hn
  replace r := r.kept hn
  replace s := s.kept hn
  clear hn
  have f0 := s.free 20
  have f1 := s.free 21
  have c0 := s.at 20 _ rfl
  have c1 := s.at 21 _ rfl
  go_wp2
  rw [rounds_succ]
  go_wp2_with fail
  refine with_eq ?_
  intro X eX
  have hsz := hk.size
  replace hk := (eX ▸ (by first | ((repeat (first | with_reducible exact hk | with_reducible refine Kept.alloc ?_ _ | with_reducible refine Kept.drew ?_ | with_reducible refine Kept.drewN ?_ _ | with_reducible refine Kept.set ?_ (by first | (simp; done) | (simp; omega) | omega) _)); done) | exact hk | exact (hk.alloc _) | exact ((hk.alloc _).alloc _) | exact (((hk.alloc _).alloc _).alloc _) | exact ((((hk.alloc _).alloc _).alloc _).alloc _) | exact (((((hk.alloc _).alloc _).alloc _).alloc _).alloc _) | exact ((((((hk.alloc _).alloc _).alloc _).alloc _).alloc _).alloc _) | (repeat (first | exact hk | refine Kept.alloc ?_ _ | refine Kept.drew ?_ | refine Kept.drewN ?_ _ | refine Kept.set ?_ (by first | (simp; done) | (simp; omega) | omega) _))) : Kept w X)
  replace r := r.same (X := X) (by rw [eX]; repeat (first | with_reducible rfl | with_reducible refine (Below.heap_setCell _ _ _ _ (by first | omega | (simp; done) | (simp; omega))).trans ?_ | with_reducible refine (heap_drew_ _ _).trans ?_ | with_reducible refine (heap_drewN_ _ _ _).trans ?_))
  replace s : Own X _ _ #[.int .i64 0, .int .i64 0, .int .i64 0, .int .i64 0, .int .i64 1, .int .i64 0, .int .i64 0, .int .i64 0, .int .i64 1, .int .i64 0, .int .i64 1, .int .i64 0, .int .i64 1, .int .i64 0, .int .i64 0, .int .i64 0, .int .i64 1, .int .i64 0, .int .i64 1, .int .i64 0, .int .i64 1, .int .i64 0, .int .i64 0, .int .i64 0, .int .i64 0, .int .i64 0, .int .i64 0, .int .i64 1, .int .i64 0, .int .i64 0, .int .i64 0, .bool false] := eX ▸ ((((s.set 20 _).set 21 _)).is (by rfl))
  clear eX
  clear f0 f1 c0 c1
  go_wp2_with fail
  refine (px_any _ _).mono ?_
  rintro e w1 ⟨rfl, hn⟩
  replace hk := hk.trans hn
  replace r := r.kept hn
  replace s := s.kept hn
  clear hn
  have f0 := s.free 14
  have f1 := s.free 15
  have c0 := s.at 14 _ rfl
  have c1 := s.at 15 _ rfl
  go_wp2_with fail
  refine with_eq ?_
  intro X eX
  have hsz := hk.size
  replace hk := (eX ▸ (by first | ((repeat (first | with_reducible exact hk | with_reducible refine Kept.alloc ?_ _ | with_reducible refine Kept.drew ?_ | with_reducible refine Kept.drewN ?_ _ | with_reducible refine Kept.set ?_ (by first | (simp; done) | (simp; omega) | omega) _)); done) | exact hk | exact (hk.alloc _) | exact ((hk.alloc _).alloc _) | exact (((hk.alloc _).alloc _).alloc _) | exact ((((hk.alloc _).alloc _).alloc _).alloc _) | exact (((((hk.alloc _).alloc _).alloc _).alloc _).alloc _) | exact ((((((hk.alloc _).alloc _).alloc _).alloc _).alloc _).alloc _) | (repeat (first | exact hk | refine Kept.alloc ?_ _ | refine Kept.drew ?_ | refine Kept.drewN ?_ _ | refine Kept.set ?_ (by first | (simp; done) | (simp; omega) | omega) _))) : Kept w X)
  replace r := r.same (X := X) (by rw [eX]; repeat (first | with_reducible rfl | with_reducible refine (Below.heap_setCell _ _ _ _ (by first | omega | (simp; done) | (simp; omega))).trans ?_ | with_reducible refine (heap_drew_ _ _).trans ?_ | with_reducible refine (heap_drewN_ _ _ _).trans ?_))
  replace s : Own X _ _ #[.int .i64 0, .int .i64 0, .int .i64 0, .int .i64 0, .int .i64 1, .int .i64 0, .int .i64 0, .int .i64 0, .int .i64 1, .int .i64 0, .int .i64 1, .int .i64 0, .int .i64 1, .int .i64 0, .int .i64 1, .int .i64 0, .int .i64 1, .int .i64 0, .int .i64 1, .int .i64 0, .int .i64 1, .int .i64 0, .int .i64 0, .int .i64 0, .int .i64 0, .int .i64 0, .int .i64 0, .int .i64 1, .int .i64 0, .int .i64 0, .int .i64 0, .bool false] := eX ▸ ((((s.set 14 _).set 15 _)).is (by rfl))
  clear eX
  clear f0 f1 c0 c1
  go_wp2_with fail
  refine (px_any _ _).mono ?_
  rintro e w1 ⟨rfl, hn⟩
  replace hk := hk.trans hn
  replace r := r.kept hn
  replace s := s.kept hn
  clear hn
  have f0 := s.free 22
  have f1 := s.free 23
  have c0 := s.at 22 _ rfl
  have c1 := s.at 23 _ rfl
  go_wp2_with fail
  refine rounds_eq ?_
  intro X eX
  have hsz := hk.size
  replace hk := (eX ▸ (by first | ((repeat (first | with_reducible exact hk | with_reducible refine Kept.alloc ?_ _ | with_reducible refine Kept.drew ?_ | with_reducible refine Kept.drewN ?_ _ | with_reducible refine Kept.set ?_ (by first | (simp; done) | (simp; omega) | omega) _)); done) | exact hk | exact (hk.alloc _) | exact ((hk.alloc _).alloc _) | exact (((hk.alloc _).alloc _).alloc _) | exact ((((hk.alloc _).alloc _).alloc _).alloc _) | exact (((((hk.alloc _).alloc _).alloc _).alloc _).alloc _) | exact ((((((hk.alloc _).alloc _).alloc _).alloc _).alloc _).alloc _) | (repeat (first | exact hk | refine Kept.alloc ?_ _ | refine Kept.drew ?_ | refine Kept.drewN ?_ _ | refine Kept.set ?_ (by first | (simp; done) | (simp; omega) | omega) _))) : Kept w X)
  replace r := r.same (X := X) (by rw [eX]; repeat (first | with_reducible rfl | with_reducible refine (Below.heap_setCell _ _ _ _ (by first | omega | (simp; done) | (simp; omega))).trans ?_ | with_reducible refine (heap_drew_ _ _).trans ?_ | with_reducible refine (heap_drewN_ _ _ _).trans ?_))
  replace s : Own X _ _ #[.int .i64 0, .int .i64 0, .int .i64 0, .int .i64 0, .int .i64 1, .int .i64 0, .int .i64 0, .int .i64 0, .int .i64 1, .int .i64 0, .int .i64 1, .int .i64 0, .int .i64 1, .int .i64 0, .int .i64 1, .int .i64 0, .int .i64 1, .int .i64 0, .int .i64 1, .int .i64 0, .int .i64 1, .int .i64 0, .int .i64 1, .int .i64 0, .int .i64 0, .int .i64 0, .int .i64 0, .int .i64 1, .int .i64 0, .int .i64 0, .int .i64 0, .bool false] := eX ▸ ((((s.set 22 _).set 23 _)).is (by rfl))
  clear eX
  clear f0 f1 c0 c1
  rw [rounds_succ]
  go_wp2_with (first | (refine here_load 42 _ rfl ?_; refine wpList_load_own rfl 42 _ rfl _ rfl s _ Tryd.underlying42 rfl (by kernel_rfl) ?_) | (refine here_store 42 _ _ rfl ?_; refine wpList_store_own rfl 42 _ _ rfl _ _ rfl rfl r (by rfl) (by kernel_rfl) (by rfl) ?_; intro X oX hoX hkX; replace hk := hkX _ hk (by first | omega | (simp; omega)); replace r := oX; replace s := s.same (hoX _ (by first | omega | (simp; omega))); clear oX hoX hkX))
  exact bodyPost_ret (results_own 42 _ Tryd.results23 rfl r Tryd.underlying42 rfl (by kernel_rfl)) rfl ⟨by rw [Hs.out], hk⟩
theorem newStyle_lit (w : World) :
    Calls Tryd.prog 23 #[] w fun e w' => e = .returned (.agg #[.int .i64 0, .int .i64 0, .int .i64 0, .int .i64 0, .int .i64 1, .int .i64 0, .int .i64 0, .int .i64 0, .int .i64 1, .int .i64 0, .int .i64 1, .int .i64 0, .int .i64 1, .int .i64 0, .int .i64 1, .int .i64 0, .int .i64 1, .int .i64 0, .int .i64 1, .int .i64 0, .int .i64 1, .int .i64 0, .int .i64 1, .int .i64 0, .int .i64 0, .int .i64 0, .int .i64 0, .int .i64 1, .int .i64 0, .int .i64 0, .int .i64 0, .bool false]) ∧ Kept w w' := newStyle_any w
end Go.Proofs.YtnbagilcbngdcaaDoor
namespace Go.Proofs.YtnbagilcbngdcaaDoor
open Go.RowKit Go.Shelf
set_option linter.unusedVariables false
def laysItoa_ren : Go.Shelf.Ren := ⟨fun | 171 => 27 | 243 => 50 | 246 => 67 | 283 => 77 | 284 => 78 | 285 => 79 | 286 => 80 | 129 => 83 | 317 => 82 | 318 => 84 | 319 => 85 | 320 => 86 | 337 => 88 | 338 => 89 | n => n, fun | 3 => 3 | 9 => 9 | 2 => 2 | 4 => 4 | 171 => 106 | 0 => 0 | 53 => 79 | 37 => 80 | 5 => 5 | 173 => 109 | 212 => 113 | 51 => 114 | 20 => 20 | 213 => 115 | 46 => 33 | 232 => 120 | 233 => 121 | n => n, fun | 17 => 1 | 18 => 4 | 19 => 5 | n => n⟩
theorem laysItoa : Go.Proofs.LaysM.n171 Tryd.prog laysItoa_ren :=
  { mixed := by kernel_rfl
    f129 := Tryd.func83.trans (congrArg some (by kernel_rfl))
    f171 := Tryd.func27.trans (congrArg some (by kernel_rfl))
    f243 := Tryd.func50.trans (congrArg some (by kernel_rfl))
    f246 := Tryd.func67.trans (congrArg some (by kernel_rfl))
    f283 := Tryd.func77.trans (congrArg some (by kernel_rfl))
    f284 := Tryd.func78.trans (congrArg some (by kernel_rfl))
    f285 := Tryd.func79.trans (congrArg some (by kernel_rfl))
    f286 := Tryd.func80.trans (congrArg some (by kernel_rfl))
    f317 := Tryd.func82.trans (congrArg some (by kernel_rfl))
    f318 := Tryd.func84.trans (congrArg some (by kernel_rfl))
    f319 := Tryd.func85.trans (congrArg some (by kernel_rfl))
    f320 := Tryd.func86.trans (congrArg some (by kernel_rfl))
    f337 := Tryd.func88.trans (congrArg some (by kernel_rfl))
    f338 := Tryd.func89.trans (congrArg some (by kernel_rfl))
    t0 := Tryd.underlying0
    a0 := Tryd.isAgg0
    z0 := Tryd.sizeOf0
    v0 := Tryd.zeroValue0
    t2 := Tryd.underlying2
    a2 := Tryd.isAgg2
    z2 := Tryd.sizeOf2
    v2 := Tryd.zeroValue2
    t3 := Tryd.underlying3
    a3 := Tryd.isAgg3
    z3 := Tryd.sizeOf3
    v3 := Tryd.zeroValue3
    t4 := Tryd.underlying4
    a4 := Tryd.isAgg4
    z4 := Tryd.sizeOf4
    v4 := Tryd.zeroValue4
    t5 := Tryd.underlying5
    a5 := Tryd.isAgg5
    z5 := Tryd.sizeOf5
    v5 := Tryd.zeroValue5
    t9 := Tryd.underlying9
    a9 := Tryd.isAgg9
    z9 := Tryd.sizeOf9
    v9 := Tryd.zeroValue9
    t20 := Tryd.underlying20
    a20 := Tryd.isAgg20
    z20 := Tryd.sizeOf20
    v20 := Tryd.zeroValue20
    t37 := Tryd.underlying80
    a37 := Tryd.isAgg80
    z37 := Tryd.sizeOf80
    v37 := Tryd.zeroValue80
    t46 := Tryd.underlying33
    a46 := Tryd.isAgg33
    z46 := Tryd.sizeOf33
    v46 := Tryd.zeroValue33
    t51 := Tryd.underlying114
    a51 := Tryd.isAgg114
    z51 := Tryd.sizeOf114
    v51 := Tryd.zeroValue114
    t53 := Tryd.underlying79
    a53 := Tryd.isAgg79
    z53 := Tryd.sizeOf79
    v53 := Tryd.zeroValue79
    t171 := Tryd.underlying106
    a171 := Tryd.isAgg106
    z171 := Tryd.sizeOf106
    v171 := Tryd.zeroValue106
    t173 := Tryd.underlying109
    a173 := Tryd.isAgg109
    z173 := Tryd.sizeOf109
    v173 := Tryd.zeroValue109
    t212 := Tryd.underlying113
    a212 := Tryd.isAgg113
    z212 := Tryd.sizeOf113
    v212 := Tryd.zeroValue113
    t213 := Tryd.underlying115
    a213 := Tryd.isAgg115
    z213 := Tryd.sizeOf115
    t232 := Tryd.underlying120
    a232 := Tryd.isAgg120
    z232 := Tryd.sizeOf120
    v232 := Tryd.zeroValue120
    t233 := Tryd.underlying121
    a233 := Tryd.isAgg121
    z233 := Tryd.sizeOf121
    v233 := Tryd.zeroValue121
    g17 := by kernel_rfl
    g18 := by kernel_rfl
    g19 := by kernel_rfl
    i0 := by kernel_rfl
    i2 := by kernel_rfl
    i3 := by kernel_rfl
    i4 := by kernel_rfl
    i5 := by kernel_rfl
    i9 := by kernel_rfl
    i20 := by kernel_rfl
    i37 := by kernel_rfl
    i46 := by kernel_rfl
    i51 := by kernel_rfl
    i53 := by kernel_rfl
    i171 := by kernel_rfl
    i173 := by kernel_rfl
    i212 := by kernel_rfl
    i232 := by kernel_rfl
    i233 := by kernel_rfl
    m17 := by kernel_rfl
    m18 := by kernel_rfl
    m19 := by kernel_rfl }
/-- the library's table stands -/
def Pow (w : World) : Prop := Lib.TabIs Tryd.prog w "internal/strconv.uint64pow10" .u64 Lib.pow10Tab
theorem itoa_any (n : Int) (h0 : -9223372036854775808 ≤ n) (h1 : n ≤ 9223372036854775807) (w : World) (hp : Pow w) :
    Calls Tryd.prog 27 #[.int .i64 n] w fun e w' => e = .returned (.string ⟨(Lib.itoa n).toArray⟩) ∧ Kept w w' :=
  (Any.strconv_Itoa laysItoa n h0 h1 w hp).mono fun e w' ⟨he, k, os, hw⟩ => ⟨he, by rw [hw]; exact ⟨Lib.below_grow _ _ (Nat.le_refl _) _ _⟩⟩
end Go.Proofs.YtnbagilcbngdcaaDoor
namespace Go.Proofs.YtnbagilcbngdcaaDoor
open Go.RowKit
theorem num_any (x : Int) (w : World) :
    Calls Tryd.prog 13 #[.int .i64 x] w fun e w' => e = .returned (.int .i64 x) ∧ w = w' := by
  go_enter Tryd.func13, Tryd.ntmps13
  go_wp2
  go_ret
  exact ⟨rfl, rfl⟩
end Go.Proofs.YtnbagilcbngdcaaDoor
