/- Words that every text of this seat uses: the world keeps what it held; numbers that lie in a block. -/
import Derived.Test.YtpblajjfgnhkdaaDoorRows
import Derived.WalkKit
import Derived.ProofKit
import Derived.OpenShut
import Derived.Lib.Hide
import Derived.Deep.Draws
namespace Go.Proofs.YtpblajjfgnhkdaaDoor
open Go.RowKit
theorem ret_bool {a b : Bool} (h : a = b) : Ending.returned (.bool a) = .returned (.bool b) := by rw [h]
theorem ret_int {k : IntKind} {a b : Int} (h : a = b) : Ending.returned (.int k a) = .returned (.int k b) := by rw [h]
theorem ret_two {k l : IntKind} {a b c d : Int} (h : a = c) (g : b = d) : Ending.returned (.tuple #[.int k a, .int l b]) = .returned (.tuple #[.int k c, .int l d]) := by rw [h, g]
/-- what the world held it holds -/
structure Kept (w w' : World) : Prop where
  below : Below w.heap.size w w'
theorem Kept.refl (w : World) : Kept w w := ⟨Below.refl _ _⟩
theorem Kept.size {w w' : World} (h : Kept w w') : w.heap.size ≤ w'.heap.size := Below.size h.below
theorem Kept.trans {a b c : World} (h : Kept a b) (k : Kept b c) : Kept a c := ⟨Below.trans h.below (Below.mono k.below h.size)⟩
theorem Kept.alloc {a w : World} (h : Kept a w) (o : Obj) : Kept a (w.alloc o) := ⟨Below.alloc h.below h.size o⟩
theorem Kept.drew {a w : World} (h : Kept a w) : Kept a w.drew := ⟨Below.drew h.below⟩
theorem Kept.drewN {a w : World} (h : Kept a w) (n : Nat) : Kept a (w.drewN n) := ⟨⟨h.below.os, h.below.tape, h.below.output, h.below.size, h.below.block⟩⟩
theorem Kept.cell {w w' : World} (h : Kept w w') {p : Addr} (hp : p.block < w.heap.size) : w'.cell? p = w.cell? p := Below.cell h.below hp
/-- numbers that lie in a row in a block -/
def Ints (w : World) (b off : Nat) (zs : List Int) : Prop := ∀ j, j < zs.length → w.cell? ⟨b, off + j, none⟩ = some (.int .i64 (zs.getD j 0))
theorem Ints.new (w : World) (t : TypeId) (zs : List Int) : Ints (w.alloc (.cells (zs.map (Value.int .i64)).toArray t)) w.heap.size 0 zs := by
  intro j hj
  rw [World.cell?_alloc_at _ _ _ _ rfl]
  simp [List.getD_eq_getElem?_getD, List.getElem?_eq_getElem hj]
theorem cell_at (w : World) (cs : Array Value) (t : TypeId) (b i : Nat) (v : Value) (hb : b = w.heap.size) (hv : cs[i]? = some v) : (w.alloc (.cells cs t)).cell? ⟨b, i, none⟩ = some v := by
  rw [World.cell?_alloc_at _ _ _ _ hb]; exact hv
theorem lit_cells (w : World) (cs : Array Value) (t : TypeId) : ∀ j u, cs.toList[j]? = some u → (w.alloc (.cells cs t)).cell? ((⟨w.heap.size, 0, none⟩ : Addr).add j) = some u := by
  intro j u hu
  have e : ((⟨w.heap.size, 0, none⟩ : Addr).add j) = ⟨w.heap.size, j, none⟩ := by
    unfold Addr.add
    by_cases h : j = 0
    · subst h; rfl
    · rw [if_neg h]; simp
  rw [e]
  exact cell_at w cs t _ j u rfl (by simpa using hu)
theorem Kept.grown {a w w' : World} (h : Kept a w) {row : Option Nat} (hg : w.grownBy w' row) (hr : ∀ k, row = some k → a.heap.size ≤ k) : Kept a w' := ⟨Below.grown h.below hg h.size hr⟩
theorem row_ge {w : World} {base : Nat} {e : TypeId} {size : Nat} {v : Value} {n : Nat} {xs : List Value} (h : w.ownsRow base e size v n xs) : ∀ k, v.ownBlock = some k → base ≤ k := fun k hk => (h.lt k hk).1
/-- a block that holds these cells from its beginning on -/
structure Boxed (w : World) (b : Nat) (xs : List Value) : Prop where
  lt : b < w.heap.size
  cell : ∀ j u, xs[j]? = some u → w.cell? ⟨b, j, none⟩ = some u
theorem Boxed.kept {w w' : World} {b : Nat} {xs : List Value} (h : Boxed w b xs) (k : Kept w w') : Boxed w' b xs :=
  ⟨Nat.lt_of_lt_of_le h.lt k.size, fun j u hu => (k.cell h.lt).trans (h.cell j u hu)⟩
theorem Boxed.alloc {w : World} {b : Nat} {xs : List Value} (h : Boxed w b xs) (o : Obj) : Boxed (w.alloc o) b xs := h.kept ((Kept.refl w).alloc o)
theorem Boxed.new (w : World) (cs : Array Value) (t : TypeId) : Boxed (w.alloc (.cells cs t)) w.heap.size cs.toList :=
  ⟨by simp, fun j u hu => cell_at w cs t _ j u rfl (by simpa using hu)⟩
/-- at a call: the newest block is known -/
theorem with_box {P : Program} {f : FuncId} {args : Array Value} {R : Ending → World → Prop} {W : World} {cs : Array Value} {t : TypeId}
    (h : Boxed (W.alloc (.cells cs t)) W.heap.size cs.toList → Calls P f args (W.alloc (.cells cs t)) R) : Calls P f args (W.alloc (.cells cs t)) R := h (Boxed.new W cs t)
/-- a block of the call's own, known whole -/
structure Own (w : World) (b : Nat) (t : TypeId) (cs : Array Value) : Prop where
  whole : w.heap[b]? = some (.cells cs t (0, 0))
theorem Own.lt {w : World} {b : Nat} {t : TypeId} {cs : Array Value} (h : Own w b t cs) : b < w.heap.size := (Array.getElem?_eq_some_iff.1 h.whole).1
theorem Own.cell {w : World} {b : Nat} {t : TypeId} {cs : Array Value} (h : Own w b t cs) (i : Nat) : w.cell? ⟨b, i, none⟩ = cs[i]? := by
  unfold World.cell?; simp [h.whole]
theorem Own.at {w : World} {b : Nat} {t : TypeId} {cs : Array Value} (h : Own w b t cs) : ∀ j u, cs.toList[j]? = some u → w.cell? ⟨b, j, none⟩ = some u := fun j u hu => by rw [h.cell]; simpa using hu
theorem Own.free {w : World} {b : Nat} {t : TypeId} {cs : Array Value} (h : Own w b t cs) (i : Nat) : w.frozen? ⟨b, i, none⟩ = false := by
  unfold World.frozen?; simp [h.whole]
theorem Own.kept {w w' : World} {b : Nat} {t : TypeId} {cs : Array Value} (h : Own w b t cs) (k : Kept w w') : Own w' b t cs := ⟨(k.below.block b h.lt).trans h.whole⟩
theorem Own.alloc {w : World} {b : Nat} {t : TypeId} {cs : Array Value} (h : Own w b t cs) (o : Obj) : Own (w.alloc o) b t cs := h.kept ((Kept.refl w).alloc o)
theorem Own.drew {w : World} {b : Nat} {t : TypeId} {cs : Array Value} (h : Own w b t cs) : Own w.drew b t cs := ⟨h.whole⟩
theorem Own.drewN {w : World} {b : Nat} {t : TypeId} {cs : Array Value} (h : Own w b t cs) (n : Nat) : Own (w.drewN n) b t cs := ⟨h.whole⟩
theorem Own.same {w X : World} {b : Nat} {t : TypeId} {cs : Array Value} (h : Own w b t cs) (e : X.heap[b]? = w.heap[b]?) : Own X b t cs := ⟨e.trans h.whole⟩
theorem Own.new (w : World) (cs : Array Value) (t : TypeId) : Own (w.alloc (.cells cs t)) w.heap.size t cs := ⟨heap_alloc_new w _⟩
theorem Own.set {w : World} {b : Nat} {t : TypeId} {cs : Array Value} (h : Own w b t cs) (i : Nat) (v : Value) : Own (w.setCell ⟨b, i, none⟩ v) b t (cs.setIfInBounds i v) :=
  ⟨by unfold World.setCell; simp [Array.getElem?_modify, h.whole]⟩
theorem Own.other {w : World} {b : Nat} {t : TypeId} {cs : Array Value} (h : Own w b t cs) {p : Addr} (hp : b ≠ p.block) (v : Value) : Own (w.setCell p v) b t cs :=
  ⟨(Below.heap_setCell w p v b hp).trans h.whole⟩
theorem Own.boxed {w : World} {b : Nat} {t : TypeId} {cs : Array Value} (h : Own w b t cs) : Boxed w b cs.toList :=
  ⟨h.lt, fun j u hu => by rw [h.cell]; simpa using hu⟩
theorem Kept.set {a w : World} (h : Kept a w) {p : Addr} (hp : a.heap.size ≤ p.block) (v : Value) : Kept a (w.setCell p v) := ⟨Below.setCell h.below hp v⟩
end Go.Proofs.YtpblajjfgnhkdaaDoor
