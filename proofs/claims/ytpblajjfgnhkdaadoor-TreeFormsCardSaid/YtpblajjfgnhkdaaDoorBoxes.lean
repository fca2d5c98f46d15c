/- New blocks in a row, and a world of its own name behind them. -/
import Derived.Test.YtpblajjfgnhkdaaDoorBase
namespace Go.Proofs.YtpblajjfgnhkdaaDoor
open Go.RowKit
theorem Own.at_ (w : World) (cs : Array Value) (t : TypeId) {b : Nat} (hb : b = w.heap.size) : Own (w.alloc (.cells cs t)) b t cs := by subst hb; exact Own.new w cs t
theorem Own.is {w : World} {b : Nat} {t : TypeId} {cs ds : Array Value} (h : Own w b t cs) (e : cs = ds) : Own w b t ds := e ▸ h
theorem heap_drew_ (w : World) (b : Nat) : w.drew.heap[b]? = w.heap[b]? := rfl
theorem heap_drewN_ (w : World) (n b : Nat) : (w.drewN n).heap[b]? = w.heap[b]? := rfl
theorem with_eq {P : Program} {f : FuncId} {args : Array Value} {R : Ending → World → Prop} {w : World} (h : ∀ X, X = w → Calls P f args X R) : Calls P f args w R := h _ rfl
theorem code_eq {P : Program} {c : Code} {Q : Exit → Act → World → Prop} {a : Act} {w : World} (h : ∀ X, X = w → c.wp P Q a X) : c.wp P Q a w := h _ rfl
/-- at a call behind a store: the world has a name of its own -/
theorem with_set {P : Program} {f : FuncId} {args : Array Value} {R : Ending → World → Prop} {w : World} {p : Addr} {v : Value}
    (h : ∀ X, X = w.setCell p v → Calls P f args X R) : Calls P f args (w.setCell p v) R := h _ rfl
theorem Kept.new {w w' : World} {o : Obj} (k : Kept (w.alloc o) w') : Kept w w' := ((Kept.refl w).alloc o).trans k
theorem boxes1 (w : World) (c0 : Array Value) (t0 : TypeId) : ∃ X, X = (w.alloc (.cells c0 t0)) ∧ Kept w X ∧ Own X (w.heap.size) t0 c0 :=
  ⟨_, rfl, ((Kept.refl w).alloc _), (Own.at_ w c0 t0 rfl)⟩
theorem with_boxes1 {P : Program} {f : FuncId} {args : Array Value} {R : Ending → World → Prop} {w : World} {c0 : Array Value} {t0 : TypeId}
    (h : ∀ X, Kept w X → Own X (w.heap.size) t0 c0 → Calls P f args X R) : Calls P f args (w.alloc (.cells c0 t0)) R := by
  obtain ⟨X, e, k, b0⟩ := boxes1 w c0 t0
  rw [← e]; exact h X k b0
theorem code_boxes1 {P : Program} {c : Code} {Q : Exit → Act → World → Prop} {a : Act} {w : World} {c0 : Array Value} {t0 : TypeId}
    (h : ∀ X, Kept w X → Own X (w.heap.size) t0 c0 → c.wp P Q a X) : c.wp P Q a (w.alloc (.cells c0 t0)) := by
  obtain ⟨X, e, k, b0⟩ := boxes1 w c0 t0
  rw [← e]; exact h X k b0
theorem boxes2 (w : World) (c0 c1 : Array Value) (t0 t1 : TypeId) : ∃ X, X = ((w.alloc (.cells c0 t0)).alloc (.cells c1 t1)) ∧ Kept w X ∧ Own X (w.heap.size) t0 c0 ∧ Own X (w.heap.size + 1) t1 c1 :=
  ⟨_, rfl, (((Kept.refl w).alloc _).alloc _), ((Own.at_ w c0 t0 rfl).alloc _), (Own.at_ (w.alloc (.cells c0 t0)) c1 t1 (by simp only [World.size_alloc]))⟩
theorem with_boxes2 {P : Program} {f : FuncId} {args : Array Value} {R : Ending → World → Prop} {w : World} {c0 c1 : Array Value} {t0 t1 : TypeId}
    (h : ∀ X, Kept w X → Own X (w.heap.size) t0 c0 → Own X (w.heap.size + 1) t1 c1 → Calls P f args X R) : Calls P f args ((w.alloc (.cells c0 t0)).alloc (.cells c1 t1)) R := by
  obtain ⟨X, e, k, b0, b1⟩ := boxes2 w c0 c1 t0 t1
  rw [← e]; exact h X k b0 b1
theorem code_boxes2 {P : Program} {c : Code} {Q : Exit → Act → World → Prop} {a : Act} {w : World} {c0 c1 : Array Value} {t0 t1 : TypeId}
    (h : ∀ X, Kept w X → Own X (w.heap.size) t0 c0 → Own X (w.heap.size + 1) t1 c1 → c.wp P Q a X) : c.wp P Q a ((w.alloc (.cells c0 t0)).alloc (.cells c1 t1)) := by
  obtain ⟨X, e, k, b0, b1⟩ := boxes2 w c0 c1 t0 t1
  rw [← e]; exact h X k b0 b1
theorem boxes3 (w : World) (c0 c1 c2 : Array Value) (t0 t1 t2 : TypeId) : ∃ X, X = (((w.alloc (.cells c0 t0)).alloc (.cells c1 t1)).alloc (.cells c2 t2)) ∧ Kept w X ∧ Own X (w.heap.size) t0 c0 ∧ Own X (w.heap.size + 1) t1 c1 ∧ Own X (w.heap.size + 1 + 1) t2 c2 :=
  ⟨_, rfl, ((((Kept.refl w).alloc _).alloc _).alloc _), (((Own.at_ w c0 t0 rfl).alloc _).alloc _), ((Own.at_ (w.alloc (.cells c0 t0)) c1 t1 (by simp only [World.size_alloc])).alloc _), (Own.at_ ((w.alloc (.cells c0 t0)).alloc (.cells c1 t1)) c2 t2 (by simp only [World.size_alloc]))⟩
theorem with_boxes3 {P : Program} {f : FuncId} {args : Array Value} {R : Ending → World → Prop} {w : World} {c0 c1 c2 : Array Value} {t0 t1 t2 : TypeId}
    (h : ∀ X, Kept w X → Own X (w.heap.size) t0 c0 → Own X (w.heap.size + 1) t1 c1 → Own X (w.heap.size + 1 + 1) t2 c2 → Calls P f args X R) : Calls P f args (((w.alloc (.cells c0 t0)).alloc (.cells c1 t1)).alloc (.cells c2 t2)) R := by
  obtain ⟨X, e, k, b0, b1, b2⟩ := boxes3 w c0 c1 c2 t0 t1 t2
  rw [← e]; exact h X k b0 b1 b2
theorem code_boxes3 {P : Program} {c : Code} {Q : Exit → Act → World → Prop} {a : Act} {w : World} {c0 c1 c2 : Array Value} {t0 t1 t2 : TypeId}
    (h : ∀ X, Kept w X → Own X (w.heap.size) t0 c0 → Own X (w.heap.size + 1) t1 c1 → Own X (w.heap.size + 1 + 1) t2 c2 → c.wp P Q a X) : c.wp P Q a (((w.alloc (.cells c0 t0)).alloc (.cells c1 t1)).alloc (.cells c2 t2)) := by
  obtain ⟨X, e, k, b0, b1, b2⟩ := boxes3 w c0 c1 c2 t0 t1 t2
  rw [← e]; exact h X k b0 b1 b2
theorem boxes4 (w : World) (c0 c1 c2 c3 : Array Value) (t0 t1 t2 t3 : TypeId) : ∃ X, X = ((((w.alloc (.cells c0 t0)).alloc (.cells c1 t1)).alloc (.cells c2 t2)).alloc (.cells c3 t3)) ∧ Kept w X ∧ Own X (w.heap.size) t0 c0 ∧ Own X (w.heap.size + 1) t1 c1 ∧ Own X (w.heap.size + 1 + 1) t2 c2 ∧ Own X (w.heap.size + 1 + 1 + 1) t3 c3 :=
  ⟨_, rfl, (((((Kept.refl w).alloc _).alloc _).alloc _).alloc _), ((((Own.at_ w c0 t0 rfl).alloc _).alloc _).alloc _), (((Own.at_ (w.alloc (.cells c0 t0)) c1 t1 (by simp only [World.size_alloc])).alloc _).alloc _), ((Own.at_ ((w.alloc (.cells c0 t0)).alloc (.cells c1 t1)) c2 t2 (by simp only [World.size_alloc])).alloc _), (Own.at_ (((w.alloc (.cells c0 t0)).alloc (.cells c1 t1)).alloc (.cells c2 t2)) c3 t3 (by simp only [World.size_alloc]))⟩
theorem with_boxes4 {P : Program} {f : FuncId} {args : Array Value} {R : Ending → World → Prop} {w : World} {c0 c1 c2 c3 : Array Value} {t0 t1 t2 t3 : TypeId}
    (h : ∀ X, Kept w X → Own X (w.heap.size) t0 c0 → Own X (w.heap.size + 1) t1 c1 → Own X (w.heap.size + 1 + 1) t2 c2 → Own X (w.heap.size + 1 + 1 + 1) t3 c3 → Calls P f args X R) : Calls P f args ((((w.alloc (.cells c0 t0)).alloc (.cells c1 t1)).alloc (.cells c2 t2)).alloc (.cells c3 t3)) R := by
  obtain ⟨X, e, k, b0, b1, b2, b3⟩ := boxes4 w c0 c1 c2 c3 t0 t1 t2 t3
  rw [← e]; exact h X k b0 b1 b2 b3
theorem code_boxes4 {P : Program} {c : Code} {Q : Exit → Act → World → Prop} {a : Act} {w : World} {c0 c1 c2 c3 : Array Value} {t0 t1 t2 t3 : TypeId}
    (h : ∀ X, Kept w X → Own X (w.heap.size) t0 c0 → Own X (w.heap.size + 1) t1 c1 → Own X (w.heap.size + 1 + 1) t2 c2 → Own X (w.heap.size + 1 + 1 + 1) t3 c3 → c.wp P Q a X) : c.wp P Q a ((((w.alloc (.cells c0 t0)).alloc (.cells c1 t1)).alloc (.cells c2 t2)).alloc (.cells c3 t3)) := by
  obtain ⟨X, e, k, b0, b1, b2, b3⟩ := boxes4 w c0 c1 c2 c3 t0 t1 t2 t3
  rw [← e]; exact h X k b0 b1 b2 b3
theorem boxes5 (w : World) (c0 c1 c2 c3 c4 : Array Value) (t0 t1 t2 t3 t4 : TypeId) : ∃ X, X = (((((w.alloc (.cells c0 t0)).alloc (.cells c1 t1)).alloc (.cells c2 t2)).alloc (.cells c3 t3)).alloc (.cells c4 t4)) ∧ Kept w X ∧ Own X (w.heap.size) t0 c0 ∧ Own X (w.heap.size + 1) t1 c1 ∧ Own X (w.heap.size + 1 + 1) t2 c2 ∧ Own X (w.heap.size + 1 + 1 + 1) t3 c3 ∧ Own X (w.heap.size + 1 + 1 + 1 + 1) t4 c4 :=
  ⟨_, rfl, ((((((Kept.refl w).alloc _).alloc _).alloc _).alloc _).alloc _), (((((Own.at_ w c0 t0 rfl).alloc _).alloc _).alloc _).alloc _), ((((Own.at_ (w.alloc (.cells c0 t0)) c1 t1 (by simp only [World.size_alloc])).alloc _).alloc _).alloc _), (((Own.at_ ((w.alloc (.cells c0 t0)).alloc (.cells c1 t1)) c2 t2 (by simp only [World.size_alloc])).alloc _).alloc _), ((Own.at_ (((w.alloc (.cells c0 t0)).alloc (.cells c1 t1)).alloc (.cells c2 t2)) c3 t3 (by simp only [World.size_alloc])).alloc _), (Own.at_ ((((w.alloc (.cells c0 t0)).alloc (.cells c1 t1)).alloc (.cells c2 t2)).alloc (.cells c3 t3)) c4 t4 (by simp only [World.size_alloc]))⟩
theorem with_boxes5 {P : Program} {f : FuncId} {args : Array Value} {R : Ending → World → Prop} {w : World} {c0 c1 c2 c3 c4 : Array Value} {t0 t1 t2 t3 t4 : TypeId}
    (h : ∀ X, Kept w X → Own X (w.heap.size) t0 c0 → Own X (w.heap.size + 1) t1 c1 → Own X (w.heap.size + 1 + 1) t2 c2 → Own X (w.heap.size + 1 + 1 + 1) t3 c3 → Own X (w.heap.size + 1 + 1 + 1 + 1) t4 c4 → Calls P f args X R) : Calls P f args (((((w.alloc (.cells c0 t0)).alloc (.cells c1 t1)).alloc (.cells c2 t2)).alloc (.cells c3 t3)).alloc (.cells c4 t4)) R := by
  obtain ⟨X, e, k, b0, b1, b2, b3, b4⟩ := boxes5 w c0 c1 c2 c3 c4 t0 t1 t2 t3 t4
  rw [← e]; exact h X k b0 b1 b2 b3 b4
theorem code_boxes5 {P : Program} {c : Code} {Q : Exit → Act → World → Prop} {a : Act} {w : World} {c0 c1 c2 c3 c4 : Array Value} {t0 t1 t2 t3 t4 : TypeId}
    (h : ∀ X, Kept w X → Own X (w.heap.size) t0 c0 → Own X (w.heap.size + 1) t1 c1 → Own X (w.heap.size + 1 + 1) t2 c2 → Own X (w.heap.size + 1 + 1 + 1) t3 c3 → Own X (w.heap.size + 1 + 1 + 1 + 1) t4 c4 → c.wp P Q a X) : c.wp P Q a (((((w.alloc (.cells c0 t0)).alloc (.cells c1 t1)).alloc (.cells c2 t2)).alloc (.cells c3 t3)).alloc (.cells c4 t4)) := by
  obtain ⟨X, e, k, b0, b1, b2, b3, b4⟩ := boxes5 w c0 c1 c2 c3 c4 t0 t1 t2 t3 t4
  rw [← e]; exact h X k b0 b1 b2 b3 b4
theorem boxes6 (w : World) (c0 c1 c2 c3 c4 c5 : Array Value) (t0 t1 t2 t3 t4 t5 : TypeId) : ∃ X, X = ((((((w.alloc (.cells c0 t0)).alloc (.cells c1 t1)).alloc (.cells c2 t2)).alloc (.cells c3 t3)).alloc (.cells c4 t4)).alloc (.cells c5 t5)) ∧ Kept w X ∧ Own X (w.heap.size) t0 c0 ∧ Own X (w.heap.size + 1) t1 c1 ∧ Own X (w.heap.size + 1 + 1) t2 c2 ∧ Own X (w.heap.size + 1 + 1 + 1) t3 c3 ∧ Own X (w.heap.size + 1 + 1 + 1 + 1) t4 c4 ∧ Own X (w.heap.size + 1 + 1 + 1 + 1 + 1) t5 c5 :=
  ⟨_, rfl, (((((((Kept.refl w).alloc _).alloc _).alloc _).alloc _).alloc _).alloc _), ((((((Own.at_ w c0 t0 rfl).alloc _).alloc _).alloc _).alloc _).alloc _), (((((Own.at_ (w.alloc (.cells c0 t0)) c1 t1 (by simp only [World.size_alloc])).alloc _).alloc _).alloc _).alloc _), ((((Own.at_ ((w.alloc (.cells c0 t0)).alloc (.cells c1 t1)) c2 t2 (by simp only [World.size_alloc])).alloc _).alloc _).alloc _), (((Own.at_ (((w.alloc (.cells c0 t0)).alloc (.cells c1 t1)).alloc (.cells c2 t2)) c3 t3 (by simp only [World.size_alloc])).alloc _).alloc _), ((Own.at_ ((((w.alloc (.cells c0 t0)).alloc (.cells c1 t1)).alloc (.cells c2 t2)).alloc (.cells c3 t3)) c4 t4 (by simp only [World.size_alloc])).alloc _), (Own.at_ (((((w.alloc (.cells c0 t0)).alloc (.cells c1 t1)).alloc (.cells c2 t2)).alloc (.cells c3 t3)).alloc (.cells c4 t4)) c5 t5 (by simp only [World.size_alloc]))⟩
theorem with_boxes6 {P : Program} {f : FuncId} {args : Array Value} {R : Ending → World → Prop} {w : World} {c0 c1 c2 c3 c4 c5 : Array Value} {t0 t1 t2 t3 t4 t5 : TypeId}
    (h : ∀ X, Kept w X → Own X (w.heap.size) t0 c0 → Own X (w.heap.size + 1) t1 c1 → Own X (w.heap.size + 1 + 1) t2 c2 → Own X (w.heap.size + 1 + 1 + 1) t3 c3 → Own X (w.heap.size + 1 + 1 + 1 + 1) t4 c4 → Own X (w.heap.size + 1 + 1 + 1 + 1 + 1) t5 c5 → Calls P f args X R) : Calls P f args ((((((w.alloc (.cells c0 t0)).alloc (.cells c1 t1)).alloc (.cells c2 t2)).alloc (.cells c3 t3)).alloc (.cells c4 t4)).alloc (.cells c5 t5)) R := by
  obtain ⟨X, e, k, b0, b1, b2, b3, b4, b5⟩ := boxes6 w c0 c1 c2 c3 c4 c5 t0 t1 t2 t3 t4 t5
  rw [← e]; exact h X k b0 b1 b2 b3 b4 b5
theorem code_boxes6 {P : Program} {c : Code} {Q : Exit → Act → World → Prop} {a : Act} {w : World} {c0 c1 c2 c3 c4 c5 : Array Value} {t0 t1 t2 t3 t4 t5 : TypeId}
    (h : ∀ X, Kept w X → Own X (w.heap.size) t0 c0 → Own X (w.heap.size + 1) t1 c1 → Own X (w.heap.size + 1 + 1) t2 c2 → Own X (w.heap.size + 1 + 1 + 1) t3 c3 → Own X (w.heap.size + 1 + 1 + 1 + 1) t4 c4 → Own X (w.heap.size + 1 + 1 + 1 + 1 + 1) t5 c5 → c.wp P Q a X) : c.wp P Q a ((((((w.alloc (.cells c0 t0)).alloc (.cells c1 t1)).alloc (.cells c2 t2)).alloc (.cells c3 t3)).alloc (.cells c4 t4)).alloc (.cells c5 t5)) := by
  obtain ⟨X, e, k, b0, b1, b2, b3, b4, b5⟩ := boxes6 w c0 c1 c2 c3 c4 c5 t0 t1 t2 t3 t4 t5
  rw [← e]; exact h X k b0 b1 b2 b3 b4 b5
theorem boxes7 (w : World) (c0 c1 c2 c3 c4 c5 c6 : Array Value) (t0 t1 t2 t3 t4 t5 t6 : TypeId) : ∃ X, X = (((((((w.alloc (.cells c0 t0)).alloc (.cells c1 t1)).alloc (.cells c2 t2)).alloc (.cells c3 t3)).alloc (.cells c4 t4)).alloc (.cells c5 t5)).alloc (.cells c6 t6)) ∧ Kept w X ∧ Own X (w.heap.size) t0 c0 ∧ Own X (w.heap.size + 1) t1 c1 ∧ Own X (w.heap.size + 1 + 1) t2 c2 ∧ Own X (w.heap.size + 1 + 1 + 1) t3 c3 ∧ Own X (w.heap.size + 1 + 1 + 1 + 1) t4 c4 ∧ Own X (w.heap.size + 1 + 1 + 1 + 1 + 1) t5 c5 ∧ Own X (w.heap.size + 1 + 1 + 1 + 1 + 1 + 1) t6 c6 :=
  ⟨_, rfl, ((((((((Kept.refl w).alloc _).alloc _).alloc _).alloc _).alloc _).alloc _).alloc _), (((((((Own.at_ w c0 t0 rfl).alloc _).alloc _).alloc _).alloc _).alloc _).alloc _), ((((((Own.at_ (w.alloc (.cells c0 t0)) c1 t1 (by simp only [World.size_alloc])).alloc _).alloc _).alloc _).alloc _).alloc _), (((((Own.at_ ((w.alloc (.cells c0 t0)).alloc (.cells c1 t1)) c2 t2 (by simp only [World.size_alloc])).alloc _).alloc _).alloc _).alloc _), ((((Own.at_ (((w.alloc (.cells c0 t0)).alloc (.cells c1 t1)).alloc (.cells c2 t2)) c3 t3 (by simp only [World.size_alloc])).alloc _).alloc _).alloc _), (((Own.at_ ((((w.alloc (.cells c0 t0)).alloc (.cells c1 t1)).alloc (.cells c2 t2)).alloc (.cells c3 t3)) c4 t4 (by simp only [World.size_alloc])).alloc _).alloc _), ((Own.at_ (((((w.alloc (.cells c0 t0)).alloc (.cells c1 t1)).alloc (.cells c2 t2)).alloc (.cells c3 t3)).alloc (.cells c4 t4)) c5 t5 (by simp only [World.size_alloc])).alloc _), (Own.at_ ((((((w.alloc (.cells c0 t0)).alloc (.cells c1 t1)).alloc (.cells c2 t2)).alloc (.cells c3 t3)).alloc (.cells c4 t4)).alloc (.cells c5 t5)) c6 t6 (by simp only [World.size_alloc]))⟩
theorem with_boxes7 {P : Program} {f : FuncId} {args : Array Value} {R : Ending → World → Prop} {w : World} {c0 c1 c2 c3 c4 c5 c6 : Array Value} {t0 t1 t2 t3 t4 t5 t6 : TypeId}
    (h : ∀ X, Kept w X → Own X (w.heap.size) t0 c0 → Own X (w.heap.size + 1) t1 c1 → Own X (w.heap.size + 1 + 1) t2 c2 → Own X (w.heap.size + 1 + 1 + 1) t3 c3 → Own X (w.heap.size + 1 + 1 + 1 + 1) t4 c4 → Own X (w.heap.size + 1 + 1 + 1 + 1 + 1) t5 c5 → Own X (w.heap.size + 1 + 1 + 1 + 1 + 1 + 1) t6 c6 → Calls P f args X R) : Calls P f args (((((((w.alloc (.cells c0 t0)).alloc (.cells c1 t1)).alloc (.cells c2 t2)).alloc (.cells c3 t3)).alloc (.cells c4 t4)).alloc (.cells c5 t5)).alloc (.cells c6 t6)) R := by
  obtain ⟨X, e, k, b0, b1, b2, b3, b4, b5, b6⟩ := boxes7 w c0 c1 c2 c3 c4 c5 c6 t0 t1 t2 t3 t4 t5 t6
  rw [← e]; exact h X k b0 b1 b2 b3 b4 b5 b6
theorem code_boxes7 {P : Program} {c : Code} {Q : Exit → Act → World → Prop} {a : Act} {w : World} {c0 c1 c2 c3 c4 c5 c6 : Array Value} {t0 t1 t2 t3 t4 t5 t6 : TypeId}
    (h : ∀ X, Kept w X → Own X (w.heap.size) t0 c0 → Own X (w.heap.size + 1) t1 c1 → Own X (w.heap.size + 1 + 1) t2 c2 → Own X (w.heap.size + 1 + 1 + 1) t3 c3 → Own X (w.heap.size + 1 + 1 + 1 + 1) t4 c4 → Own X (w.heap.size + 1 + 1 + 1 + 1 + 1) t5 c5 → Own X (w.heap.size + 1 + 1 + 1 + 1 + 1 + 1) t6 c6 → c.wp P Q a X) : c.wp P Q a (((((((w.alloc (.cells c0 t0)).alloc (.cells c1 t1)).alloc (.cells c2 t2)).alloc (.cells c3 t3)).alloc (.cells c4 t4)).alloc (.cells c5 t5)).alloc (.cells c6 t6)) := by
  obtain ⟨X, e, k, b0, b1, b2, b3, b4, b5, b6⟩ := boxes7 w c0 c1 c2 c3 c4 c5 c6 t0 t1 t2 t3 t4 t5 t6
  rw [← e]; exact h X k b0 b1 b2 b3 b4 b5 b6
theorem boxes8 (w : World) (c0 c1 c2 c3 c4 c5 c6 c7 : Array Value) (t0 t1 t2 t3 t4 t5 t6 t7 : TypeId) : ∃ X, X = ((((((((w.alloc (.cells c0 t0)).alloc (.cells c1 t1)).alloc (.cells c2 t2)).alloc (.cells c3 t3)).alloc (.cells c4 t4)).alloc (.cells c5 t5)).alloc (.cells c6 t6)).alloc (.cells c7 t7)) ∧ Kept w X ∧ Own X (w.heap.size) t0 c0 ∧ Own X (w.heap.size + 1) t1 c1 ∧ Own X (w.heap.size + 1 + 1) t2 c2 ∧ Own X (w.heap.size + 1 + 1 + 1) t3 c3 ∧ Own X (w.heap.size + 1 + 1 + 1 + 1) t4 c4 ∧ Own X (w.heap.size + 1 + 1 + 1 + 1 + 1) t5 c5 ∧ Own X (w.heap.size + 1 + 1 + 1 + 1 + 1 + 1) t6 c6 ∧ Own X (w.heap.size + 1 + 1 + 1 + 1 + 1 + 1 + 1) t7 c7 :=
  ⟨_, rfl, (((((((((Kept.refl w).alloc _).alloc _).alloc _).alloc _).alloc _).alloc _).alloc _).alloc _), ((((((((Own.at_ w c0 t0 rfl).alloc _).alloc _).alloc _).alloc _).alloc _).alloc _).alloc _), (((((((Own.at_ (w.alloc (.cells c0 t0)) c1 t1 (by simp only [World.size_alloc])).alloc _).alloc _).alloc _).alloc _).alloc _).alloc _), ((((((Own.at_ ((w.alloc (.cells c0 t0)).alloc (.cells c1 t1)) c2 t2 (by simp only [World.size_alloc])).alloc _).alloc _).alloc _).alloc _).alloc _), (((((Own.at_ (((w.alloc (.cells c0 t0)).alloc (.cells c1 t1)).alloc (.cells c2 t2)) c3 t3 (by simp only [World.size_alloc])).alloc _).alloc _).alloc _).alloc _), ((((Own.at_ ((((w.alloc (.cells c0 t0)).alloc (.cells c1 t1)).alloc (.cells c2 t2)).alloc (.cells c3 t3)) c4 t4 (by simp only [World.size_alloc])).alloc _).alloc _).alloc _), (((Own.at_ (((((w.alloc (.cells c0 t0)).alloc (.cells c1 t1)).alloc (.cells c2 t2)).alloc (.cells c3 t3)).alloc (.cells c4 t4)) c5 t5 (by simp only [World.size_alloc])).alloc _).alloc _), ((Own.at_ ((((((w.alloc (.cells c0 t0)).alloc (.cells c1 t1)).alloc (.cells c2 t2)).alloc (.cells c3 t3)).alloc (.cells c4 t4)).alloc (.cells c5 t5)) c6 t6 (by simp only [World.size_alloc])).alloc _), (Own.at_ (((((((w.alloc (.cells c0 t0)).alloc (.cells c1 t1)).alloc (.cells c2 t2)).alloc (.cells c3 t3)).alloc (.cells c4 t4)).alloc (.cells c5 t5)).alloc (.cells c6 t6)) c7 t7 (by simp only [World.size_alloc]))⟩
theorem with_boxes8 {P : Program} {f : FuncId} {args : Array Value} {R : Ending → World → Prop} {w : World} {c0 c1 c2 c3 c4 c5 c6 c7 : Array Value} {t0 t1 t2 t3 t4 t5 t6 t7 : TypeId}
    (h : ∀ X, Kept w X → Own X (w.heap.size) t0 c0 → Own X (w.heap.size + 1) t1 c1 → Own X (w.heap.size + 1 + 1) t2 c2 → Own X (w.heap.size + 1 + 1 + 1) t3 c3 → Own X (w.heap.size + 1 + 1 + 1 + 1) t4 c4 → Own X (w.heap.size + 1 + 1 + 1 + 1 + 1) t5 c5 → Own X (w.heap.size + 1 + 1 + 1 + 1 + 1 + 1) t6 c6 → Own X (w.heap.size + 1 + 1 + 1 + 1 + 1 + 1 + 1) t7 c7 → Calls P f args X R) : Calls P f args ((((((((w.alloc (.cells c0 t0)).alloc (.cells c1 t1)).alloc (.cells c2 t2)).alloc (.cells c3 t3)).alloc (.cells c4 t4)).alloc (.cells c5 t5)).alloc (.cells c6 t6)).alloc (.cells c7 t7)) R := by
  obtain ⟨X, e, k, b0, b1, b2, b3, b4, b5, b6, b7⟩ := boxes8 w c0 c1 c2 c3 c4 c5 c6 c7 t0 t1 t2 t3 t4 t5 t6 t7
  rw [← e]; exact h X k b0 b1 b2 b3 b4 b5 b6 b7
theorem code_boxes8 {P : Program} {c : Code} {Q : Exit → Act → World → Prop} {a : Act} {w : World} {c0 c1 c2 c3 c4 c5 c6 c7 : Array Value} {t0 t1 t2 t3 t4 t5 t6 t7 : TypeId}
    (h : ∀ X, Kept w X → Own X (w.heap.size) t0 c0 → Own X (w.heap.size + 1) t1 c1 → Own X (w.heap.size + 1 + 1) t2 c2 → Own X (w.heap.size + 1 + 1 + 1) t3 c3 → Own X (w.heap.size + 1 + 1 + 1 + 1) t4 c4 → Own X (w.heap.size + 1 + 1 + 1 + 1 + 1) t5 c5 → Own X (w.heap.size + 1 + 1 + 1 + 1 + 1 + 1) t6 c6 → Own X (w.heap.size + 1 + 1 + 1 + 1 + 1 + 1 + 1) t7 c7 → c.wp P Q a X) : c.wp P Q a ((((((((w.alloc (.cells c0 t0)).alloc (.cells c1 t1)).alloc (.cells c2 t2)).alloc (.cells c3 t3)).alloc (.cells c4 t4)).alloc (.cells c5 t5)).alloc (.cells c6 t6)).alloc (.cells c7 t7)) := by
  obtain ⟨X, e, k, b0, b1, b2, b3, b4, b5, b6, b7⟩ := boxes8 w c0 c1 c2 c3 c4 c5 c6 c7 t0 t1 t2 t3 t4 t5 t6 t7
  rw [← e]; exact h X k b0 b1 b2 b3 b4 b5 b6 b7
theorem boxes1d (w : World) (c0 : Array Value) (t0 : TypeId) : ∃ X, X = ((w.alloc (.cells c0 t0)).drew) ∧ Kept w X ∧ Own X (w.heap.size) t0 c0 :=
  ⟨_, rfl, (((Kept.refl w).alloc _).drew), ((Own.at_ w c0 t0 rfl).drew)⟩
theorem with_boxes1d {P : Program} {f : FuncId} {args : Array Value} {R : Ending → World → Prop} {w : World} {c0 : Array Value} {t0 : TypeId}
    (h : ∀ X, Kept w X → Own X (w.heap.size) t0 c0 → Calls P f args X R) : Calls P f args ((w.alloc (.cells c0 t0)).drew) R := by
  obtain ⟨X, e, k, b0⟩ := boxes1d w c0 t0
  rw [← e]; exact h X k b0
theorem code_boxes1d {P : Program} {c : Code} {Q : Exit → Act → World → Prop} {a : Act} {w : World} {c0 : Array Value} {t0 : TypeId}
    (h : ∀ X, Kept w X → Own X (w.heap.size) t0 c0 → c.wp P Q a X) : c.wp P Q a ((w.alloc (.cells c0 t0)).drew) := by
  obtain ⟨X, e, k, b0⟩ := boxes1d w c0 t0
  rw [← e]; exact h X k b0
theorem boxes2d (w : World) (c0 c1 : Array Value) (t0 t1 : TypeId) : ∃ X, X = (((w.alloc (.cells c0 t0)).alloc (.cells c1 t1)).drew) ∧ Kept w X ∧ Own X (w.heap.size) t0 c0 ∧ Own X (w.heap.size + 1) t1 c1 :=
  ⟨_, rfl, ((((Kept.refl w).alloc _).alloc _).drew), (((Own.at_ w c0 t0 rfl).alloc _).drew), ((Own.at_ (w.alloc (.cells c0 t0)) c1 t1 (by simp only [World.size_alloc])).drew)⟩
theorem with_boxes2d {P : Program} {f : FuncId} {args : Array Value} {R : Ending → World → Prop} {w : World} {c0 c1 : Array Value} {t0 t1 : TypeId}
    (h : ∀ X, Kept w X → Own X (w.heap.size) t0 c0 → Own X (w.heap.size + 1) t1 c1 → Calls P f args X R) : Calls P f args (((w.alloc (.cells c0 t0)).alloc (.cells c1 t1)).drew) R := by
  obtain ⟨X, e, k, b0, b1⟩ := boxes2d w c0 c1 t0 t1
  rw [← e]; exact h X k b0 b1
theorem code_boxes2d {P : Program} {c : Code} {Q : Exit → Act → World → Prop} {a : Act} {w : World} {c0 c1 : Array Value} {t0 t1 : TypeId}
    (h : ∀ X, Kept w X → Own X (w.heap.size) t0 c0 → Own X (w.heap.size + 1) t1 c1 → c.wp P Q a X) : c.wp P Q a (((w.alloc (.cells c0 t0)).alloc (.cells c1 t1)).drew) := by
  obtain ⟨X, e, k, b0, b1⟩ := boxes2d w c0 c1 t0 t1
  rw [← e]; exact h X k b0 b1
theorem boxes3d (w : World) (c0 c1 c2 : Array Value) (t0 t1 t2 : TypeId) : ∃ X, X = ((((w.alloc (.cells c0 t0)).alloc (.cells c1 t1)).alloc (.cells c2 t2)).drew) ∧ Kept w X ∧ Own X (w.heap.size) t0 c0 ∧ Own X (w.heap.size + 1) t1 c1 ∧ Own X (w.heap.size + 1 + 1) t2 c2 :=
  ⟨_, rfl, (((((Kept.refl w).alloc _).alloc _).alloc _).drew), ((((Own.at_ w c0 t0 rfl).alloc _).alloc _).drew), (((Own.at_ (w.alloc (.cells c0 t0)) c1 t1 (by simp only [World.size_alloc])).alloc _).drew), ((Own.at_ ((w.alloc (.cells c0 t0)).alloc (.cells c1 t1)) c2 t2 (by simp only [World.size_alloc])).drew)⟩
theorem with_boxes3d {P : Program} {f : FuncId} {args : Array Value} {R : Ending → World → Prop} {w : World} {c0 c1 c2 : Array Value} {t0 t1 t2 : TypeId}
    (h : ∀ X, Kept w X → Own X (w.heap.size) t0 c0 → Own X (w.heap.size + 1) t1 c1 → Own X (w.heap.size + 1 + 1) t2 c2 → Calls P f args X R) : Calls P f args ((((w.alloc (.cells c0 t0)).alloc (.cells c1 t1)).alloc (.cells c2 t2)).drew) R := by
  obtain ⟨X, e, k, b0, b1, b2⟩ := boxes3d w c0 c1 c2 t0 t1 t2
  rw [← e]; exact h X k b0 b1 b2
theorem code_boxes3d {P : Program} {c : Code} {Q : Exit → Act → World → Prop} {a : Act} {w : World} {c0 c1 c2 : Array Value} {t0 t1 t2 : TypeId}
    (h : ∀ X, Kept w X → Own X (w.heap.size) t0 c0 → Own X (w.heap.size + 1) t1 c1 → Own X (w.heap.size + 1 + 1) t2 c2 → c.wp P Q a X) : c.wp P Q a ((((w.alloc (.cells c0 t0)).alloc (.cells c1 t1)).alloc (.cells c2 t2)).drew) := by
  obtain ⟨X, e, k, b0, b1, b2⟩ := boxes3d w c0 c1 c2 t0 t1 t2
  rw [← e]; exact h X k b0 b1 b2
theorem boxes4d (w : World) (c0 c1 c2 c3 : Array Value) (t0 t1 t2 t3 : TypeId) : ∃ X, X = (((((w.alloc (.cells c0 t0)).alloc (.cells c1 t1)).alloc (.cells c2 t2)).alloc (.cells c3 t3)).drew) ∧ Kept w X ∧ Own X (w.heap.size) t0 c0 ∧ Own X (w.heap.size + 1) t1 c1 ∧ Own X (w.heap.size + 1 + 1) t2 c2 ∧ Own X (w.heap.size + 1 + 1 + 1) t3 c3 :=
  ⟨_, rfl, ((((((Kept.refl w).alloc _).alloc _).alloc _).alloc _).drew), (((((Own.at_ w c0 t0 rfl).alloc _).alloc _).alloc _).drew), ((((Own.at_ (w.alloc (.cells c0 t0)) c1 t1 (by simp only [World.size_alloc])).alloc _).alloc _).drew), (((Own.at_ ((w.alloc (.cells c0 t0)).alloc (.cells c1 t1)) c2 t2 (by simp only [World.size_alloc])).alloc _).drew), ((Own.at_ (((w.alloc (.cells c0 t0)).alloc (.cells c1 t1)).alloc (.cells c2 t2)) c3 t3 (by simp only [World.size_alloc])).drew)⟩
theorem with_boxes4d {P : Program} {f : FuncId} {args : Array Value} {R : Ending → World → Prop} {w : World} {c0 c1 c2 c3 : Array Value} {t0 t1 t2 t3 : TypeId}
    (h : ∀ X, Kept w X → Own X (w.heap.size) t0 c0 → Own X (w.heap.size + 1) t1 c1 → Own X (w.heap.size + 1 + 1) t2 c2 → Own X (w.heap.size + 1 + 1 + 1) t3 c3 → Calls P f args X R) : Calls P f args (((((w.alloc (.cells c0 t0)).alloc (.cells c1 t1)).alloc (.cells c2 t2)).alloc (.cells c3 t3)).drew) R := by
  obtain ⟨X, e, k, b0, b1, b2, b3⟩ := boxes4d w c0 c1 c2 c3 t0 t1 t2 t3
  rw [← e]; exact h X k b0 b1 b2 b3
theorem code_boxes4d {P : Program} {c : Code} {Q : Exit → Act → World → Prop} {a : Act} {w : World} {c0 c1 c2 c3 : Array Value} {t0 t1 t2 t3 : TypeId}
    (h : ∀ X, Kept w X → Own X (w.heap.size) t0 c0 → Own X (w.heap.size + 1) t1 c1 → Own X (w.heap.size + 1 + 1) t2 c2 → Own X (w.heap.size + 1 + 1 + 1) t3 c3 → c.wp P Q a X) : c.wp P Q a (((((w.alloc (.cells c0 t0)).alloc (.cells c1 t1)).alloc (.cells c2 t2)).alloc (.cells c3 t3)).drew) := by
  obtain ⟨X, e, k, b0, b1, b2, b3⟩ := boxes4d w c0 c1 c2 c3 t0 t1 t2 t3
  rw [← e]; exact h X k b0 b1 b2 b3
end Go.Proofs.YtpblajjfgnhkdaaDoor
