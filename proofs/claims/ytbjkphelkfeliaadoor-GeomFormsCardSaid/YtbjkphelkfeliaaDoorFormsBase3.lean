/- Layer 3: numbers, modes, boxes that may not be: lemmas. -/
import Derived.Test.YtbjkphelkfeliaaDoorAwake3
import Derived.Test.YtbjkphelkfeliaaDoorGeomB
import Derived.Test.YtbjkphelkfeliaaDoorGeomP
import Derived.Test.YtbjkphelkfeliaaDoorMask
import Derived.Test.YtbjkphelkfeliaaDoorOwn
import Derived.Test.YtbjkphelkfeliaaDoorHeld
import Derived.Deep.CutRange
import Derived.BigRegion
namespace Go.Proofs.YtbjkphelkfeliaaDoor
open Go.RowKit
set_option linter.unusedSimpArgs false
set_option linter.unusedVariables false
set_option maxHeartbeats 16000000
set_option maxRecDepth 20000
/-- in a drawn region: a block is made, whatever holds -/
theorem held_new {S : World → Prop} {W : World} {v : TypeId} {es : Array Value} {K : Act → World → Prop} {G : Act → World → Prop} {a : Act}
    (hK : ∀ (a : Act) (X : World), S X → (S X → G a X) → K a X) (hS : S (W.alloc (.cells es v)))
    (h : ∀ X, X = W.alloc (.cells es v) → S X → Own X W.heap.size v es → G a X) : K a (W.alloc (.cells es v)) :=
  hK a _ hS fun h2 => h _ rfl h2 (Own.new _ _ _)
theorem held_put2 {w W : World} {t v : TypeId} {cs es : Array Value} {m k : Nat} {x y : Value} {K : Act → World → Prop} {G : Act → World → Prop} {a : Act}
    (hK : ∀ (a : Act) (X : World), (Kept w X ∧ Own X m t cs) → ((Kept w X ∧ Own X m t cs) → G a X) → K a X) (hS : Kept w W ∧ Own W m t cs)
    (sp : Own W k v es) (hk : w.heap.size ≤ k) (hm : m ≠ k)
    (h : ∀ X, (Kept w X ∧ Own X m t cs) → G a X) :
    K a ((W.setCell ⟨k, 0, none⟩ x).setCell ⟨k, 1, none⟩ y) :=
  hK a _ ⟨(hS.1.set hk _).set hk _, (hS.2.other hm _).other hm _⟩ fun h2 => h _ h2
def pick4 (a b c e : Int) (k : Nat) : Int := match k with | 0 => a | 1 => b | 2 => c | _ => e
theorem own_pick {X : World} {b : Nat} {t : TypeId} {p q r s : Int} {k : Nat} (h : Own X b t #[.int .i64 p, .int .i64 q, .int .i64 r, .int .i64 s]) (hk : k < 4) : X.cell? ⟨b, k, none⟩ = some (.int .i64 (pick4 p q r s k)) := by
  match k, hk with
  | 0, _ => exact h.at 0 _ rfl
  | 1, _ => exact h.at 1 _ rfl
  | 2, _ => exact h.at 2 _ rfl
  | 3, _ => exact h.at 3 _ rfl
theorem log_bad (wm : Int) {d : Int} (h1 : 1 ≤ d) {k : Nat} (hk : k < 4) : logS wm 0 (pick4 (-d) (1073741824 + d) 0 0 k) (pick4 0 0 (-d) (1073741824 + d) k) = ((0, 0), 300) := by
  have e : sizedB (pick4 (-d) (1073741824 + d) 0 0 k) (pick4 0 0 (-d) (1073741824 + d) k) = false := by
    cases h : sizedB (pick4 (-d) (1073741824 + d) 0 0 k) (pick4 0 0 (-d) (1073741824 + d) k) with
    | false => rfl
    | true =>
      exfalso
      have := sizedB_true.1 h
      match k, hk with
      | 0, _ => have h9 : (0 : Int) ≤ -d := this.1.1; omega
      | 1, _ => have h9 : 1073741824 + d ≤ 1073741824 := this.1.2; omega
      | 2, _ => have h9 : (0 : Int) ≤ -d := this.2.1; omega
      | 3, _ => have h9 : 1073741824 + d ≤ 1073741824 := this.2.2; omega
  exact if_neg (by simp [e])
theorem physS_no {wm di ia ib ra rb sa sb : Int} (h : ¬ (((0 ≤ wm ∧ wm ≤ 2) ∧ 0 ≤ di ∧ di ≤ 1) ∧ ((0 ≤ ia ∧ ia ≤ 1073741824) ∧ 0 ≤ ib ∧ ib ≤ 1073741824) ∧ ((0 ≤ sa ∧ sa ≤ 1073741824) ∧ 0 ≤ sb ∧ sb ≤ 1073741824) ∧ (-1073741824 ≤ ra ∧ ra ≤ 1073741824) ∧ (-1073741824 ≤ rb ∧ rb ≤ 1073741824))) : physS wm di ia ib ra rb sa sb = ((0, 0, 0, 0), 300) :=
  if_neg fun e => h (by unfold physOkB at e; simp only [Bool.and_eq_true, modeMayB_true, sizedB_true, mayB_true] at e; exact ⟨e.1.1.1.1, e.1.1.1.2, e.1.1.2, e.1.2, e.2⟩)
theorem backS_no {wm di ia ib x y bw bh : Int} (h : ¬ (((0 ≤ wm ∧ wm ≤ 2) ∧ 0 ≤ di ∧ di ≤ 1) ∧ ((0 ≤ ia ∧ ia ≤ 1073741824) ∧ 0 ≤ ib ∧ ib ≤ 1073741824) ∧ ((0 ≤ bw ∧ bw ≤ 1073741824) ∧ 0 ≤ bh ∧ bh ≤ 1073741824) ∧ (-4294967296 ≤ x ∧ x ≤ 4294967296) ∧ (-4294967296 ≤ y ∧ y ≤ 4294967296))) : backS wm di ia ib x y bw bh = ((0, 0, 0, 0), 300) :=
  if_neg fun e => h (by unfold backOkB farXB2 farXB at e; simp only [Bool.and_eq_true, modeMayB_true, sizedB_true, inB_true] at e; exact ⟨e.1.1.1, e.1.1.2, e.1.2, e.2.1, e.2.2⟩)
end Go.Proofs.YtbjkphelkfeliaaDoor
