/- Layer 6: lines.Break. -/
import Derived.Test.YtbegdnpckjfgbaaFill
import Derived.Test.YtbegdnpckjfgbaaThree
namespace Go.Proofs.Ytbegdnpckjfgbaa
open Go.RowKit
set_option linter.unusedSimpArgs false
set_option linter.unusedVariables false
/-- v is a slice of n words -/
def WV (w : World) (v : Value) (n : Nat) (S : Nat → ByteArray) (A G : Nat → Int) : Prop :=
  (n = 0 ∧ ∃ o cap, v = .slice o 0 cap) ∨ ∃ b off cap, v = .slice (some ⟨b, off, none⟩) n cap ∧ 0 < n ∧ n ≤ cap ∧ WordsAt w b off n S A G
theorem WV.kept {w w' : World} {v : Value} {n : Nat} {S : Nat → ByteArray} {A G : Nat → Int} (h : WV w v n S A G) (k : Kept w w') : WV w' v n S A G := by
  rcases h with h | ⟨b, off, cap, h1, h2, h3, h4⟩
  · exact .inl h
  · exact .inr ⟨b, off, cap, h1, h2, h3, h4.kept k⟩
/-- where the i-th line begins -/
noncomputable def lineAt (A : Nat → Int) (n : Nat) (room : Int) : Nat → Nat
  | 0 => 0
  | i + 1 => if lineAt A n room i < n then lineAt A n room i + kS A n room (lineAt A n room i) + 1 else lineAt A n room i
theorem lineAt_le (A : Nat → Int) (n : Nat) (room : Int) (i : Nat) : lineAt A n room i ≤ n := by
  induction i with
  | zero => exact Nat.zero_le _
  | succ i ih =>
    unfold lineAt
    by_cases h : lineAt A n room i < n
    · rw [if_pos h]; have := (kS_is A room h).le; omega
    · rw [if_neg h]; exact ih
theorem lineAt_end (A : Nat → Int) (n : Nat) (room : Int) : ∀ i, lineAt A n room i < n → i ≤ lineAt A n room i := by
  intro i
  induction i with
  | zero => exact fun _ => Nat.zero_le _
  | succ i ih =>
    intro h
    unfold lineAt at h ⊢
    by_cases h1 : lineAt A n room i < n
    · rw [if_pos h1] at h ⊢; have := ih h1; omega
    · rw [if_neg h1] at h; omega
theorem lines_some (A : Nat → Int) (n : Nat) (room : Int) : ∃ m, lineAt A n room m = n ∧ ∀ i, i < m → lineAt A n room i < n := by
  have key : ∀ d, ∃ m, m ≤ d ∧ (lineAt A n room m = n ∨ m = d) ∧ ∀ i, i < m → lineAt A n room i < n := by
    intro d
    induction d with
    | zero => exact ⟨0, Nat.le_refl _, .inr rfl, fun i hi => by omega⟩
    | succ d ih =>
      obtain ⟨m, hm, hor, hall⟩ := ih
      by_cases he : lineAt A n room m = n
      · exact ⟨m, by omega, .inl he, hall⟩
      · have hmd : m = d := by rcases hor with h | h
                               · exact absurd h he
                               · exact h
        refine ⟨m + 1, by omega, .inr (by omega), fun i hi => ?_⟩
        have hlt : lineAt A n room m < n := by have := lineAt_le A n room m; omega
        rcases Nat.lt_or_ge i m with h1 | h1
        · exact hall i h1
        · obtain rfl : i = m := by omega
          exact hlt
  obtain ⟨m, hm, hor, hall⟩ := key (n + 1)
  refine ⟨m, ?_, hall⟩
  rcases hor with h | h
  · exact h
  · exfalso
    have := lineAt_end A n room n (hall n (by omega))
    have := hall n (by omega)
    omega
/-- how many lines there are -/
noncomputable def lineN (A : Nat → Int) (n : Nat) (room : Int) : Nat := (lines_some A n room).choose
theorem lineN_at (A : Nat → Int) (n : Nat) (room : Int) : lineAt A n room (lineN A n room) = n := (lines_some A n room).choose_spec.1
theorem lineN_lt (A : Nat → Int) (n : Nat) (room : Int) : ∀ i, i < lineN A n room → lineAt A n room i < n := (lines_some A n room).choose_spec.2
theorem lineN_le (A : Nat → Int) (n : Nat) (room : Int) : lineN A n room ≤ n := by
  rcases Nat.eq_zero_or_pos (lineN A n room) with h | h
  · omega
  · have := lineAt_end A n room (lineN A n room - 1) (lineN_lt A n room _ (by omega))
    have := lineN_lt A n room (lineN A n room - 1) (by omega)
    omega
theorem lineAt_next {A : Nat → Int} {n : Nat} {room : Int} {i : Nat} (h : lineAt A n room i < n) : lineAt A n room (i + 1) = lineAt A n room i + kS A n room (lineAt A n room i) + 1 := by
  rw [show lineAt A n room (i + 1) = if lineAt A n room i < n then lineAt A n room i + kS A n room (lineAt A n room i) + 1 else lineAt A n room i from rfl, if_pos h]
noncomputable def lineW (A : Nat → Int) (n : Nat) (room : Int) (i : Nat) : Int := wid A (lineAt A n room i) (kS A n room (lineAt A n room i))
noncomputable def lf (A : Nat → Int) (n : Nat) (room : Int) (i : Nat) : Value := .int .i64 (lineAt A n room i)
noncomputable def lt (A : Nat → Int) (n : Nat) (room : Int) (i : Nat) : Value := .int .i64 (lineAt A n room (i + 1))
noncomputable def lw (A : Nat → Int) (n : Nat) (room : Int) (i : Nat) : Value := .int .i64 (lineW A n room i)
theorem Kept.grownBy {w w' : World} (h : Kept w w') : w.grownBy w' none := ⟨h.below.os, h.below.tape, h.below.output, h.size, fun k hk _ => h.below.block k hk⟩
theorem owns_kept {w w' : World} {base : Nat} {e : TypeId} {size : Nat} {v : Value} {n : Nat} {xs : List Value} (h : w.ownsRow base e size v n xs) (k : Kept w w') : w'.ownsRow base e size v n xs :=
  h.kept k.grownBy (by cases v.ownBlock <;> simp)
theorem lit_cells2 (w : World) (cs : Array Value) (t : TypeId) {b : Nat} (hb : b = w.heap.size) : ∀ j u, cs.toList[j]? = some u → (w.alloc (.cells cs t)).cell? ((⟨b, 0, none⟩ : Addr).add j) = some u := by
  subst hb; exact lit_cells w cs t
theorem WV.shape {w : World} {v : Value} {n : Nat} {S : Nat → ByteArray} {A G : Nat → Int} (h : WV w v n S A G) : ∃ o cap, v = .slice o n cap := by
  rcases h with ⟨rfl, o, cap, rfl⟩ | ⟨b, off, cap, rfl, _⟩
  · exact ⟨o, cap, rfl⟩
  · exact ⟨_, cap, rfl⟩
/-- where no second word fits every word has its line -/
theorem lineN_each {A : Nat → Int} {n : Nat} {room : Int} (h : ∀ f, f < n → kS A n room f = 0) : lineN A n room = n ∧ ∀ i, i ≤ n → lineAt A n room i = i := by
  have key : ∀ i, i ≤ n → lineAt A n room i = i := by
    intro i
    induction i with
    | zero => exact fun _ => rfl
    | succ i ih =>
      intro hi
      have h1 := ih (by omega)
      rw [lineAt_next (by omega), h1, h i (by omega)]
  refine ⟨?_, key⟩
  rcases Nat.lt_trichotomy (lineN A n room) n with h1 | h1 | h1
  · have := key (lineN A n room) (by omega)
    have := lineN_at A n room
    omega
  · exact h1
  · have := lineN_lt A n room n h1
    have := key n (Nat.le_refl _)
    omega
end Go.Proofs.Ytbegdnpckjfgbaa
