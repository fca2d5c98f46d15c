/- Layer 12: margins that meet. -/
import Derived.Test.YtpblajjfgnhkdaaDoorBoxes
import Derived.Test.YtpblajjfgnhkdaaDoorUnit
import Derived.Test.YtpblajjfgnhkdaaDoorNum
import Derived.Test.YtpblajjfgnhkdaaDoorEach
namespace Go.Proofs.YtpblajjfgnhkdaaDoor
open Go.RowKit
set_option linter.unusedSimpArgs false
set_option linter.unusedVariables false
/-- numbers that lie in a row -/
def IntsAt (w : World) (b off n : Nat) (Z : Nat → Int) : Prop := ∀ i, i < n → w.cell? ⟨b, off + i, none⟩ = some (.int .i64 (Z i))
theorem IntsAt.kept {w w' : World} {b off n : Nat} {Z : Nat → Int} (h : IntsAt w b off n Z) (k : Kept w w') : IntsAt w' b off n Z :=
  fun i hi => (k.cell (World.block_lt_of_cell? w _ (h i hi))).trans (h i hi)
/-- v is a slice of n numbers -/
def IV (w : World) (v : Value) (n : Nat) (Z : Nat → Int) : Prop :=
  (n = 0 ∧ ∃ o cap, v = .slice o 0 cap) ∨ ∃ b off cap, v = .slice (some ⟨b, off, none⟩) n cap ∧ 0 < n ∧ n ≤ cap ∧ IntsAt w b off n Z
theorem IV.kept {w w' : World} {v : Value} {n : Nat} {Z : Nat → Int} (h : IV w v n Z) (k : Kept w w') : IV w' v n Z := by
  rcases h with h | ⟨b, off, cap, h1, h2, h3, h4⟩
  · exact .inl h
  · exact .inr ⟨b, off, cap, h1, h2, h3, h4.kept k⟩
theorem IV.shape {w : World} {v : Value} {n : Nat} {Z : Nat → Int} (h : IV w v n Z) : ∃ o cap, v = .slice o n cap := by
  rcases h with ⟨rfl, o, cap, rfl⟩ | ⟨b, off, cap, rfl, _⟩
  · exact ⟨o, cap, rfl⟩
  · exact ⟨_, cap, rfl⟩
theorem plain_add1 (b off n : Nat) : ((⟨b, off, none⟩ : Addr).add n) = ⟨b, off + n, none⟩ := by
  unfold Addr.add
  by_cases h : n = 0
  · subst h; rfl
  · rw [if_neg h]
theorem spot_none1 {w : World} {b off : Nat} {sp : Option Nat} {v : Value} (h : w.cell? ⟨b, off, sp⟩ = some v) : sp = none := by
  cases sp with
  | none => rfl
  | some k =>
    exfalso
    unfold World.cell? at h
    split at h
    · simp at h
    · simp at h
def intL (l : List Int) (i : Nat) : Int := l.getD i 0
theorem iv_of {w : World} {b n cap : Nat} {t : TypeId} {cs : Array Value} {Z : Nat → Int} (h : Own w b t cs) (hp : 0 < n) (hcap : n ≤ cap) (hc : ∀ i, i < n → cs[i]? = some (.int .i64 (Z i))) : IV w (.slice (some ⟨b, 0, none⟩) n cap) n Z :=
  .inr ⟨b, 0, cap, rfl, hp, hcap, fun i hi => by rw [Nat.zero_add]; exact (h.cell _).trans (hc i hi)⟩
theorem iv_two {w : World} {b : Nat} {t : TypeId} {x y : Int} (h : Own w b t #[.int .i64 x, .int .i64 y]) : IV w (.slice (some ⟨b, 0, none⟩) 2 2) 2 (intL [x, y]) :=
  iv_of h (by decide) (by decide) fun i hi => by
    match i, hi with
    | 0, _ => rfl
    | 1, _ => rfl
theorem iv_one {w : World} {b : Nat} {t : TypeId} {x : Int} (h : Own w b t #[.int .i64 x]) : IV w (.slice (some ⟨b, 0, none⟩) 1 1) 1 (intL [x]) :=
  iv_of h (by decide) (by decide) fun i hi => by
    match i, hi with
    | 0, _ => rfl
theorem iv_four {w : World} {b : Nat} {t : TypeId} {x y z u : Int} (h : Own w b t #[.int .i64 x, .int .i64 y, .int .i64 z, .int .i64 u]) : IV w (.slice (some ⟨b, 0, none⟩) 4 4) 4 (intL [x, y, z, u]) :=
  iv_of h (by decide) (by decide) fun i hi => by
    match i, hi with
    | 0, _ => rfl
    | 1, _ => rfl
    | 2, _ => rfl
    | 3, _ => rfl
/-- the greatest one, and 0; the least one, and 0 -/
def mxS (Z : Nat → Int) : Nat → Int
  | 0 => 0
  | k + 1 => max (mxS Z k) (Z k)
def mnS (Z : Nat → Int) : Nat → Int
  | 0 => 0
  | k + 1 => min (mnS Z k) (Z k)
def allM (Z : Nat → Int) : Nat → Bool
  | 0 => true
  | n + 1 => allM Z n && mayB (Z n)
theorem allM_no {Z : Nat → Int} {k n : Nat} (h : k < n) (hk : mayB (Z k) = false) : allM Z n = false := by
  induction n with
  | zero => omega
  | succ n ih =>
    unfold allM
    rcases Nat.lt_or_ge k n with h1 | h1
    · rw [ih h1]; rfl
    · obtain rfl : k = n := by omega
      rw [hk, Bool.and_false]
theorem allM_yes {Z : Nat → Int} {n : Nat} (h : allM Z n = true) : ∀ k, k < n → -1073741824 ≤ Z k ∧ Z k ≤ 1073741824 := by
  intro k hk
  cases hb : mayB (Z k) with
  | true => exact mayB_true.1 hb
  | false => rw [allM_no hk hb] at h; cases h
theorem allM_of {Z : Nat → Int} {n : Nat} (h : ∀ k, k < n → -1073741824 ≤ Z k ∧ Z k ≤ 1073741824) : allM Z n = true := by
  induction n with
  | zero => rfl
  | succ n ih =>
    unfold allM
    rw [ih fun k hk => h k (by omega), mayB_true.2 (h n (by omega))]; rfl
theorem mx_bounds {Z : Nat → Int} {n : Nat} (h : allM Z n = true) : ∀ k, k ≤ n → (0 ≤ mxS Z k ∧ mxS Z k ≤ 1073741824) ∧ -1073741824 ≤ mnS Z k ∧ mnS Z k ≤ 0 := by
  intro k
  induction k with
  | zero => intro _; unfold mxS mnS; omega
  | succ k ih =>
    intro hk
    have h1 := ih (by omega)
    have h2 := allM_yes h k (by omega)
    unfold mxS mnS
    omega
def mayM (n : Nat) (Z : Nat → Int) : Bool := decide (n ≤ 32) && allM Z n
theorem mayM_true {n : Nat} {Z : Nat → Int} : mayM n Z = true ↔ n ≤ 32 ∧ allM Z n = true := by unfold mayM; rw [Bool.and_eq_true, decide_eq_true_eq]
/-- what numbers collapse to -/
def allR (n : Nat) (Z : Nat → Int) : Int × Int := if mayM n Z = true then (mxS Z n + mnS Z n, 0) else (0, 1200)
theorem allR_may {n : Nat} {Z : Nat → Int} (h : mayM n Z = true) : allR n Z = (mxS Z n + mnS Z n, 0) := if_pos h
theorem allR_no {n : Nat} {Z : Nat → Int} (h : mayM n Z = false) : allR n Z = (0, 1200) := if_neg (by simp [h])
/-- where the first one is: -1 or a place -/
def IdxR (b : Bool) (r : Int) : Prop := if b = true then r = -1 else 0 ≤ r
/-- a number that counts -/
def cnt (x : Int) : Int := if mayB x = true then x else 0
theorem cnt_bounds (x : Int) : -1073741824 ≤ cnt x ∧ cnt x ≤ 1073741824 := by
  unfold cnt
  cases h : mayB x
  · simp
  · have := mayB_true.1 h; simpa using this
/-- what two collapse to -/
def colS (a b : Int) : Int := mxS (intL [cnt a, cnt b]) 2 + mnS (intL [cnt a, cnt b]) 2
theorem colS_eq (a b : Int) : colS a b = max (max 0 (cnt a)) (cnt b) + min (min 0 (cnt a)) (cnt b) := rfl
end Go.Proofs.YtpblajjfgnhkdaaDoor
