/- Layer 11: trees of boxes, plainly. -/
import Derived.Test.YtpblajjfgnhkdaaDoorRow
import Derived.Test.YtpblajjfgnhkdaaDoorUnit
namespace Go.Proofs.YtpblajjfgnhkdaaDoor
open Go.RowKit
set_option linter.unusedSimpArgs false
set_option linter.unusedVariables false
theorem bool_two (b : Bool) : b = false ∨ b = true := by cases b <;> simp
/-- a node as it reads -/
structure Nd where
  parent : Int
  kind : Int
  flt : Int
  clr : Int
  m : Nat
  P : Nat → Int
  T : Nat → ByteArray
  text : ByteArray
def plainN (x : Nd) : Bool := x.flt == 0 && x.clr == 0
/-- is a declaration of a property, its value short? -/
def declB (p : Int) (t : ByteArray) : Bool := inB 0 28 p && decide (t.size ≤ 16)
def declsB (P : Nat → Int) (T : Nat → ByteArray) : Nat → Bool
  | 0 => true
  | k + 1 => declsB P T k && declB (P k) (T k)
theorem declsB_at {P : Nat → Int} {T : Nat → ByteArray} {n : Nat} (h : declsB P T n = true) : ∀ i, i < n → declB (P i) (T i) = true := by
  induction n with
  | zero => intro i hi; omega
  | succ n ih =>
    intro i hi
    unfold declsB at h
    simp only [Bool.and_eq_true] at h
    rcases Nat.lt_or_ge i n with h1 | h1
    · exact ih h.1 i h1
    · obtain rfl : i = n := by omega
      exact h.2
theorem declsB_no {P : Nat → Int} {T : Nat → ByteArray} {n k : Nat} (hk : k < n) (h : declB (P k) (T k) = false) : declsB P T n = false := by
  cases ha : declsB P T n with
  | false => rfl
  | true => rw [declsB_at ha k hk] at h; cases h
/-- may one be, beside its parent? -/
def nodeB (x : Nd) : Bool := inB 0 2 x.kind && inB 0 2 x.flt && inB 0 3 x.clr && (if x.kind = 1 then plainN x && decide (x.m = 0) && decide (x.text.size ≤ 80) else decide (x.text.size = 0) && decide (x.m ≤ 16) && declsB x.P x.T x.m)
def nodesB (N : Nat → Nd) : Nat → Bool
  | 0 => true
  | k + 1 => nodesB N k && nodeB (N k)
theorem nodesB_at {N : Nat → Nd} {n : Nat} (h : nodesB N n = true) : ∀ i, i < n → nodeB (N i) = true := by
  induction n with
  | zero => intro i hi; omega
  | succ n ih =>
    intro i hi
    unfold nodesB at h
    simp only [Bool.and_eq_true] at h
    rcases Nat.lt_or_ge i n with h1 | h1
    · exact ih h.1 i h1
    · obtain rfl : i = n := by omega
      exact h.2
theorem nodesB_of {N : Nat → Nd} : ∀ {n : Nat}, (∀ i, i < n → nodeB (N i) = true) → nodesB N n = true := by
  intro n
  induction n with
  | zero => intro _; rfl
  | succ n ih => intro h; unfold nodesB; rw [ih fun i hi => h i (by omega), h n (by omega)]; rfl
theorem nodesB_no {N : Nat → Nd} {n k : Nat} (hk : k < n) (h : nodeB (N k) = false) : nodesB N n = false := by
  cases ha : nodesB N n with
  | false => rfl
  | true => rw [nodesB_at ha k hk] at h; cases h
/-- may it be the first one? -/
def rootB (x : Nd) : Bool := x.parent == -1 && !(x.kind == 1) && plainN x
/-- how deep each of the first k is -/
def depS (N : Nat → Nd) : Nat → Nat → Int
  | 0, _ => 0
  | k + 1, i => if i = k then (if k = 0 then 0 else depS N k (N k).parent.toNat + 1) else depS N k i
theorem depS_more (N : Nat → Nd) {i k m : Nat} (h : i < k) (hm : k ≤ m) : depS N m i = depS N k i := by
  induction m with
  | zero => obtain rfl : k = 0 := by omega
            rfl
  | succ m ih =>
    rcases Nat.lt_or_ge k (m + 1) with h1 | h1
    · show (if i = m then _ else depS N m i) = _
      rw [if_neg (by omega)]
      exact ih (by omega)
    · obtain rfl : k = m + 1 := by omega
      rfl
/-- may it be under that parent? -/
def underB (p x : Nd) : Bool := !(p.kind == 1) && (!(p.kind == 2) || plainN x)
def linkB (N : Nat → Nd) (i : Nat) : Bool := inB 0 (i - 1) (N i).parent && decide (depS N i (N i).parent.toNat < 6) && underB (N (N i).parent.toNat) (N i)
def linksB (N : Nat → Nd) : Nat → Bool
  | 0 => true
  | k + 1 => linksB N k && (if k = 0 then true else linkB N k)
theorem linksB_at {N : Nat → Nd} {n : Nat} (h : linksB N n = true) : ∀ i, 0 < i → i < n → linkB N i = true := by
  induction n with
  | zero => intro i h0 hi; omega
  | succ n ih =>
    intro i h0 hi
    unfold linksB at h
    simp only [Bool.and_eq_true] at h
    rcases Nat.lt_or_ge i n with h1 | h1
    · exact ih h.1 i h0 h1
    · obtain rfl : i = n := by omega
      rw [if_neg (by omega)] at h
      exact h.2
theorem linksB_of {N : Nat → Nd} : ∀ {n : Nat}, (∀ i, 0 < i → i < n → linkB N i = true) → linksB N n = true := by
  intro n
  induction n with
  | zero => intro _; rfl
  | succ n ih =>
    intro h
    unfold linksB
    rw [ih fun i h0 hi => h i h0 (by omega)]
    split
    · rfl
    · rw [h n (by omega) (by omega)]; rfl
theorem linksB_no {N : Nat → Nd} {n k : Nat} (h0 : 0 < k) (hk : k < n) (h : linkB N k = false) : linksB N n = false := by
  cases ha : linksB N n with
  | false => rfl
  | true => rw [linksB_at ha k h0 hk] at h; cases h
/-- are they a tree? -/
def treeB (N : Nat → Nd) (n : Nat) : Bool := inB 1 32 n && nodesB N n && rootB (N 0) && linksB N n
theorem treeB_true {N : Nat → Nd} {n : Nat} : treeB N n = true ↔ (1 ≤ n ∧ n ≤ 32) ∧ nodesB N n = true ∧ rootB (N 0) = true ∧ linksB N n = true := by
  unfold treeB
  simp only [Bool.and_eq_true, inB_true]
  constructor
  · rintro ⟨⟨⟨h1, h2⟩, h3⟩, h4⟩
    exact ⟨by omega, h2, h3, h4⟩
  · rintro ⟨h1, h2, h3, h4⟩
    exact ⟨⟨⟨by omega, h2⟩, h3⟩, h4⟩
theorem linkB_parts {N : Nat → Nd} {i : Nat} (h : linkB N i = true) : (0 ≤ (N i).parent ∧ (N i).parent ≤ (i : Int) - 1) ∧ depS N i (N i).parent.toNat < 6 ∧ underB (N (N i).parent.toNat) (N i) = true := by
  unfold linkB at h
  simp only [Bool.and_eq_true, inB_true, decide_eq_true_eq] at h
  exact ⟨h.1.1, h.1.2, h.2⟩
theorem depS_bd {N : Nat → Nd} {n : Nat} (h : linksB N n = true) : ∀ k, k ≤ n → ∀ i, 0 ≤ depS N k i ∧ depS N k i ≤ 6 := by
  intro k
  induction k with
  | zero => intro _ i; show (0 : Int) ≤ 0 ∧ (0 : Int) ≤ 6; omega
  | succ k ih =>
    intro hk i
    show 0 ≤ (if i = k then _ else _) ∧ (if i = k then _ else _) ≤ 6
    split
    · split
      · omega
      · have := linkB_parts (linksB_at h k (by omega) (by omega))
        have := ih (by omega) (N k).parent.toNat
        omega
    · exact ih (by omega) i
/-- a node's depth is one more than its parent's -/
theorem depS_up {N : Nat → Nd} {n i : Nat} (h : linksB N n = true) (h0 : 0 < i) (hi : i < n) : depS N n i = depS N n (N i).parent.toNat + 1 := by
  have h1 := linkB_parts (linksB_at h i h0 hi)
  rw [depS_more N (show i < i + 1 by omega) (by omega)]
  show (if i = i then _ else _) = _
  rw [if_pos rfl, if_neg (by omega), ← depS_more N (show (N i).parent.toNat < i by omega) (show i ≤ n by omega)]
theorem depS_root (N : Nat → Nd) {n : Nat} (hn : 0 < n) : depS N n 0 = 0 := by
  rw [depS_more N (show 0 < 1 by omega) (by omega)]
  rfl
/-- a node's kids among the first k: how many, which -/
def kidN (N : Nat → Nd) (a : Int) : Nat → Nat
  | 0 => 0
  | k + 1 => kidN N a k + if (N k).parent = a then 1 else 0
def kidZ (N : Nat → Nd) (a : Int) : Nat → Nat → Int
  | 0, _ => 0
  | k + 1, j => if (N k).parent = a ∧ j = kidN N a k then k else kidZ N a k j
theorem kidN_le (N : Nat → Nd) (a : Int) (k : Nat) : kidN N a k ≤ k := by
  induction k with
  | zero => exact Nat.le_refl _
  | succ k ih => unfold kidN; split <;> omega
theorem kidZ_step (N : Nat → Nd) (a : Int) (k j : Nat) (h : j < kidN N a k) : kidZ N a (k + 1) j = kidZ N a k j := by
  show (if (N k).parent = a ∧ j = kidN N a k then (k : Int) else kidZ N a k j) = _
  rw [if_neg (by omega)]
theorem kidZ_new {N : Nat → Nd} {a : Int} {k : Nat} (h : (N k).parent = a) : kidZ N a (k + 1) (kidN N a k) = k := by
  show (if (N k).parent = a ∧ kidN N a k = kidN N a k then (k : Int) else kidZ N a k _) = _
  rw [if_pos ⟨h, rfl⟩]
end Go.Proofs.YtpblajjfgnhkdaaDoor
