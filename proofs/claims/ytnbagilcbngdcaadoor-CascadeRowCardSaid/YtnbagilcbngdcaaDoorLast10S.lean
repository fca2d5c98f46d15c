/- Layer 10: a declaration behind all others. -/
import Derived.Test.YtnbagilcbngdcaaDoorAwake10
import Derived.Test.YtnbagilcbngdcaaDoorRowDecls
import Derived.Test.YtnbagilcbngdcaaDoorMask
import Derived.Test.YtnbagilcbngdcaaDoorAppRV
import Derived.Test.YtnbagilcbngdcaaDoorLenBack2
import Derived.Test.YtnbagilcbngdcaaDoorDecimal
namespace Go.Proofs.YtnbagilcbngdcaaDoor
open Go.RowKit Go.Deep
set_option linter.unusedSimpArgs false
set_option linter.unusedVariables false
set_option maxHeartbeats 8000000
set_option maxRecDepth 20000
theorem stepS_may {wr di : Int} {s : Sty} {q : Int} {v : ByteArray} (h : mayS s = true) : mayS (stepS wr di s q v) = true := by
  unfold stepS
  cases setS di s (mapS wr di q).1 v with
  | none => exact h
  | some t =>
    dsimp only
    cases hb : mayS t with
    | true => rw [if_pos rfl]; exact hb
    | false => rw [if_neg (by decide)]; exact h
theorem appS_may (wr di : Int) (P : Nat → Int) (T : Nat → ByteArray) (n : Nat) : mayS (appS wr di P T n) = true := by
  induction n with
  | zero => kernel_rfl
  | succ n ih => exact stepS_may ih
theorem appS_congr {wr di : Int} {P Q : Nat → Int} {T U : Nat → ByteArray} {n : Nat} (h : ∀ i, i < n → P i = Q i ∧ T i = U i) : appS wr di P T n = appS wr di Q U n := by
  induction n with
  | zero => rfl
  | succ n ih =>
    unfold appS
    rw [ih fun i hi => h i (by omega), (h n (by omega)).1, (h n (by omega)).2]
/-- one more behind n -/
def addP (P : Nat → Int) (n : Nat) (p : Int) (i : Nat) : Int := if i < n then P i else p
def addT (T : Nat → ByteArray) (n : Nat) (v : ByteArray) (i : Nat) : ByteArray := if i < n then T i else v
theorem appS_add (wr di : Int) (P : Nat → Int) (T : Nat → ByteArray) (n : Nat) (p : Int) (v : ByteArray) : appS wr di (addP P n p) (addT T n v) (n + 1) = stepS wr di (appS wr di P T n) p v := by
  show stepS wr di (appS wr di (addP P n p) (addT T n v) n) (addP P n p n) (addT T n v n) = _
  rw [appS_congr (P := addP P n p) (Q := P) (T := addT T n v) (U := T) fun i hi => by simp [addP, addT, hi]]
  simp [addP, addT]
theorem propsB_congr {P Q : Nat → Int} : ∀ {n : Nat}, (∀ i, i < n → P i = Q i) → propsB P n = propsB Q n := by
  intro n
  induction n with
  | zero => exact fun _ => rfl
  | succ n ih =>
    intro h
    unfold propsB
    rw [ih fun i hi => h i (by omega), h n (by omega)]
theorem decls_add {wr di : Int} {n : Nat} {P : Nat → Int} {p : Int} (h : declsB wr di n P = true) (hn : n < 16) (hp : inB 0 28 p = true) : declsB wr di (n + 1) (addP P n p) = true := by
  unfold declsB at h ⊢
  rw [Bool.and_eq_true, Bool.and_eq_true] at h
  rw [h.1.1, decide_eq_true (by omega)]
  unfold propsB
  rw [propsB_congr (P := addP P n p) (Q := P) fun i hi => by simp [addP, hi], h.2]
  simp [addP, hp]
theorem flat_addD (P : Nat → Int) (T : Nat → ByteArray) (n : Nat) (p : Int) (v : ByteArray) : flat 2 (declC P T) n ++ [.int .i64 p, .string v] = flat 2 (declC (addP P n p) (addT T n v)) (n + 1) := by
  show _ = flat 2 (declC (addP P n p) (addT T n v)) n ++ _
  rw [flat_congr (C := declC (addP P n p) (addT T n v)) (D := declC P T) n fun i j hi hj => by simp [declC, addP, addT, hi]]
  congr 1
  show _ = [declC (addP P n p) (addT T n v) n 0, declC (addP P n p) (addT T n v) n 1]
  unfold declC addP addT
  simp
def noneT : ByteArray := ⟨#[110, 111, 110, 101]⟩
theorem none_set (di : Int) (s : Sty) (p : Int) (hp : Logical p) (hd : di = 0 ∨ di = 1) : setS di s p noneT = none := by
  have h0 : (parseS noneT).2 = 800 := by decide +kernel
  have h1 : idxW noneT (wordsS textW) 4 = -1 := by decide +kernel
  have h2 : idxW noneT (wordsS rlW) 2 = -1 := by decide +kernel
  have h3 : idxW noneT (wordsS lrW) 2 = -1 := by decide +kernel
  have h4 : idxW noneT (wordsS itemW) 4 = -1 := by decide +kernel
  have h5 : idxW noneT (wordsS justW) 4 = -1 := by decide +kernel
  have h6 : idxW noneT (wordsS wrapW) 2 = -1 := by decide +kernel
  have hk : namedK di p noneT = -1 := by
    unfold namedK alignS
    rw [h1, h2, h3, h4, h5, h6]
    simp
  unfold setS
  rw [hk, h0]
  simp
theorem dec_parse (x : Nat) (hx : x ≤ 8191) : parseS ⟨(Lib.decDigits x).toArray⟩ = ((1, (x : Int)), 0) := by
  have h : lenB 1 (x : Int) = true := inB_true.2 (by omega)
  have := parse_back h
  rw [show lenT 1 (x : Int) = ⟨(Lib.decDigits x).toArray⟩ from by unfold lenT; simp [itoa_pos]] at this
  exact this
theorem dec_size10 (x : Nat) (hx : x ≤ 8191) : (⟨(Lib.decDigits x).toArray⟩ : ByteArray).size ≤ 21 := dec_size x (by omega)
theorem inl_may {s : Sty} (h : mayS s = true) (x : Nat) (hx : x ≤ 8191) : mayS { s with inl := ⟨1, (x : Int)⟩ } = true := by
  have hl : lenB 1 (x : Int) = true := inB_true.2 (by omega)
  have ho : oddL 0 [] ⟨1, (x : Int)⟩ = false := by
    unfold oddL oddB
    rw [hl]
    simp
  unfold mayS at h ⊢
  dsimp only at h ⊢
  rw [ho]
  cases h1 : oddL 0 [] s.inl with
  | true => rw [h1] at h; simp at h
  | false => rw [h1] at h; exact h
theorem inl_step {wr di : Int} {s : Sty} (h : mayS s = true) (x : Nat) (hx : x ≤ 8191) (hm : modeMayB wr di = true) : stepS wr di s 0 ⟨(Lib.decDigits x).toArray⟩ = { s with inl := ⟨1, (x : Int)⟩ } := by
  have hmap : mapS wr di 0 = (0, 0) := by
    have hb := modeMayB_true.1 hm
    rcases (by omega : wr = 0 ∨ wr = 1 ∨ wr = 2) with rfl | rfl | rfl <;> rcases (by omega : di = 0 ∨ di = 1) with rfl | rfl <;> decide
  have hset : setS di s 0 ⟨(Lib.decDigits x).toArray⟩ = some { s with inl := ⟨1, (x : Int)⟩ } := by
    unfold setS
    rw [if_neg (by decide), dec_parse x hx]
    simp [setLen]
  exact stepS_yes hmap hset (inl_may h x hx)
theorem apply_none {wr di : Int} {n : Nat} {P : Nat → Int} {T : Nat → ByteArray} {p : Int} (h : declsB wr di n P = true) (hn : n < 16) (hp : inB 0 28 p = true) : applyS wr di (n + 1) (addP P n p) (addT T n noneT) = (appS wr di P T n, 0) := by
  have hm : modeMayB wr di = true := by unfold declsB at h; rw [Bool.and_eq_true, Bool.and_eq_true] at h; exact h.1.1
  rw [show applyS wr di (n + 1) (addP P n p) (addT T n noneT) = (appS wr di (addP P n p) (addT T n noneT) (n + 1), 0) from if_pos (decls_add h hn hp), appS_add]
  obtain ⟨h1, h2⟩ := map_logical wr di p hm hp
  rw [stepS_none (Prod.ext rfl h2) (none_set di _ _ h1 (by have := modeMayB_true.1 hm; omega))]
theorem apply_inl {wr di : Int} {n : Nat} {P : Nat → Int} {T : Nat → ByteArray} (h : declsB wr di n P = true) (hn : n < 16) (x : Nat) (hx : x ≤ 8191) : applyS wr di (n + 1) (addP P n 0) (addT T n ⟨(Lib.decDigits x).toArray⟩) = ({ appS wr di P T n with inl := ⟨1, (x : Int)⟩ }, 0) := by
  have hm : modeMayB wr di = true := by unfold declsB at h; rw [Bool.and_eq_true, Bool.and_eq_true] at h; exact h.1.1
  rw [show applyS wr di (n + 1) (addP P n 0) (addT T n ⟨(Lib.decDigits x).toArray⟩) = (appS wr di (addP P n 0) (addT T n ⟨(Lib.decDigits x).toArray⟩) (n + 1), 0) from if_pos (decls_add h hn (by decide)), appS_add, inl_step (appS_may _ _ _ _ _) x hx hm]
end Go.Proofs.YtnbagilcbngdcaaDoor
