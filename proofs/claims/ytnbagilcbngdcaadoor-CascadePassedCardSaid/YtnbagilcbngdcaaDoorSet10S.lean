/- Layer 10: what one declaration makes of a style: plainly. -/
import Derived.Test.YtnbagilcbngdcaaDoorMg1
import Derived.Test.YtnbagilcbngdcaaDoorLenParse2
import Derived.Test.YtnbagilcbngdcaaDoorProp
namespace Go.Proofs.YtnbagilcbngdcaaDoor
open Go.RowKit
set_option linter.unusedSimpArgs false
set_option linter.unusedVariables false
def textW : List ByteArray := [⟨#[115, 116, 97, 114, 116]⟩, ⟨#[101, 110, 100]⟩, ⟨#[99, 101, 110, 116, 101, 114]⟩, ⟨#[106, 117, 115, 116, 105, 102, 121]⟩]
def textR : List ByteArray := [⟨#[115, 116, 97, 114, 116]⟩, ⟨#[101, 110, 100]⟩, ⟨#[99, 101, 110, 116, 101, 114]⟩, ⟨#[106, 117, 115, 116, 105, 102, 121]⟩, ⟨#[108, 101, 102, 116]⟩, ⟨#[114, 105, 103, 104, 116]⟩]
def lrW : List ByteArray := [⟨#[108, 101, 102, 116]⟩, ⟨#[114, 105, 103, 104, 116]⟩]
def rlW : List ByteArray := [⟨#[114, 105, 103, 104, 116]⟩, ⟨#[108, 101, 102, 116]⟩]
def itemW : List ByteArray := [⟨#[115, 116, 114, 101, 116, 99, 104]⟩, ⟨#[115, 116, 97, 114, 116]⟩, ⟨#[101, 110, 100]⟩, ⟨#[99, 101, 110, 116, 101, 114]⟩]
def justW : List ByteArray := [⟨#[115, 116, 97, 114, 116]⟩, ⟨#[101, 110, 100]⟩, ⟨#[99, 101, 110, 116, 101, 114]⟩, ⟨#[115, 112, 97, 99, 101, 45, 98, 101, 116, 119, 101, 101, 110]⟩]
def wrapW : List ByteArray := [⟨#[110, 111, 119, 114, 97, 112]⟩, ⟨#[119, 114, 97, 112]⟩]
def alignS (di : Int) (v : ByteArray) : Int :=
  if 0 ≤ idxW v (wordsS textW) 4 then idxW v (wordsS textW) 4 else if di = 1 then idxW v (wordsS rlW) 2 else idxW v (wordsS lrW) 2
def setLen (s : Sty) (p : Int) (x : Len) : Sty :=
  if p = 0 then { s with inl := x } else if p = 1 then { s with blk := x } else if p = 4 then { s with mn := x } else if p = 5 then { s with mx := x }
  else if p = 6 then { s with m0 := x } else if p = 7 then { s with m1 := x } else if p = 8 then { s with m2 := x } else if p = 9 then { s with m3 := x }
  else if p = 14 then { s with p0 := x } else if p = 15 then { s with p1 := x } else if p = 16 then { s with p2 := x } else if p = 17 then { s with p3 := x }
  else { s with bas := x }
def namedK (di : Int) (p : Int) (v : ByteArray) : Int :=
  if p = 25 then alignS di v else if p = 26 then idxW v (wordsS itemW) 4 else if p = 27 then idxW v (wordsS justW) 4 else idxW v (wordsS wrapW) 2
def setNamed (s : Sty) (p k : Int) : Sty :=
  if p = 25 then { s with align := k } else if p = 26 then { s with items := k } else if p = 27 then { s with just := k } else { s with wrap := k == 1 }
def setNum (s : Sty) (p x : Int) : Sty := if p = 23 then { s with grow := x } else { s with shrink := x }
/-- a style with one property more -/
def setS (di : Int) (s : Sty) (p : Int) (v : ByteArray) : Option Sty :=
  if 25 ≤ p then (if 0 ≤ namedK di p v then some (setNamed s p (namedK di p v)) else none)
  else if (parseS v).2 = 0 then
    (if p = 23 ∨ p = 24 then (if (parseS v).1.1 = 1 then some (setNum s p (parseS v).1.2) else none) else some (setLen s p ⟨(parseS v).1.1, (parseS v).1.2⟩))
  else none
def Sets (o : Option Sty) (t : Sty) (ok : Bool) : Prop := match o with | some u => t = u ∧ ok = true | none => ok = false
/-- the properties that others are mapped to -/
def Logical (p : Int) : Prop := p = 0 ∨ p = 1 ∨ p = 4 ∨ p = 5 ∨ p = 6 ∨ p = 7 ∨ p = 8 ∨ p = 9 ∨ p = 14 ∨ p = 15 ∨ p = 16 ∨ p = 17 ∨ p = 22 ∨ p = 23 ∨ p = 24 ∨ p = 25 ∨ p = 26 ∨ p = 27 ∨ p = 28
theorem parse_err (v : ByteArray) : (parseS v).2 = 0 ∨ (parseS v).2 = 800 := by
  unfold parseS checkS
  split
  · exact .inl rfl
  · exact .inr rfl
def stepS (wr di : Int) (s : Sty) (p : Int) (v : ByteArray) : Sty :=
  match setS di s (mapS wr di p).1 v with
  | some t => if mayS t = true then t else s
  | none => s
def appS (wr di : Int) (P : Nat → Int) (T : Nat → ByteArray) : Nat → Sty
  | 0 => newS
  | k + 1 => stepS wr di (appS wr di P T k) (P k) (T k)
def zeroS : Sty := ⟨⟨0, 0⟩, ⟨0, 0⟩, ⟨0, 0⟩, ⟨0, 0⟩, ⟨0, 0⟩, ⟨0, 0⟩, ⟨0, 0⟩, ⟨0, 0⟩, ⟨0, 0⟩, ⟨0, 0⟩, ⟨0, 0⟩, ⟨0, 0⟩, ⟨0, 0⟩, 0, 0, 0, 0, 0, false⟩
def propsB (P : Nat → Int) : Nat → Bool
  | 0 => true
  | n + 1 => propsB P n && inB 0 28 (P n)
def declsB (wr di : Int) (n : Nat) (P : Nat → Int) : Bool := modeMayB wr di && decide (n ≤ 16) && propsB P n
def applyS (wr di : Int) (n : Nat) (P : Nat → Int) (T : Nat → ByteArray) : Sty × Int := if declsB wr di n P = true then (appS wr di P T n, 0) else (zeroS, 1000)
theorem propsB_no {P : Nat → Int} {k n : Nat} (h : k < n) (hk : inB 0 28 (P k) = false) : propsB P n = false := by
  induction n with
  | zero => omega
  | succ n ih =>
    unfold propsB
    rcases Nat.lt_or_ge k n with h1 | h1
    · rw [ih h1]; rfl
    · obtain rfl : k = n := by omega
      rw [hk, Bool.and_false]
theorem propsB_yes {P : Nat → Int} {n : Nat} (h : propsB P n = true) {k : Nat} (hk : k < n) : inB 0 28 (P k) = true := by
  cases hb : inB 0 28 (P k) with
  | true => rfl
  | false => rw [propsB_no hk hb] at h; cases h
theorem sideS_le (wr di e : Int) (h : modeMayB wr di = true) (he : 0 ≤ e ∧ e ≤ 3) : 0 ≤ (sideS wr di e).1 ∧ (sideS wr di e).1 ≤ 3 := by
  have hm := modeMayB_true.1 h
  rcases (by omega : wr = 0 ∨ wr = 1 ∨ wr = 2) with rfl | rfl | rfl <;> rcases (by omega : di = 0 ∨ di = 1) with rfl | rfl <;> rcases (by omega : e = 0 ∨ e = 1 ∨ e = 2 ∨ e = 3) with rfl | rfl | rfl | rfl <;> decide
def logicalB (p : Int) : Bool := p == 0 || p == 1 || p == 4 || p == 5 || p == 6 || p == 7 || p == 8 || p == 9 || p == 14 || p == 15 || p == 16 || p == 17 || p == 22 || p == 23 || p == 24 || p == 25 || p == 26 || p == 27 || p == 28
theorem logical_of {p : Int} (h : logicalB p = true) : Logical p := by
  unfold logicalB at h
  simp only [Bool.or_eq_true, beq_iff_eq] at h
  unfold Logical
  omega
def mapOk (wr di p : Int) : Bool := logicalB (mapS wr di p).1 && (mapS wr di p).2 == 0
theorem map_logical (wr di p : Int) (h : modeMayB wr di = true) (hp : inB 0 28 p = true) : Logical (mapS wr di p).1 ∧ (mapS wr di p).2 = 0 := by
  have hm := modeMayB_true.1 h
  have hb := inB_true.1 hp
  obtain ⟨k, rfl⟩ := Int.eq_ofNat_of_zero_le hb.1
  have key : ∀ k : Nat, k < 29 → mapOk 0 0 k = true ∧ mapOk 0 1 k = true ∧ mapOk 1 0 k = true ∧ mapOk 1 1 k = true ∧ mapOk 2 0 k = true ∧ mapOk 2 1 k = true := by decide +kernel
  have kk := key k (by omega)
  have go : mapOk wr di k = true := by
    rcases (by omega : wr = 0 ∨ wr = 1 ∨ wr = 2) with rfl | rfl | rfl <;> rcases (by omega : di = 0 ∨ di = 1) with rfl | rfl
    · exact kk.1
    · exact kk.2.1
    · exact kk.2.2.1
    · exact kk.2.2.2.1
    · exact kk.2.2.2.2.1
    · exact kk.2.2.2.2.2
  unfold mapOk at go
  rw [Bool.and_eq_true] at go
  exact ⟨logical_of go.1, by simpa using go.2⟩
/-- left and right, told by one list -/
theorem align_ref (di : Int) (v : ByteArray) (hd : di = 0 ∨ di = 1) :
    alignS di v = (if 3 < idxW v (wordsS textR) 6 then (if idxW v (wordsS textR) 6 = 4 then di else 1 - di) else idxW v (wordsS textR) 6) := by
  have e4 : idxW v (wordsS textW) 4 = if (v.toList == (wordsS textR 0).toList) = true then 0 else if (v.toList == (wordsS textR 1).toList) = true then 1 else if (v.toList == (wordsS textR 2).toList) = true then 2 else if (v.toList == (wordsS textR 3).toList) = true then 3 else -1 := rfl
  have e6 : idxW v (wordsS textR) 6 = if (v.toList == (wordsS textR 0).toList) = true then 0 else if (v.toList == (wordsS textR 1).toList) = true then 1 else if (v.toList == (wordsS textR 2).toList) = true then 2 else if (v.toList == (wordsS textR 3).toList) = true then 3 else if (v.toList == (wordsS textR 4).toList) = true then 4 else if (v.toList == (wordsS textR 5).toList) = true then 5 else -1 := rfl
  have el : idxW v (wordsS lrW) 2 = if (v.toList == (wordsS textR 4).toList) = true then 0 else if (v.toList == (wordsS textR 5).toList) = true then 1 else -1 := rfl
  have er : idxW v (wordsS rlW) 2 = if (v.toList == (wordsS textR 5).toList) = true then 0 else if (v.toList == (wordsS textR 4).toList) = true then 1 else -1 := rfl
  unfold alignS
  rw [e4, e6, el, er]
  cases (v.toList == (wordsS textR 0).toList)
  · cases (v.toList == (wordsS textR 1).toList)
    · cases (v.toList == (wordsS textR 2).toList)
      · cases (v.toList == (wordsS textR 3).toList)
        · cases h1 : (v.toList == (wordsS textR 4).toList)
          · cases h2 : (v.toList == (wordsS textR 5).toList) <;> rcases hd with rfl | rfl <;> rfl
          · have h2 : (v.toList == (wordsS textR 5).toList) = false := by
              have := eq_of_beq h1
              rw [this]; decide +kernel
            rw [h2]
            rcases hd with rfl | rfl <;> rfl
        · rfl
      · rfl
    · rfl
  · rfl
end Go.Proofs.YtnbagilcbngdcaaDoor
