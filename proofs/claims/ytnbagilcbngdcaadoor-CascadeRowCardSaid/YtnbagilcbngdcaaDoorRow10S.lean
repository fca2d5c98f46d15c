/- Layer 10: of two declarations of one thing the later one wins. -/
import Derived.Test.YtnbagilcbngdcaaDoorLast10S
import Derived.Test.YtnbagilcbngdcaaDoorShape
namespace Go.Proofs.YtnbagilcbngdcaaDoor
open Go.RowKit Go.Deep
set_option linter.unusedSimpArgs false
set_option linter.unusedVariables false
set_option maxHeartbeats 8000000
set_option maxRecDepth 20000
/-- the edge that a side is, among the first e ones -/
def phF (wm di : Int) (k : Nat) : Nat → Int
  | 0 => -1
  | e + 1 => if (mapS wm di (10 + (e : Int))).1 = 6 + (k : Int) then (e : Int) else phF wm di k e
def mapM (wm di : Int) (q : Int) (k : Nat) : Bool := mapS wm di q == (6 + (k : Int), 0)
def rowOk (wm di : Int) : Bool :=
  (List.range 4).all (fun k => mapM wm di (6 + (k : Int)) k && (List.range 4).any (fun e => phF wm di k 4 == (e : Int) && mapM wm di (10 + (e : Int)) k)) &&
  (List.range 4).all (fun e => (List.range 4).any fun j => mapM wm di (10 + (e : Int)) j)
theorem rowOk_all (wm di : Int) (h : modeMayB wm di = true) : rowOk wm di = true := by
  have hb := modeMayB_true.1 h
  rcases (by omega : wm = 0 ∨ wm = 1 ∨ wm = 2) with rfl | rfl | rfl <;> rcases (by omega : di = 0 ∨ di = 1) with rfl | rfl <;> decide +kernel
theorem mapM_is {wm di q : Int} {k : Nat} (h : mapM wm di q k = true) : mapS wm di q = (6 + (k : Int), 0) := by simpa [mapM] using h
theorem row_ph (wm di : Int) (h : modeMayB wm di = true) (k : Nat) (hk : k < 4) : ∃ e : Nat, e < 4 ∧ phF wm di k 4 = (e : Int) ∧ mapS wm di (10 + (e : Int)) = (6 + (k : Int), 0) ∧ mapS wm di (6 + (k : Int)) = (6 + (k : Int), 0) := by
  have hr := rowOk_all wm di h
  unfold rowOk at hr
  rw [Bool.and_eq_true] at hr
  have h1 := List.all_eq_true.1 hr.1 k (List.mem_range.2 hk)
  rw [Bool.and_eq_true] at h1
  obtain ⟨e, he, h2⟩ := List.any_eq_true.1 h1.2
  rw [Bool.and_eq_true] at h2
  exact ⟨e, List.mem_range.1 he, by simpa using h2.1, mapM_is h2.2, mapM_is h1.1⟩
theorem row_side (wm di : Int) (h : modeMayB wm di = true) (e : Nat) (he : e < 4) : ∃ j : Nat, j < 4 ∧ mapS wm di (10 + (e : Int)) = (6 + (j : Int), 0) := by
  have hr := rowOk_all wm di h
  unfold rowOk at hr
  rw [Bool.and_eq_true] at hr
  have h1 := List.all_eq_true.1 hr.2 e (List.mem_range.2 he)
  obtain ⟨j, hj, h2⟩ := List.any_eq_true.1 h1
  exact ⟨j, List.mem_range.1 hj, mapM_is h2⟩
theorem marg_may {s : Sty} (h : mayS s = true) (j : Nat) (hj : j < 4) (x : Nat) (hx : x ≤ 8191) : mayS (setLen s (6 + (j : Int)) ⟨1, (x : Int)⟩) = true := by
  have hl : lenB 1 (x : Int) = true := inB_true.2 (by omega)
  have ho : oddL (-8191) [2] ⟨1, (x : Int)⟩ = false := by
    unfold oddL oddB
    rw [hl]
    first | (simp; done) | (simp; omega)
  rcases (by omega : j = 0 ∨ j = 1 ∨ j = 2 ∨ j = 3) with rfl | rfl | rfl | rfl
  · show mayS { s with m0 := ⟨1, (x : Int)⟩ } = true
    unfold mayS anyOdd at h ⊢
    dsimp only at h ⊢
    rw [ho]
    cases h1 : oddL (-8191) [2] s.m0 with
    | true => rw [h1] at h; simp at h
    | false => rw [h1] at h; exact h
  · show mayS { s with m1 := ⟨1, (x : Int)⟩ } = true
    unfold mayS anyOdd at h ⊢
    dsimp only at h ⊢
    rw [ho]
    cases h1 : oddL (-8191) [2] s.m1 with
    | true => rw [h1] at h; simp at h
    | false => rw [h1] at h; exact h
  · show mayS { s with m2 := ⟨1, (x : Int)⟩ } = true
    unfold mayS anyOdd at h ⊢
    dsimp only at h ⊢
    rw [ho]
    cases h1 : oddL (-8191) [2] s.m2 with
    | true => rw [h1] at h; simp at h
    | false => rw [h1] at h; exact h
  · show mayS { s with m3 := ⟨1, (x : Int)⟩ } = true
    unfold mayS anyOdd at h ⊢
    dsimp only at h ⊢
    rw [ho]
    cases h1 : oddL (-8191) [2] s.m3 with
    | true => rw [h1] at h; simp at h
    | false => rw [h1] at h; exact h
theorem marg_step {wm di q : Int} {s : Sty} (h : mayS s = true) (j : Nat) (hj : j < 4) (x : Nat) (hx : x ≤ 8191) (hm : mapS wm di q = (6 + (j : Int), 0)) : stepS wm di s q ⟨(Lib.decDigits x).toArray⟩ = setLen s (6 + (j : Int)) ⟨1, (x : Int)⟩ := by
  refine stepS_yes hm ?_ (marg_may h j hj x hx)
  unfold setS
  rw [if_neg (by omega), dec_parse x hx, if_pos rfl, if_neg (by omega)]
theorem seven : (⟨#[55]⟩ : ByteArray) = ⟨(Lib.decDigits 7).toArray⟩ := by rw [Lib.decDigits_one (by decide)]; rfl
theorem set_twice (s : Sty) (j : Nat) (hj : j < 4) (x y : Len) : setLen (setLen s (6 + (j : Int)) x) (6 + (j : Int)) y = setLen s (6 + (j : Int)) y := by
  rcases (by omega : j = 0 ∨ j = 1 ∨ j = 2 ∨ j = 3) with rfl | rfl | rfl | rfl <;> rfl
/-- a margin's cells -/
theorem marg_k (s : Sty) (j : Nat) (hj : j < 4) (x : Len) : (setLen s (6 + (j : Int)) x).C[8 + j * 2]? = some (.int .i64 x.k) := by
  rcases (by omega : j = 0 ∨ j = 1 ∨ j = 2 ∨ j = 3) with rfl | rfl | rfl | rfl <;> rfl
theorem marg_v (s : Sty) (j : Nat) (hj : j < 4) (x : Len) : (setLen s (6 + (j : Int)) x).C[8 + j * 2 + 1]? = some (.int .i64 x.v) := by
  rcases (by omega : j = 0 ∨ j = 1 ∨ j = 2 ∨ j = 3) with rfl | rfl | rfl | rfl <;> rfl
theorem marg_other (j k : Nat) (hj : j < 4) (hk : k < 4) (h : j ≠ k) (x : Len) : (setLen newS (6 + (j : Int)) x).C[8 + k * 2 + 1]? = some (.int .i64 0) := by
  rcases (by omega : j = 0 ∨ j = 1 ∨ j = 2 ∨ j = 3) with rfl | rfl | rfl | rfl <;> rcases (by omega : k = 0 ∨ k = 1 ∨ k = 2 ∨ k = 3) with rfl | rfl | rfl | rfl <;> first | rfl | exact absurd rfl h
theorem new_may : mayS newS = true := by kernel_rfl
theorem apply_one {wm di q : Int} (hm : modeMayB wm di = true) (hp : inB 0 28 q = true) (j : Nat) (hj : j < 4) (x : Nat) (hx : x ≤ 8191) (h : mapS wm di q = (6 + (j : Int), 0)) :
    applyS wm di 1 (fun _ => q) (fun _ => ⟨(Lib.decDigits x).toArray⟩) = (setLen newS (6 + (j : Int)) ⟨1, (x : Int)⟩, 0) := by
  rw [show applyS wm di 1 (fun _ => q) (fun _ => ⟨(Lib.decDigits x).toArray⟩) = (appS wm di (fun _ => q) (fun _ => ⟨(Lib.decDigits x).toArray⟩) 1, 0) from if_pos (by unfold declsB propsB propsB; rw [hm, hp]; rfl)]
  show (stepS wm di newS q ⟨(Lib.decDigits x).toArray⟩, (0 : Int)) = _
  rw [marg_step new_may j hj x hx h]
theorem apply_two {wm di q r : Int} (hm : modeMayB wm di = true) (hp : inB 0 28 q = true) (hr : inB 0 28 r = true) (j : Nat) (hj : j < 4) (x y : Nat) (hx : x ≤ 8191) (hy : y ≤ 8191) (h : mapS wm di q = (6 + (j : Int), 0)) (h2 : mapS wm di r = (6 + (j : Int), 0)) :
    applyS wm di 2 (litP [(q, ⟨(Lib.decDigits x).toArray⟩), (r, ⟨(Lib.decDigits y).toArray⟩)]) (litT [(q, ⟨(Lib.decDigits x).toArray⟩), (r, ⟨(Lib.decDigits y).toArray⟩)]) = (setLen newS (6 + (j : Int)) ⟨1, (y : Int)⟩, 0) := by
  rw [show applyS wm di 2 (litP [(q, ⟨(Lib.decDigits x).toArray⟩), (r, ⟨(Lib.decDigits y).toArray⟩)]) (litT [(q, ⟨(Lib.decDigits x).toArray⟩), (r, ⟨(Lib.decDigits y).toArray⟩)]) = (appS wm di (litP [(q, ⟨(Lib.decDigits x).toArray⟩), (r, ⟨(Lib.decDigits y).toArray⟩)]) (litT [(q, ⟨(Lib.decDigits x).toArray⟩), (r, ⟨(Lib.decDigits y).toArray⟩)]) 2, 0) from if_pos (by
    unfold declsB propsB propsB propsB
    rw [hm, show litP [(q, ⟨(Lib.decDigits x).toArray⟩), (r, ⟨(Lib.decDigits y).toArray⟩)] 0 = q from rfl, show litP [(q, ⟨(Lib.decDigits x).toArray⟩), (r, ⟨(Lib.decDigits y).toArray⟩)] 1 = r from rfl, hp, hr]
    rfl)]
  show (stepS wm di (stepS wm di newS q ⟨(Lib.decDigits x).toArray⟩) r ⟨(Lib.decDigits y).toArray⟩, (0 : Int)) = _
  rw [marg_step new_may j hj x hx h, marg_step (marg_may new_may j hj x hx) j hj y hy h2, set_twice _ j hj]
end Go.Proofs.YtnbagilcbngdcaaDoor
