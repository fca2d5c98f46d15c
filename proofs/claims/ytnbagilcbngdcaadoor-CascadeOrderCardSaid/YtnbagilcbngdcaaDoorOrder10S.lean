/- Layer 10: declarations of unlike properties may stand in any row: plainly. -/
import Derived.Test.YtnbagilcbngdcaaDoorLast10S
namespace Go.Proofs.YtnbagilcbngdcaaDoor
open Go.RowKit
set_option linter.unusedSimpArgs false
set_option linter.unusedVariables false
set_option maxHeartbeats 4000000
def ordP : List Int := [0, 1, 4, 5, 10, 11, 12, 13, 18, 19, 22, 23]
def oP (i : Nat) : Int := ordP.getD i 0
def tg (wm di : Int) (i : Nat) : Int := (mapS wm di (oP i)).1
def updS (s : Sty) (p v : Int) : Sty := if p = 23 then setNum s 23 v else setLen s p ⟨1, v⟩
def Ord (p : Int) : Prop := p = 0 ∨ p = 1 ∨ p = 4 ∨ p = 5 ∨ p = 6 ∨ p = 7 ∨ p = 8 ∨ p = 9 ∨ p = 14 ∨ p = 15 ∨ p = 16 ∨ p = 17 ∨ p = 22 ∨ p = 23
theorem upd_comm (s : Sty) (p q v x : Int) (hp : Ord p) (hq : Ord q) (h : p ≠ q) : updS (updS s p v) q x = updS (updS s q x) p v := by
  unfold Ord at hp hq
  rcases hp with rfl | rfl | rfl | rfl | rfl | rfl | rfl | rfl | rfl | rfl | rfl | rfl | rfl | rfl <;> rcases hq with rfl | rfl | rfl | rfl | rfl | rfl | rfl | rfl | rfl | rfl | rfl | rfl | rfl | rfl <;> first | rfl | exact absurd rfl h
theorem upd_may {s : Sty} (h : mayS s = true) (p : Int) (hp : Ord p) (x : Nat) (hx : x ≤ 63) : mayS (updS s p (x : Int)) = true := by
  have hl : lenB 1 (x : Int) = true := inB_true.2 (by omega)
  have o1 : oddL 0 [] ⟨1, (x : Int)⟩ = false := by unfold oddL oddB; rw [hl]; first | (simp; done) | (simp; omega)
  have o2 : oddL 0 [2] ⟨1, (x : Int)⟩ = false := by unfold oddL oddB; rw [hl]; first | (simp; done) | (simp; omega)
  have o3 : oddL 0 [0] ⟨1, (x : Int)⟩ = false := by unfold oddL oddB; rw [hl]; first | (simp; done) | (simp; omega)
  have o4 : oddL (-8191) [2] ⟨1, (x : Int)⟩ = false := by unfold oddL oddB; rw [hl]; first | (simp; done) | (simp; omega)
  have o5 : oddL 0 [0, 2] ⟨1, (x : Int)⟩ = false := by unfold oddL oddB; rw [hl]; first | (simp; done) | (simp; omega)
  have g : inB 0 100 (x : Int) = true := inB_true.2 (by omega)
  unfold mayS anyOdd at h
  simp only [Bool.and_eq_true, Bool.not_eq_true', Bool.or_eq_false_iff] at h
  obtain ⟨⟨⟨⟨⟨⟨⟨⟨⟨a1, a2⟩, a3⟩, a4⟩, a5⟩, ⟨⟨⟨b1, b2⟩, b3⟩, b4⟩, ⟨⟨c1, c2⟩, c3⟩, c4⟩, d1, d2⟩, d3⟩, d4⟩, d5⟩ := h
  unfold Ord at hp
  rcases hp with rfl | rfl | rfl | rfl | rfl | rfl | rfl | rfl | rfl | rfl | rfl | rfl | rfl | rfl <;>
    (unfold mayS anyOdd
     simp only [Bool.and_eq_true, Bool.not_eq_true', Bool.or_eq_false_iff]
     exact ⟨⟨⟨⟨⟨⟨⟨⟨⟨by first | exact o1 | exact a1, by first | exact o1 | exact a2⟩, by first | exact o1 | exact a3⟩, by first | exact o2 | exact a4⟩, by first | exact o3 | exact a5⟩, ⟨⟨⟨by first | exact o4 | exact b1, by first | exact o4 | exact b2⟩, by first | exact o4 | exact b3⟩, by first | exact o4 | exact b4⟩, ⟨⟨by first | exact o5 | exact c1, by first | exact o5 | exact c2⟩, by first | exact o5 | exact c3⟩, by first | exact o5 | exact c4⟩, by first | exact g | exact d1, d2⟩, d3⟩, d4⟩, d5⟩)
def ordB (p : Int) : Bool := p == 0 || p == 1 || p == 4 || p == 5 || p == 6 || p == 7 || p == 8 || p == 9 || p == 14 || p == 15 || p == 16 || p == 17 || p == 22 || p == 23
theorem ord_of {p : Int} (h : ordB p = true) : Ord p := by
  unfold ordB at h
  simp only [Bool.or_eq_true, beq_iff_eq] at h
  unfold Ord
  omega
def keysOk (wm di : Int) : Bool := (List.range 12).all fun i => ordB (tg wm di i) && (mapS wm di (oP i)).2 == 0 && (List.range 12).all fun j => i == j || tg wm di i != tg wm di j
theorem keysOk_all (wm di : Int) (h : modeMayB wm di = true) : keysOk wm di = true := by
  have hb := modeMayB_true.1 h
  rcases (by omega : wm = 0 ∨ wm = 1 ∨ wm = 2) with rfl | rfl | rfl <;> rcases (by omega : di = 0 ∨ di = 1) with rfl | rfl <;> decide +kernel
theorem key_is {wm di : Int} (h : modeMayB wm di = true) {i : Nat} (hi : i < 12) : Ord (tg wm di i) ∧ (mapS wm di (oP i)).2 = 0 ∧ ∀ j, j < 12 → i ≠ j → tg wm di i ≠ tg wm di j := by
  have h1 := List.all_eq_true.1 (keysOk_all wm di h) i (List.mem_range.2 hi)
  rw [Bool.and_eq_true, Bool.and_eq_true] at h1
  refine ⟨ord_of h1.1.1, by simpa using h1.1.2, fun j hj hne he => ?_⟩
  have h2 := List.all_eq_true.1 h1.2 j (List.mem_range.2 hj)
  rw [he] at h2
  simp [hne] at h2
theorem ord_step {wm di : Int} (hm : modeMayB wm di = true) {s : Sty} (h : mayS s = true) {i : Nat} (hi : i < 12) (x : Nat) (hx : x ≤ 63) : stepS wm di s (oP i) ⟨(Lib.decDigits x).toArray⟩ = updS s (tg wm di i) (x : Int) := by
  obtain ⟨ho, h2, _⟩ := key_is hm hi
  refine stepS_yes (Prod.ext rfl h2) ?_ (upd_may h _ ho x hx)
  show setS di s (tg wm di i) ⟨(Lib.decDigits x).toArray⟩ = _
  unfold setS updS
  rw [dec_parse x (by omega)]
  unfold Ord at ho
  generalize tg wm di i = p at *
  rcases ho with rfl | rfl | rfl | rfl | rfl | rfl | rfl | rfl | rfl | rfl | rfl | rfl | rfl | rfl <;> rfl
def run (wm di : Int) (V : Nat → Nat) (L : List Nat) (s : Sty) : Sty := L.foldl (fun s i => updS s (tg wm di i) (V i : Int)) s
theorem run_may {wm di : Int} (hm : modeMayB wm di = true) {V : Nat → Nat} (hV : ∀ i, V i ≤ 63) : ∀ (L : List Nat) (s : Sty), mayS s = true → (∀ i ∈ L, i < 12) → mayS (run wm di V L s) = true := by
  intro L
  induction L with
  | nil => intro s h _; exact h
  | cons i L ih => intro s h hL; exact ih _ (upd_may h _ (key_is hm (hL i (List.mem_cons_self))).1 _ (hV i)) fun j hj => hL j (List.mem_cons_of_mem _ hj)
theorem run_one {wm di : Int} (hm : modeMayB wm di = true) {V : Nat → Nat} (b : Nat) (hb : b < 12) : ∀ (A : List Nat) (s : Sty), (∀ a ∈ A, a < 12 ∧ a ≠ b) → run wm di V A (updS s (tg wm di b) (V b : Int)) = updS (run wm di V A s) (tg wm di b) (V b : Int) := by
  intro A
  induction A with
  | nil => intro s _; rfl
  | cons a A ih =>
    intro s hA
    have ha := hA a List.mem_cons_self
    show run wm di V A (updS (updS s (tg wm di b) (V b : Int)) (tg wm di a) (V a : Int)) = updS (run wm di V A (updS s (tg wm di a) (V a : Int))) (tg wm di b) (V b : Int)
    rw [upd_comm s _ _ _ _ (key_is hm hb).1 (key_is hm ha.1).1 ((key_is hm hb).2.2 a ha.1 (fun e => ha.2 e.symm)), ih _ fun j hj => hA j (List.mem_cons_of_mem _ hj)]
theorem run_turn {wm di : Int} (hm : modeMayB wm di = true) {V : Nat → Nat} (A : List Nat) : ∀ (B : List Nat) (s : Sty), (∀ a ∈ A, a < 12) → (∀ b ∈ B, b < 12) → (∀ a ∈ A, ∀ b ∈ B, a ≠ b) → run wm di V (A ++ B) s = run wm di V (B ++ A) s := by
  intro B
  induction B with
  | nil => intro s _ _ _; simp
  | cons b B ih =>
    intro s hA hB hAB
    have e : run wm di V (A ++ b :: B) s = run wm di V B (run wm di V A s |> fun t => updS t (tg wm di b) (V b : Int)) := by
      unfold run; rw [List.foldl_append]; rfl
    rw [e]
    dsimp only
    rw [← run_one hm b (hB b List.mem_cons_self) A s fun a ha => ⟨hA a ha, hAB a ha b List.mem_cons_self⟩]
    have := ih (updS s (tg wm di b) (V b : Int)) hA (fun j hj => hB j (List.mem_cons_of_mem _ hj)) fun a ha j hj => hAB a ha j (List.mem_cons_of_mem _ hj)
    have e2 : run wm di V (A ++ B) (updS s (tg wm di b) (V b : Int)) = run wm di V B (run wm di V A (updS s (tg wm di b) (V b : Int))) := by unfold run; rw [List.foldl_append]
    rw [← e2, this]
    rfl
theorem rot_list (N r : Nat) (h : r < N) : (List.range N).map (fun i => (i + r) % N) = List.range' r (N - r) ++ List.range r := by
  apply List.ext_getElem
  · simp; omega
  · intro i h1 h2
    simp only [List.length_map, List.length_range] at h1
    rw [List.getElem_map, List.getElem_range]
    rcases Nat.lt_or_ge i (N - r) with hi | hi
    · rw [List.getElem_append_left (by simpa using hi), List.getElem_range', Nat.mod_eq_of_lt (by omega)]
      omega
    · rw [List.getElem_append_right (by simpa using hi), List.getElem_range]
      simp only [List.length_range']
      have : i + r = N + (i - (N - r)) := by omega
      rw [this, Nat.add_mod_left, Nat.mod_eq_of_lt (by omega)]
theorem split_list (N r : Nat) (h : r < N) : List.range N = List.range r ++ List.range' r (N - r) := by
  apply List.ext_getElem
  · simp; omega
  · intro i h1 h2
    rw [List.getElem_range]
    rcases Nat.lt_or_ge i r with hi | hi
    · rw [List.getElem_append_left (by simpa using hi), List.getElem_range]
    · rw [List.getElem_append_right (by simpa using hi), List.getElem_range']
      simp
      omega
theorem appS_fold {wm di : Int} (hm : modeMayB wm di = true) {V : Nat → Nat} (hV : ∀ i, V i ≤ 63) (G : Nat → Nat) : ∀ n, (∀ i, i < n → G i < 12) → appS wm di (fun i => oP (G i)) (fun i => ⟨(Lib.decDigits (V (G i))).toArray⟩) n = run wm di V ((List.range n).map G) newS := by
  intro n
  induction n with
  | zero => intro _; rfl
  | succ n ih =>
    intro h
    show stepS wm di (appS wm di (fun i => oP (G i)) (fun i => ⟨(Lib.decDigits (V (G i))).toArray⟩) n) (oP (G n)) ⟨(Lib.decDigits (V (G n))).toArray⟩ = _
    rw [ord_step hm (appS_may _ _ _ _ _) (h n (by omega)) _ (hV _), ih fun i hi => h i (by omega), List.range_succ, List.map_append]
    unfold run
    rw [List.foldl_append]
    rfl
theorem order_same {wm di : Int} (hm : modeMayB wm di = true) {V : Nat → Nat} (hV : ∀ i, V i ≤ 63) (N r : Nat) (hN : N ≤ 12) (hr : r < N) :
    appS wm di (fun i => oP i) (fun i => ⟨(Lib.decDigits (V i)).toArray⟩) N = appS wm di (fun i => oP ((i + r) % N)) (fun i => ⟨(Lib.decDigits (V ((i + r) % N))).toArray⟩) N := by
  rw [appS_fold hm hV (fun i => i) N fun i hi => by omega, appS_fold hm hV (fun i => (i + r) % N) N fun i _ => Nat.lt_of_lt_of_le (Nat.mod_lt _ (by omega)) hN, rot_list N r hr]
  rw [show (List.range N).map (fun i => i) = List.range r ++ List.range' r (N - r) by rw [← split_list N r hr]; simp]
  refine run_turn hm _ _ _ (fun a ha => ?_) (fun b hb => ?_) fun a ha b hb => ?_
  · have := List.mem_range.1 ha; omega
  · have := List.mem_range'_1.1 hb; omega
  · have := List.mem_range.1 ha; have := List.mem_range'_1.1 hb; omega
end Go.Proofs.YtnbagilcbngdcaaDoor
