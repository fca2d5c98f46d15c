/- Layer 17: floats that are placed one behind the other. -/
import Derived.Test.YtkonpnaedniceaaLaw17Clears
namespace Go.Proofs.Ytkonpnaedniceaa
open Go.RowKit Go.Deep
set_option linter.unusedSimpArgs false
set_option linter.unusedVariables false
/-- floats as they have been placed -/
structure Good1 (b : Int) (x : Exc) : Prop where
  side : x.side = 1 ∨ x.side = 2
  si0 : 1 ≤ x.si
  si1 : x.si ≤ 512
  sb0 : 1 ≤ x.sb
  sb1 : x.sb ≤ 128
  ab0 : 0 ≤ x.ab
  ab1 : x.ab + x.sb ≤ b
  ai0 : -512 ≤ x.ai
  ai1 : x.ai ≤ 1123
def GoodR (Z : Nat → Nat → Int) (k : Nat) : Prop := ∀ i, i < k → Good1 (131 * (k : Int)) (excOf Z i)
theorem Good1.may {b : Int} {x : Exc} (h : Good1 b x) (hb : b ≤ 4194304) : excB x = true := by
  obtain ⟨h0, h1, h2, h3, h4, h5, h6, h7, h8⟩ := h
  unfold excB
  rw [inB_true.2 (show 1 ≤ x.side ∧ x.side ≤ 2 by omega), inB_true.2 (show 0 ≤ x.si ∧ x.si ≤ 4194304 by omega), inB_true.2 (show 0 ≤ x.sb ∧ x.sb ≤ 4194304 by omega), inB_true.2 (show 0 ≤ x.ab ∧ x.ab ≤ 4194304 by omega), mayB_true.2 (show -1073741824 ≤ x.ai ∧ x.ai ≤ 1073741824 by omega)]
  rfl
theorem bandS_next (E : Nat → Exc) (room y h : Int) (k : Nat) : (bandS E room y h k).1 ≤ (bandS E room y h (k + 1)).1 ∧ (bandS E room y h (k + 1)).2 ≤ (bandS E room y h k).2 := by
  show _ ≤ (if meetsB (E k) y h = true then (if (E k).side = 1 then (max (bandS E room y h k).1 ((E k).ai + (E k).si), (bandS E room y h k).2) else ((bandS E room y h k).1, min (bandS E room y h k).2 (E k).ai)) else bandS E room y h k : Int × Int).1 ∧ (if meetsB (E k) y h = true then (if (E k).side = 1 then (max (bandS E room y h k).1 ((E k).ai + (E k).si), (bandS E room y h k).2) else ((bandS E room y h k).1, min (bandS E room y h k).2 (E k).ai)) else bandS E room y h k : Int × Int).2 ≤ _
  split
  · split <;> dsimp only <;> omega
  · exact ⟨Int.le_refl _, Int.le_refl _⟩
theorem bandS_low (E : Nat → Exc) (room y h : Int) : ∀ k, 0 ≤ (bandS E room y h k).1 ∧ (bandS E room y h k).2 ≤ room := by
  intro k
  induction k with
  | zero => exact ⟨Int.le_refl _, Int.le_refl _⟩
  | succ k ih => have := bandS_next E room y h k; omega
theorem band_more (E : Nat → Exc) (room y h : Int) (k : Nat) : (bandS E room y h k).1 ≤ (bandS E room y h (k + 1)).1 ∧ (bandS E room y h (k + 1)).2 ≤ (bandS E room y h k).2 := bandS_next E room y h k
theorem band_beside (E : Nat → Exc) (room y h : Int) : ∀ k i, i < k → meetsB (E i) y h = true → ((E i).side = 1 → (E i).ai + (E i).si ≤ (bandS E room y h k).1) ∧ ((E i).side ≠ 1 → (bandS E room y h k).2 ≤ (E i).ai) := by
  intro k
  induction k with
  | zero => intro i hi; omega
  | succ k ih =>
    intro i hi hm
    have hmono := band_more E room y h k
    rcases Nat.lt_or_ge i k with h1 | h1
    · obtain ⟨a, b⟩ := ih i h1 hm
      exact ⟨fun hs => by have := a hs; omega, fun hs => by have := b hs; omega⟩
    · obtain rfl : i = k := by omega
      have e : bandS E room y h (i + 1) = if (E i).side = 1 then (max (bandS E room y h i).1 ((E i).ai + (E i).si), (bandS E room y h i).2) else ((bandS E room y h i).1, min (bandS E room y h i).2 (E i).ai) := by
        rw [show bandS E room y h (i + 1) = if meetsB (E i) y h = true then (if (E i).side = 1 then (max (bandS E room y h i).1 ((E i).ai + (E i).si), (bandS E room y h i).2) else ((bandS E room y h i).1, min (bandS E room y h i).2 (E i).ai)) else bandS E room y h i from rfl, if_pos hm]
      rw [e]
      exact ⟨fun hs => by rw [if_pos hs]; dsimp only; omega, fun hs => by rw [if_neg hs]; dsimp only; omega⟩
theorem band_free {E : Nat → Exc} {room y h : Int} {n : Nat} (ha : anyE E y h n = false) : bandS E room y h n = (0, room) := by
  have key : ∀ k, k ≤ n → bandS E room y h k = (0, room) := by
    intro k
    induction k with
    | zero => intro _; rfl
    | succ k ih =>
      intro hk
      have hm : meetsB (E k) y h = false := by
        cases hb : meetsB (E k) y h
        · rfl
        · rw [anyE_yes (k := k) (by omega) hb] at ha; cases ha
      rw [show bandS E room y h (k + 1) = if meetsB (E k) y h = true then (if (E k).side = 1 then (max (bandS E room y h k).1 ((E k).ai + (E k).si), (bandS E room y h k).2) else ((bandS E room y h k).1, min (bandS E room y h k).2 (E k).ai)) else bandS E room y h k from rfl, hm, if_neg (by decide)]
      exact ih (by omega)
  exact key n (Nat.le_refl _)
/-- where a float stands, told without counting -/
theorem place_facts {E : Nat → Exc} {room : Int} {n : Nat} {y side clear si sb t i : Int} (hsi : 1 ≤ si) (hside : side = 1 ∨ side = 2) (ht : placeY E room n y clear si sb = t) (hi : placeI E room n y side clear si sb = i) :
    (anyE E t sb n = false ∧ (i = 0 ∨ i = room - si ∨ (room < 0 ∧ i = 0 - si))) ∨ (0 ≤ i ∧ i + si ≤ room ∧ ∀ j, j < n → meetsB (E j) t sb = true → ((E j).side = 1 → (E j).ai + (E j).si ≤ i) ∧ ((E j).side ≠ 1 → i + si ≤ (E j).ai)) := by
  have hf := (settle_ind (E := E) (room := room) (n := n) (si := si) (sb := sb) (fun _ => True) (fun _ _ _ _ _ => trivial) (startS E n y clear) trivial).2.1
  rw [show settleS E room n si sb (startS E n y clear) = t from ht] at hf
  have hlow := bandS_low E room t sb n
  have hbes := band_beside E room t sb n
  unfold placeI at hi
  rw [ht] at hi
  cases ha : anyE E t sb n with
  | false =>
    left
    refine ⟨rfl, ?_⟩
    rw [band_free ha] at hi
    rcases hside with rfl | rfl
    · rw [if_neg (by decide)] at hi; left; exact hi.symm
    · rw [if_pos rfl] at hi; dsimp only at hi; omega
  | true =>
    right
    unfold fitsB at hf
    rw [ha, Bool.not_true, Bool.or_false, decide_eq_true_eq] at hf
    have hi2 : (bandS E room t sb n).1 ≤ i ∧ i + si ≤ (bandS E room t sb n).2 := by
      rcases hside with rfl | rfl
      · rw [if_neg (by decide)] at hi; omega
      · rw [if_pos rfl] at hi; omega
    refine ⟨by omega, by omega, fun j hj hm => ?_⟩
    obtain ⟨a, b⟩ := hbes j hj hm
    exact ⟨fun h => by have := a h; omega, fun h => by have := b h; omega⟩
/-- how far down a float may come to stand -/
theorem place_most {E : Nat → Exc} {room : Int} {n : Nat} {y clear si sb b : Int} (hy : y ≤ b) (h0 : 0 ≤ b) (hE : ∀ j, j < n → (E j).ab ≤ b ∧ endS (E j) ≤ b) : placeY E room n y clear si sb ≤ b := by
  have hbel : ∀ k, k ≤ n → belowS E clear k ≤ b := by
    intro k
    induction k with
    | zero => intro _; exact h0
    | succ k ih =>
      intro hk
      have h1 := ih (by omega)
      have h2 := hE k (by omega)
      rw [show belowS E clear (k + 1) = if clearsB clear (E k).side = true then max (belowS E clear k) (endS (E k)) else belowS E clear k from rfl]
      split <;> omega
  have htop : ∀ k, k ≤ n → topS E (max y (belowS E clear n)) k ≤ b := by
    intro k
    induction k with
    | zero => intro _; have := hbel n (Nat.le_refl _); show max y (belowS E clear n) ≤ b; omega
    | succ k ih =>
      intro hk
      have h1 := ih (by omega)
      have h2 := hE k (by omega)
      rw [show topS E (max y (belowS E clear n)) (k + 1) = max (topS E (max y (belowS E clear n)) k) (E k).ab from rfl]
      omega
  refine (settle_ind (E := E) (room := room) (n := n) (si := si) (sb := sb) (fun z => z ≤ b) (fun z hz _ _ ⟨k, hk, h3⟩ => ?_) (startS E n y clear) (htop n (Nat.le_refl _))).1
  rw [h3]
  exact (hE k hk).2
structure Ruled (Z : Nat → Nat → Int) (r : Int) (k : Nat) (y side clear si sb : Int) (x : Exc) : Prop where
  is : placeR (excOf Z) r k y side clear si sb = (x, 0)
  good : Good1 (131 * ((k + 1 : Nat) : Int)) x
  cells : x.side = side ∧ x.si = si ∧ x.sb = sb
  low : y ≤ x.ab
  each : ∀ j, j < k → (excOf Z j).ab ≤ x.ab ∧ (clear = 3 → (excOf Z j).ab + (excOf Z j).sb ≤ x.ab) ∧ ((excOf Z j).ab + (excOf Z j).sb ≤ x.ab ∨ (excOf Z j).ai + (excOf Z j).si ≤ x.ai ∨ x.ai + si ≤ (excOf Z j).ai)
  room : si ≤ r → 0 ≤ x.ai ∧ x.ai + si ≤ r
theorem rules_step {Z : Nat → Nat → Int} {r : Int} {k : Nat} {y side clear si sb : Int} (h : GoodR Z k) (hk : k ≤ 14) (hr : 100 ≤ r ∧ r ≤ 1123) (hy : 0 ≤ y ∧ y ≤ 3 * ((k + 1 : Nat) : Int)) (hside : side = 1 ∨ side = 2) (hclear : clear = 0 ∨ clear = 3) (hsi : 1 ≤ si ∧ si ≤ 512) (hsb : 1 ≤ sb ∧ sb ≤ 128) :
    ∃ x, Ruled Z r k y side clear si sb x := by
  have hall : allE (excOf Z) k = true := allE_of fun i hi => (h i hi).may (by omega)
  have hb : placeB (excOf Z) r k y side clear si sb = true := by
    unfold placeB
    rw [mayX_true.2 ⟨by omega, by omega, hall⟩, inB_true.2 (show 0 ≤ y ∧ y ≤ 4194304 by omega), inB_true.2 (show 0 ≤ si ∧ si ≤ 4194304 by omega), inB_true.2 (show 0 ≤ sb ∧ sb ≤ 4194304 by omega), inB_true.2 (show 1 ≤ side ∧ side ≤ 2 by omega), inB_true.2 (show 0 ≤ clear ∧ clear ≤ 3 by omega)]
    rfl
  obtain ⟨t, ht⟩ : ∃ t, placeY (excOf Z) r k y clear si sb = t := ⟨_, rfl⟩
  obtain ⟨i, hi⟩ : ∃ i, placeI (excOf Z) r k y side clear si sb = i := ⟨_, rfl⟩
  have hfac := place_facts hsi.1 hside ht hi
  obtain ⟨l1, l2, l3⟩ := placeY_low (excOf Z) r k y clear si sb
  rw [ht] at l1 l2 l3
  have hmost : t ≤ 131 * (k : Int) + 3 := by
    rw [← ht]
    refine place_most (by omega) (by omega) fun j hj => ?_
    have := h j hj
    have := this.ab1
    have := (h j hj).sb0
    unfold endS
    omega
  have hE : placeE (excOf Z) r k y side clear si sb = ⟨i, t, si, sb, side⟩ := by unfold placeE; rw [ht, hi]
  have hi2 : -512 ≤ i ∧ i ≤ 1123 := by
    rcases hfac with ⟨_, h1⟩ | ⟨h1, h2, _⟩ <;> omega
  refine ⟨⟨i, t, si, sb, side⟩, by rw [placeR_yes hb, hE], ⟨hside, hsi.1, hsi.2, hsb.1, hsb.2, by show 0 ≤ t; omega, by show t + sb ≤ _; omega, hi2.1, hi2.2⟩, ⟨rfl, rfl, rfl⟩, l1, fun j hj => ⟨l2 j hj, fun hc => l3 j hj ?_, ?_⟩, fun hsr => ?_⟩
  · subst hc
    rcases (h j hj).side with h1 | h1 <;> rw [h1] <;> rfl
  · rcases hfac with ⟨ha, _⟩ | ⟨_, _, h3⟩
    · left
      have hl := l2 j hj
      have hm : meetsB (excOf Z j) t sb = false := by
        cases hb : meetsB (excOf Z j) t sb
        · rfl
        · rw [anyE_yes hj hb] at ha; cases ha
      unfold meetsB endS at hm
      simp only [Bool.and_eq_false_iff, decide_eq_false_iff_not] at hm
      show (excOf Z j).ab + (excOf Z j).sb ≤ t
      omega
    · by_cases hle : (excOf Z j).ab + (excOf Z j).sb ≤ t
      · exact .inl hle
      · right
        have hl := l2 j hj
        obtain ⟨a, b⟩ := h3 j hj (by
          unfold meetsB endS
          rw [decide_eq_true (by omega), decide_eq_true (by omega)]; rfl)
        rcases (h j hj).side with h1 | h1
        · exact .inl (a h1)
        · exact .inr (b (by omega))
  · show 0 ≤ i ∧ i + si ≤ r
    rcases hfac with ⟨_, h1⟩ | ⟨h1, h2, _⟩ <;> omega
/-- one more behind the first k -/
def plusZ (Z : Nat → Nat → Int) (k : Nat) (x : Exc) (i j : Nat) : Int := if i < k then Z i j else [x.ai, x.ab, x.si, x.sb, x.side].getD j 0
theorem plus_flat (Z : Nat → Nat → Int) (k : Nat) (x : Exc) : flat 5 (intC (plusZ Z k x)) (k + 1) = flat 5 (intC Z) k ++ [.int .i64 x.ai, .int .i64 x.ab, .int .i64 x.si, .int .i64 x.sb, .int .i64 x.side] := by
  show flat 5 (intC (plusZ Z k x)) k ++ (List.range 5).map (intC (plusZ Z k x) k) = _
  rw [flat_congr (C := intC (plusZ Z k x)) (D := intC Z) k fun i j hi _ => by unfold intC plusZ; rw [if_pos hi]]
  congr 1
  unfold intC plusZ
  simp [List.range, List.range.loop]
theorem plus_good {Z : Nat → Nat → Int} {k : Nat} {x : Exc} (h : GoodR Z k) (hx : Good1 (131 * ((k + 1 : Nat) : Int)) x) : GoodR (plusZ Z k x) (k + 1) := by
  intro i hi
  rcases Nat.lt_or_ge i k with h1 | h1
  · have e : excOf (plusZ Z k x) i = excOf Z i := by unfold excOf plusZ; simp only [if_pos h1]
    rw [e]
    obtain ⟨a, b, c, d, e, f, g, h2, h3⟩ := h i h1
    exact ⟨a, b, c, d, e, f, by omega, h2, h3⟩
  · obtain rfl : i = k := by omega
    have e : excOf (plusZ Z i x) i = x := by unfold excOf plusZ; simp
    rw [e]
    exact hx
end Go.Proofs.Ytkonpnaedniceaa
