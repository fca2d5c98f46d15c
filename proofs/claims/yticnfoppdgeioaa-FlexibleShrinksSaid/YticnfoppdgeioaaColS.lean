/- Layer 19: how many items stand in each line. -/
import Derived.Test.YticnfoppdgeioaaFlexMay
import Derived.Test.YticnfoppdgeioaaRowItems
import Derived.Test.YticnfoppdgeioaaOnes
import Derived.Laws.OwnMore
namespace Go.Proofs.Yticnfoppdgeioaa
open Go.RowKit
set_option linter.unusedSimpArgs false
set_option linter.unusedVariables false
def incrZ (Z : Nat → Int) (m j : Nat) : Int := if j + 1 = m then Z j + 1 else Z j
def pushZ (Z : Nat → Int) (m j : Nat) : Int := if j = m then 0 else Z j
structure Col where
  m : Nat
  Z : Nat → Int
  l : Int
def colNew (room : Int) (wrap : Bool) (m : Nat) (l x : Int) : Bool := if m = 0 then true else if wrap = true then decide (room < l + x) else false
def linStep (room : Int) (wrap : Bool) (c : Col) (x : Int) : Col :=
  if colNew room wrap c.m c.l x = true then ⟨c.m + 1, incrZ (pushZ c.Z c.m) (c.m + 1), x⟩ else ⟨c.m, incrZ c.Z c.m, c.l + x⟩
/-- the lines of the first k items: their number, how many stand in each, how long the last one is -/
def linC (O : Nat → Int) (room : Int) (wrap : Bool) : Nat → Col
  | 0 => ⟨0, fun _ => 0, 0⟩
  | k + 1 => linStep room wrap (linC O room wrap k) (O k)
theorem linStep_yes {room : Int} {wrap : Bool} {c : Col} {x : Int} (h : colNew room wrap c.m c.l x = true) : linStep room wrap c x = ⟨c.m + 1, incrZ (pushZ c.Z c.m) (c.m + 1), x⟩ := if_pos h
theorem linStep_no {room : Int} {wrap : Bool} {c : Col} {x : Int} (h : colNew room wrap c.m c.l x = false) : linStep room wrap c x = ⟨c.m, incrZ c.Z c.m, c.l + x⟩ := if_neg (by simp [h])
theorem linC_m (O : Nat → Int) (room : Int) (wrap : Bool) (k : Nat) : (linC O room wrap k).m ≤ k ∧ (0 < k → 0 < (linC O room wrap k).m) := by
  induction k with
  | zero => exact ⟨Nat.le_refl _, fun h => h⟩
  | succ k ih =>
    show (linStep room wrap (linC O room wrap k) (O k)).m ≤ k + 1 ∧ (0 < k + 1 → 0 < (linStep room wrap (linC O room wrap k) (O k)).m)
    cases h : colNew room wrap (linC O room wrap k).m (linC O room wrap k).l (O k)
    · rw [linStep_no h]
      have : (linC O room wrap k).m ≠ 0 := by
        intro h0
        rw [h0] at h
        simp [colNew] at h
      exact ⟨by show (linC O room wrap k).m ≤ k + 1; omega, fun _ => by show 0 < (linC O room wrap k).m; omega⟩
    · rw [linStep_yes h]
      exact ⟨by show (linC O room wrap k).m + 1 ≤ k + 1; omega, fun _ => by show 0 < (linC O room wrap k).m + 1; omega⟩
theorem linC_l {O : Nat → Int} {room : Int} {wrap : Bool} {n : Nat} {a : Int} (h : ∀ i, i < n → -a ≤ O i ∧ O i ≤ a) (ha : 0 ≤ a) : ∀ k, k ≤ n → -(a * (k : Int)) ≤ (linC O room wrap k).l ∧ (linC O room wrap k).l ≤ a * (k : Int) := by
  intro k
  induction k with
  | zero => intro _; simp [linC]
  | succ k ih =>
    intro hk
    have h1 := ih (by omega)
    have h2 := h k (by omega)
    have e : a * ((k + 1 : Nat) : Int) = a * (k : Int) + a := by rw [Int.natCast_add, Int.mul_add]; omega
    have hp : 0 ≤ a * (k : Int) := Int.mul_nonneg ha (Int.natCast_nonneg _)
    rw [e]
    show -(a * (k : Int) + a) ≤ (linStep room wrap (linC O room wrap k) (O k)).l ∧ (linStep room wrap (linC O room wrap k) (O k)).l ≤ a * (k : Int) + a
    cases hh : colNew room wrap (linC O room wrap k).m (linC O room wrap k).l (O k)
    · rw [linStep_no hh]
      show -(a * (k : Int) + a) ≤ (linC O room wrap k).l + O k ∧ (linC O room wrap k).l + O k ≤ _
      omega
    · rw [linStep_yes hh]
      show -(a * (k : Int) + a) ≤ O k ∧ O k ≤ _
      omega
theorem linC_Z (O : Nat → Int) (room : Int) (wrap : Bool) : ∀ k j, 0 ≤ (linC O room wrap k).Z j ∧ (linC O room wrap k).Z j ≤ (k : Int) := by
  intro k
  induction k with
  | zero => intro j; simp [linC]
  | succ k ih =>
    intro j
    have h1 := ih j
    show 0 ≤ (linStep room wrap (linC O room wrap k) (O k)).Z j ∧ (linStep room wrap (linC O room wrap k) (O k)).Z j ≤ ((k + 1 : Nat) : Int)
    cases hh : colNew room wrap (linC O room wrap k).m (linC O room wrap k).l (O k)
    · rw [linStep_no hh]
      show 0 ≤ incrZ _ _ j ∧ incrZ _ _ j ≤ _
      unfold incrZ
      split <;> omega
    · rw [linStep_yes hh]
      show 0 ≤ incrZ _ _ j ∧ incrZ _ _ j ≤ _
      unfold incrZ pushZ
      split <;> split <;> omega
theorem ones_same {a b : Nat → Int} : ∀ m, (∀ i, i < m → a i = b i) → ones a m = ones b m := by
  intro m
  induction m with
  | zero => exact fun _ => rfl
  | succ m ih => intro h; unfold ones; rw [ih fun i hi => h i (by omega), h m (by omega)]
theorem ones_push (Z : Nat → Int) (m : Nat) : ones Z m ++ [.int .i64 0] = ones (pushZ Z m) (m + 1) := by
  show _ = ones (pushZ Z m) m ++ [.int .i64 (pushZ Z m m)]
  rw [ones_same (a := Z) (b := pushZ Z m) m fun i hi => by unfold pushZ; rw [if_neg (by omega)]]
  simp [pushZ]
theorem ones_incr (Z : Nat → Int) (m : Nat) (z : Int) (hz : z = Z m + 1) : (ones Z (m + 1)).set m (.int .i64 z) = ones (incrZ Z (m + 1)) (m + 1) := by
  subst hz
  show (ones Z m ++ [_]).set m _ = ones _ m ++ [_]
  rw [List.set_append_right _ _ (by rw [ones_length]; exact Nat.le_refl _), ones_length, Nat.sub_self]
  rw [ones_same (a := Z) (b := incrZ Z (m + 1)) m fun i hi => by unfold incrZ; rw [if_neg (by omega)]]
  simp [incrZ]
theorem own_shape {w : World} {base : Nat} {e : TypeId} {size : Nat} {v : Value} {m : Nat} {xs : List Value} (h : w.ownsRow base e size v m xs) (hm : 0 < m) : ∃ g cap, v = .slice (some ⟨g, 0, none⟩) m cap ∧ m ≤ cap ∧ base ≤ g ∧ g < w.heap.size := by
  rcases h.2 with ⟨_, h0⟩ | ⟨g, cap, cur, hv, hge, hh, hmc, _⟩
  · omega
  · exact ⟨g, cap, hv, hmc, hge, (Array.getElem?_eq_some_iff.1 hh).1⟩
/-- items of six numbers each -/
def itemOf (Z : Nat → Nat → Int) (i : Nat) : Item := ⟨Z i 0, Z i 1, Z i 2, Z i 3, Z i 4, Z i 5⟩
theorem itemsAt_row {w : World} {b off n : Nat} {Z : Nat → Nat → Int} (h : RowAt w b off 6 n (intC Z)) : ItemsAt w b off n (itemOf Z) :=
  ⟨fun i hi => h i 0 hi (by decide), fun i hi => h i 1 hi (by decide), fun i hi => h i 2 hi (by decide), fun i hi => h i 3 hi (by decide), fun i hi => h i 4 hi (by decide), fun i hi => h i 5 hi (by decide)⟩
theorem itv_row {w : World} {v : Value} {n : Nat} {Z : Nat → Nat → Int} (h : RV 6 w v n (intC Z)) : ItV w v n (itemOf Z) := by
  rcases h with ⟨h0, o, cap, h1⟩ | ⟨b, off, cap, h1, h2, h3, h4⟩
  · exact .inl ⟨o, cap, h1, h0⟩
  · exact .inr ⟨b, off, cap, h1, itemsAt_row h4⟩
theorem ItV.shape {w : World} {v : Value} {n : Nat} {I : Nat → Item} (h : ItV w v n I) : ∃ o cap, v = .slice o n cap := by
  rcases h with ⟨o, cap, rfl, rfl⟩ | ⟨b, off, cap, rfl, _⟩
  · exact ⟨o, cap, rfl⟩
  · exact ⟨_, cap, rfl⟩
theorem ItV.row {w : World} {o : Option Addr} {n cap : Nat} {I : Nat → Item} (h : ItV w (.slice o n cap) n I) (hn : 0 < n) : ∃ b off, o = some ⟨b, off, none⟩ ∧ ItemsAt w b off n I := by
  rcases h with ⟨_, _, _, h0⟩ | ⟨b, off, c, hv, h4⟩
  · omega
  · injection hv with e1 e2 e3
    subst e1 e3
    exact ⟨b, off, rfl, h4⟩
/-- how much of a line an item takes -/
def outS (I : Nat → Item) (i : Nat) : Int := wishS (I i) + (I i).extra
theorem itemB_parts {x : Item} (h : itemB x = true) : (0 ≤ x.base ∧ x.base ≤ 4194304) ∧ (0 ≤ x.min ∧ x.min ≤ 4194304) ∧ (0 ≤ x.max ∧ x.max ≤ 1073741824) ∧ (0 ≤ x.grow ∧ x.grow ≤ 100) ∧ (0 ≤ x.shrink ∧ x.shrink ≤ 100) ∧ -4194304 ≤ x.extra ∧ x.extra ≤ 4194304 := by
  unfold itemB at h
  simp only [Bool.and_eq_true, inB_true] at h
  omega
theorem wishS_bd {x : Item} (h : itemB x = true) : 0 ≤ wishS x ∧ wishS x ≤ 4194304 := by
  have := itemB_parts h
  unfold wishS clampS
  omega
theorem allI_yes {I : Nat → Item} {n : Nat} (h : allI I n = true) : ∀ k, k < n → itemB (I k) = true := by
  intro k hk
  cases hb : itemB (I k)
  · rw [allI_no hk hb] at h; cases h
  · rfl
theorem outS_bd {I : Nat → Item} {n : Nat} (h : allI I n = true) : ∀ i, i < n → -8388608 ≤ outS I i ∧ outS I i ≤ 8388608 := by
  intro i hi
  have h1 := wishS_bd (allI_yes h i hi)
  have h2 := itemB_parts (allI_yes h i hi)
  unfold outS
  omega
end Go.Proofs.Yticnfoppdgeioaa
