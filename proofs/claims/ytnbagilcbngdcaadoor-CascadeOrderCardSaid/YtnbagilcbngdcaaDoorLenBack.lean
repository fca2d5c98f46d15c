/- Layer 8: what is shown is read back. -/
import Derived.Test.YtnbagilcbngdcaaDoorRefShow
import Derived.Test.YtnbagilcbngdcaaDoorLenParse2
namespace Go.Proofs.YtnbagilcbngdcaaDoor
open Go.RowKit Go.Lib
set_option linter.unusedSimpArgs false
set_option linter.unusedVariables false
def foldS (v : Int) : List UInt8 → Int
  | [] => v
  | d :: l => foldS (if v ≤ 8191 then v * 10 + ((d.toNat : Int) - 48) else v) l
theorem foldS_append (a b : List UInt8) : ∀ v, foldS v (a ++ b) = foldS (foldS v a) b := by
  induction a with
  | nil => intro v; rfl
  | cons d l ih => intro v; exact ih _
theorem fold_dec : ∀ (u : Nat), u ≤ 81919 → foldS 0 (Lib.decDigits u) = u := by
  intro u
  induction u using Nat.strongRecOn with
  | ind u ih =>
    intro hu
    by_cases h : u < 10
    · rw [Lib.decDigits_one h]
      have e : (UInt8.ofNat (48 + u)).toNat = 48 + u := by simp; omega
      show (if (0 : Int) ≤ 8191 then 0 * 10 + (((UInt8.ofNat (48 + u)).toNat : Int) - 48) else 0) = u
      rw [e, if_pos (by decide)]
      omega
    · have e1 : Lib.decDigits u = Lib.decDigits (u / 10) ++ [UInt8.ofNat (48 + u % 10)] := by rw [Lib.decDigits, dif_neg h]
      rw [e1, foldS_append, ih (u / 10) (by omega) (by omega)]
      have e : (UInt8.ofNat (48 + u % 10)).toNat = 48 + u % 10 := by simp; omega
      show (if ((u / 10 : Nat) : Int) ≤ 8191 then ((u / 10 : Nat) : Int) * 10 + (((UInt8.ofNat (48 + u % 10)).toNat : Int) - 48) else ((u / 10 : Nat) : Int)) = u
      rw [e, if_pos (by omega)]
      omega
theorem dec_digits : ∀ (u : Nat), ∀ b ∈ Lib.decDigits u, 48 ≤ b.toNat ∧ b.toNat ≤ 57 := by
  intro u
  induction u using Nat.strongRecOn with
  | ind u ih =>
    intro b hb
    by_cases h : u < 10
    · rw [Lib.decDigits_one h] at hb
      have e : (UInt8.ofNat (48 + u)).toNat = 48 + u := by simp; omega
      rw [List.mem_singleton.1 hb, e]
      omega
    · have e1 : Lib.decDigits u = Lib.decDigits (u / 10) ++ [UInt8.ofNat (48 + u % 10)] := by rw [Lib.decDigits, dif_neg h]
      rw [e1] at hb
      rcases List.mem_append.1 hb with hb | hb
      · exact ih (u / 10) (by omega) b hb
      · have e : (UInt8.ofNat (48 + u % 10)).toNat = 48 + u % 10 := by simp; omega
        rw [List.mem_singleton.1 hb, e]
        omega
theorem dec_ne (u : Nat) : Lib.decDigits u ≠ [] := by
  rw [Lib.decDigits]
  by_cases h : u < 10
  · rw [dif_pos h]; simp
  · rw [dif_neg h]; simp
/-- digits from here on to the end -/
theorem numGo_list (s : ByteArray) : ∀ (l : List UInt8) (b pos : Nat) (g v : Int), s.data.toList.drop pos = l → (∀ d ∈ l, 48 ≤ d.toNat ∧ d.toNat ≤ 57) → l.length ≤ b → numGo s b pos g v = g * foldS v l := by
  intro l
  induction l with
  | nil =>
    intro b pos g v hd _ _
    have hp : ¬ pos < s.size := by
      intro hp
      have : (s.data.toList.drop pos).length = 0 := by rw [hd]; rfl
      rw [List.length_drop] at this
      have e : s.data.toList.length = s.size := Array.length_toList
      omega
    exact numGo_end hp
  | cons d l ih =>
    intro b pos g v hd hall hb
    have e : s.data.toList.length = s.size := Array.length_toList
    have hlen : (s.data.toList.drop pos).length = l.length + 1 := by rw [hd]; rfl
    rw [List.length_drop] at hlen
    have hp : pos < s.size := by omega
    have hat : s[pos]'hp = d := by
      have h1 : (s.data.toList.drop pos)[0]? = some d := by rw [hd]; rfl
      rw [List.getElem?_drop] at h1
      have h2 : s.data.toList[pos + 0]? = some (s[pos]'hp) := by
        rw [Nat.add_zero, List.getElem?_eq_getElem (by omega)]
        rfl
      rw [h2] at h1
      exact Option.some.inj h1
    have hdg := hall d (List.mem_cons_self)
    have hdec : Utf8.decode s pos = (d.toNat, 1) := by rw [decode_ascii s pos hp (by rw [hat]; omega), hat]
    obtain ⟨b, rfl⟩ : ∃ b', b = b' + 1 := ⟨b - 1, by simp at hb; omega⟩
    unfold numGo
    rw [if_pos hp, hdec]
    rw [if_neg (by dsimp only; omega), if_neg (by dsimp only; omega)]
    rw [ih b (pos + 1) g _ (by rw [← List.drop_drop, hd]; rfl) (fun x hx => hall x (List.mem_cons_of_mem _ hx)) (by simp at hb; omega)]
    rfl
theorem numS_dec (u : Nat) (hu : u ≤ 81919) : numS ⟨(Lib.decDigits u).toArray⟩ = u := by
  unfold numS
  rw [numGo_list _ (Lib.decDigits u) _ 0 1 0 (by simp) (dec_digits u) (by simp [ByteArray.size]), fold_dec u hu]
  omega
theorem numS_minus (u : Nat) (hu : u ≤ 81919) : numS ⟨(45 :: Lib.decDigits u).toArray⟩ = -(u : Int) := by
  have hsz : (⟨(45 :: Lib.decDigits u).toArray⟩ : ByteArray).size = (Lib.decDigits u).length + 1 := by simp [ByteArray.size]
  have hp : 0 < (⟨(45 :: Lib.decDigits u).toArray⟩ : ByteArray).size := by omega
  have hdec : Utf8.decode ⟨(45 :: Lib.decDigits u).toArray⟩ 0 = (45, 1) := by
    rw [decode_ascii _ 0 hp (by show (45 : UInt8).toNat < 128; decide)]
    rfl
  unfold numS
  rw [hsz]
  unfold numGo
  rw [if_pos hp, hdec, if_pos ⟨rfl, rfl⟩]
  show numGo _ (Lib.decDigits u).length 1 (-1) 0 = _
  rw [numGo_list _ (Lib.decDigits u) _ 1 (-1) 0 (by simp) (dec_digits u) (Nat.le_refl _), fold_dec u hu]
  omega
end Go.Proofs.YtnbagilcbngdcaaDoor
