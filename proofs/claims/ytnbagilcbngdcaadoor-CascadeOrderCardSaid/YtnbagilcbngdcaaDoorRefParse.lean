/- Layer 8: what the document's ParseLength takes a text for. -/
import Derived.Test.YtnbagilcbngdcaaDoorLenBack2
import Derived.Test.YtnbagilcbngdcaaDoorLenUsed
namespace Go.Proofs.YtnbagilcbngdcaaDoor
open Go.RowKit Go.Lib
set_option linter.unusedSimpArgs false
set_option linter.unusedVariables false
def at8 (s : ByteArray) (i : Nat) : Int := ((s.get! i).toNat : Int)
theorem at8_bd (s : ByteArray) (i : Nat) : 0 ≤ at8 s i ∧ at8 s i ≤ 255 := by
  unfold at8
  have := (s.get! i).toNat_lt
  omega
theorem at8_get {s : ByteArray} {i : Nat} (h : i < s.size) : at8 s i = ((s[i]'h).toNat : Int) := by
  unfold at8
  have h' : i < s.data.size := h
  show ((s.data[i]!).toNat : Int) = _
  rw [getElem!_pos s.data i h']
  rfl
theorem at8_run {s : ByteArray} {i : Nat} (h : i < s.size) (w : World) : Sem.run Tryd.prog (Instr.index 9 (.string s) (.int .i64 (i : Int))) w = .ok (.int .u8 (at8 s i)) w := by
  show (Instr.index 9 (.string s) (.int .i64 (i : Int))).run Tryd.prog w = _
  rw [run_index_string w _ _ _ _ Tryd.underlying9, dif_pos ⟨by omega, by omega⟩, at8_get h]
  rfl
def digV (s : ByteArray) : Nat → Int
  | 0 => 0
  | k + 1 => 10 * digV s k + at8 s k - 48
theorem digV_bd (s : ByteArray) : ∀ k, k ≤ 6 → -100000000 ≤ digV s k ∧ digV s k ≤ 100000000 := by
  have h0 : digV s 0 = 0 := rfl
  have h1 : digV s 1 = 10 * digV s 0 + at8 s 0 - 48 := rfl
  have h2 : digV s 2 = 10 * digV s 1 + at8 s 1 - 48 := rfl
  have h3 : digV s 3 = 10 * digV s 2 + at8 s 2 - 48 := rfl
  have h4 : digV s 4 = 10 * digV s 3 + at8 s 3 - 48 := rfl
  have h5 : digV s 5 = 10 * digV s 4 + at8 s 4 - 48 := rfl
  have h6 : digV s 6 = 10 * digV s 5 + at8 s 5 - 48 := rfl
  have b0 := at8_bd s 0
  have b1 := at8_bd s 1
  have b2 := at8_bd s 2
  have b3 := at8_bd s 3
  have b4 := at8_bd s 4
  have b5 := at8_bd s 5
  intro k hk
  rcases (by omega : k = 0 ∨ k = 1 ∨ k = 2 ∨ k = 3 ∨ k = 4 ∨ k = 5 ∨ k = 6) with rfl | rfl | rfl | rfl | rfl | rfl | rfl <;> omega
def minB (t : ByteArray) : Bool := decide (0 < t.size) && at8 t 0 == 45
def tailS (t : ByteArray) : ByteArray := if minB t = true then t.extract 1 t.size else t
def six (t : ByteArray) : Nat := if t.size < 6 then t.size else 6
def rcandS (s : ByteArray) : Int × Int :=
  if autoB s = true then (0, 0)
  else (if pctB s = true then 2 else 1, if minB (cutS s) = true then -digV (tailS (cutS s)) (six (tailS (cutS s))) else digV (tailS (cutS s)) (six (tailS (cutS s))))
theorem at8_list (l : List UInt8) (i : Nat) (h : i < l.length) : at8 ⟨l.toArray⟩ i = (l[i].toNat : Int) := by
  rw [at8_get (show i < (⟨l.toArray⟩ : ByteArray).size from by rw [size_list]; exact h)]
  rfl
theorem digV_push (l : List UInt8) (d : UInt8) : ∀ k, k ≤ l.length → digV ⟨(l ++ [d]).toArray⟩ k = digV ⟨l.toArray⟩ k := by
  intro k
  induction k with
  | zero => exact fun _ => rfl
  | succ k ih =>
    intro hk
    unfold digV
    rw [ih (by omega), at8_list _ k (by simp; omega), at8_list _ k (by omega), List.getElem_append_left (by omega)]
theorem digV_dec : ∀ u : Nat, digV ⟨(Lib.decDigits u).toArray⟩ (Lib.decDigits u).length = u := by
  intro u
  induction u using Nat.strongRecOn with
  | ind u ih =>
    by_cases h : u < 10
    · rw [Lib.decDigits_one h]
      have e : (UInt8.ofNat (48 + u)).toNat = 48 + u := by simp; omega
      show 10 * 0 + at8 ⟨[UInt8.ofNat (48 + u)].toArray⟩ 0 - 48 = u
      rw [at8_list _ 0 (by simp)]
      show 10 * 0 + ((UInt8.ofNat (48 + u)).toNat : Int) - 48 = u
      rw [e]
      omega
    · have e1 : Lib.decDigits u = Lib.decDigits (u / 10) ++ [UInt8.ofNat (48 + u % 10)] := by rw [Lib.decDigits, dif_neg h]
      have e : (UInt8.ofNat (48 + u % 10)).toNat = 48 + u % 10 := by simp; omega
      rw [e1, List.length_append]
      show 10 * digV _ (Lib.decDigits (u / 10)).length + at8 _ (Lib.decDigits (u / 10)).length - 48 = u
      rw [digV_push _ _ _ (Nat.le_refl _), ih (u / 10) (by omega), at8_list _ _ (by simp), List.getElem_append_right (Nat.le_refl _)]
      simp only [Nat.sub_self, List.getElem_cons_zero]
      rw [e]
      omega
theorem dec_short (n : Nat) (h : n ≤ 8191) : (Lib.decDigits n).length ≤ 6 := by
  have : ∀ k m : Nat, m < 10 ^ k → 0 < k → (Lib.decDigits m).length ≤ k := by
    intro k
    induction k with
    | zero => intro m _ h; omega
    | succ k ih =>
      intro m hm _
      by_cases h9 : m < 10
      · rw [Lib.decDigits_one h9]; simp
      · have e1 : Lib.decDigits m = Lib.decDigits (m / 10) ++ [UInt8.ofNat (48 + m % 10)] := by rw [Lib.decDigits, dif_neg h9]
        rw [e1, List.length_append]
        rcases Nat.eq_zero_or_pos k with rfl | hk
        · simp at hm; omega
        · have := ih (m / 10) (by rw [Nat.pow_succ] at hm; omega) hk
          simp
          omega
  have := this 4 n (by omega) (by decide)
  omega
theorem digV_itoa {v : Int} (h1 : -8191 ≤ v) (h2 : v ≤ 8191) (t : ByteArray) (ht : t = ⟨(Lib.itoa v).toArray⟩) : (if minB t = true then -digV (tailS t) (six (tailS t)) else digV (tailS t) (six (tailS t))) = v := by
  subst ht
  rcases (by omega : 0 ≤ v ∨ v < 0) with h | h
  · obtain ⟨n, rfl⟩ := Int.eq_ofNat_of_zero_le h
    rw [itoa_pos]
    have hs := dec_short n (by omega)
    have hm : minB ⟨(Lib.decDigits n).toArray⟩ = false := by
      unfold minB
      cases hc : Lib.decDigits n with
      | nil => exact absurd hc (dec_ne n)
      | cons c r =>
        have hd := dec_digits n c (by rw [hc]; exact List.mem_cons_self)
        rw [at8_list _ 0 (by simp)]
        simp
        intro he
        omega
    have ht : tailS ⟨(Lib.decDigits n).toArray⟩ = ⟨(Lib.decDigits n).toArray⟩ := if_neg (by rw [hm]; decide)
    rw [hm, ht, if_neg (by decide), show six ⟨(Lib.decDigits n).toArray⟩ = (Lib.decDigits n).length from by unfold six; rw [size_list]; split <;> omega]
    exact digV_dec n
  · obtain ⟨n, hn⟩ := Int.eq_ofNat_of_zero_le (show 0 ≤ -v by omega)
    obtain rfl : v = -(n : Int) := by omega
    rw [itoa_neg n (by omega)]
    have hs := dec_short n (by omega)
    have hm : minB ⟨(45 :: Lib.decDigits n).toArray⟩ = true := by
      unfold minB
      rw [at8_list _ 0 (by simp), size_list]
      simp
    have ht : tailS ⟨(45 :: Lib.decDigits n).toArray⟩ = ⟨(Lib.decDigits n).toArray⟩ := by
      unfold tailS
      rw [if_pos hm, size_list]
      apply ByteArray.ext
      apply Array.ext'
      rw [extract_data]
      simp
    rw [hm, ht, if_pos rfl, show six ⟨(Lib.decDigits n).toArray⟩ = (Lib.decDigits n).length from by unfold six; rw [size_list]; split <;> omega, digV_dec]
theorem rcand_back {k v : Int} (h : lenB k v = true) : rcandS (lenT k v) = (k, v) := by
  rcases lenB_kinds h with ⟨rfl, rfl⟩ | ⟨rfl, v1, v2⟩ | ⟨rfl, v1, v2⟩
  · exact if_pos (by decide +kernel)
  · obtain ⟨c, r, l, b, e1, hc, e2, hb, hn⟩ := itoa_text v1 v2
    rw [show lenT 1 v = ⟨(Lib.itoa v).toArray⟩ from rfl]
    unfold rcandS
    rw [if_neg (by rw [e1, auto_list c r hc]; decide)]
    have hp : pctB ⟨(Lib.itoa v).toArray⟩ = false := by rw [e2, pct_list, hb]
    rw [show cutS ⟨(Lib.itoa v).toArray⟩ = ⟨(Lib.itoa v).toArray⟩ from if_neg (by rw [hp]; decide), digV_itoa v1 v2 _ rfl, hp]
    rfl
  · obtain ⟨c, r, l, b, e1, hc, e2, hb, hn⟩ := itoa_text (v := v) (by omega) (by omega)
    rw [show lenT 2 v = ⟨(Lib.itoa v).toArray⟩ ++ ⟨#[37]⟩ from rfl, show (⟨(Lib.itoa v).toArray⟩ : ByteArray) ++ ⟨#[37]⟩ = ⟨(Lib.itoa v ++ [37]).toArray⟩ from text_join (Lib.itoa v) [37]]
    unfold rcandS
    rw [if_neg (by rw [e1]; exact fun h => by rw [List.cons_append, auto_list c _ hc] at h; cases h), cut_list, pct_list, digV_itoa (by omega) (by omega) _ rfl]
    rfl
/-- whatever it takes a text for: checked, it is what the program says -/
theorem rcheck (s : ByteArray) : checkS s (rcandS s) = parseS s := by
  by_cases h : ∃ k v, lenB k v = true ∧ lenT k v = s
  · obtain ⟨k, v, hb, rfl⟩ := h
    rw [rcand_back hb, parse_back hb]
    exact checkS_yes hb rfl
  · have hno : ∀ k v, lenB k v = true → lenT k v ≠ s := fun k v hb e => h ⟨k, v, hb, e⟩
    rw [check_no hno]
    exact (check_no hno _).symm
end Go.Proofs.YtnbagilcbngdcaaDoor
