/- Layer 8: what is shown is read back: texts. -/
import Derived.Test.YtnbagilcbngdcaaDoorLenBack
import Derived.Lib.IndexBytes
namespace Go.Proofs.YtnbagilcbngdcaaDoor
open Go.RowKit Go.Lib
set_option linter.unusedSimpArgs false
set_option linter.unusedVariables false
theorem size_list (l : List UInt8) : (⟨l.toArray⟩ : ByteArray).size = l.length := List.size_toArray ..
theorem pct_list (l : List UInt8) (b : UInt8) : pctB ⟨(l ++ [b]).toArray⟩ = (b == 37) := by
  unfold pctB
  rw [size_list, ByteArray.toList_eq, extract_data]
  simp
theorem cut_list (l : List UInt8) : cutS ⟨(l ++ [37]).toArray⟩ = ⟨l.toArray⟩ := by
  unfold cutS
  rw [pct_list, if_pos (by decide), size_list]
  apply ByteArray.ext
  apply Array.ext'
  rw [extract_data]
  simp
theorem dec_last (u : Nat) : ∃ l b, Lib.decDigits u = l ++ [b] ∧ (b == 37) = false := by
  have hne := dec_ne u
  refine ⟨(Lib.decDigits u).dropLast, (Lib.decDigits u).getLast hne, (List.dropLast_concat_getLast hne).symm, ?_⟩
  have := dec_digits u _ (List.getLast_mem hne)
  cases h : ((Lib.decDigits u).getLast hne == 37) with
  | false => rfl
  | true =>
    have e := eq_of_beq h
    rw [e] at this
    exact absurd this.1 (by decide)
theorem auto_list (c : UInt8) (l : List UInt8) (h : c.toNat ≤ 57) : autoB ⟨(c :: l).toArray⟩ = false := by
  unfold autoB
  rw [ByteArray.toList_eq]
  cases hb : ((⟨(c :: l).toArray⟩ : ByteArray).data.toList == [97, 117, 116, 111]) with
  | false => rfl
  | true =>
    have e : (c :: l) = [97, 117, 116, 111] := by have := eq_of_beq hb; simpa using this
    injection e with e1 e2
    subst e1
    exact absurd h (by decide)
/-- the digits of a shown number: a first byte that is no letter, a last one that is no % -/
theorem itoa_text {v : Int} (h1 : -8191 ≤ v) (h2 : v ≤ 8191) : ∃ c r l b, Lib.itoa v = c :: r ∧ c.toNat ≤ 57 ∧ Lib.itoa v = l ++ [b] ∧ (b == 37) = false ∧ numS ⟨(Lib.itoa v).toArray⟩ = v := by
  rcases (by omega : 0 ≤ v ∨ v < 0) with h | h
  · obtain ⟨n, rfl⟩ := Int.eq_ofNat_of_zero_le h
    rw [itoa_pos]
    obtain ⟨l, b, e, hb⟩ := dec_last n
    have hd := dec_digits n
    have hn := numS_dec n (by omega)
    cases hc : Lib.decDigits n with
    | nil => exact absurd hc (dec_ne n)
    | cons c r =>
      rw [hc] at e hd hn
      exact ⟨c, r, l, b, rfl, (hd c List.mem_cons_self).2, e, hb, hn⟩
  · obtain ⟨n, hn⟩ := Int.eq_ofNat_of_zero_le (show 0 ≤ -v by omega)
    obtain rfl : v = -(n : Int) := by omega
    rw [itoa_neg n (by omega)]
    obtain ⟨l, b, e, hb⟩ := dec_last n
    exact ⟨45, _, 45 :: l, b, rfl, by decide, by rw [e]; rfl, hb, numS_minus n (by omega)⟩
theorem cand_back {k v : Int} (h : lenB k v = true) : candS (lenT k v) = (k, v) := by
  rcases lenB_kinds h with ⟨rfl, rfl⟩ | ⟨rfl, v1, v2⟩ | ⟨rfl, v1, v2⟩
  · exact if_pos (by decide +kernel)
  · obtain ⟨c, r, l, b, e1, hc, e2, hb, hn⟩ := itoa_text v1 v2
    rw [show lenT 1 v = ⟨(Lib.itoa v).toArray⟩ from rfl]
    unfold candS
    rw [if_neg (by rw [e1, auto_list c r hc]; decide)]
    have hp : pctB ⟨(Lib.itoa v).toArray⟩ = false := by rw [e2, pct_list, hb]
    rw [show cutS ⟨(Lib.itoa v).toArray⟩ = ⟨(Lib.itoa v).toArray⟩ from if_neg (by rw [hp]; decide), hn, hp]
    rfl
  · obtain ⟨c, r, l, b, e1, hc, e2, hb, hn⟩ := itoa_text (v := v) (by omega) (by omega)
    rw [show lenT 2 v = ⟨(Lib.itoa v).toArray⟩ ++ ⟨#[37]⟩ from rfl, show (⟨(Lib.itoa v).toArray⟩ : ByteArray) ++ ⟨#[37]⟩ = ⟨(Lib.itoa v ++ [37]).toArray⟩ from text_join (Lib.itoa v) [37]]
    unfold candS
    rw [if_neg (by rw [e1]; exact fun h => by rw [List.cons_append, auto_list c _ hc] at h; cases h), cut_list, pct_list, hn]
    rfl
theorem checkS_yes {s : ByteArray} {k v : Int} (h : lenB k v = true) (e : lenT k v = s) : checkS s (k, v) = ((k, v), 0) := if_pos ⟨h, by rw [e]; exact beq_self_eq_true _⟩
theorem parse_back {k v : Int} (h : lenB k v = true) : parseS (lenT k v) = ((k, v), 0) := by
  unfold parseS
  rw [cand_back h]
  exact checkS_yes h rfl
/-- a text that is no length's: whatever is taken for it, the check finds that it is none -/
theorem check_no {s : ByteArray} (h : ∀ k v, lenB k v = true → lenT k v ≠ s) (x : Int × Int) : checkS s x = ((0, 0), 800) :=
  if_neg fun hx => h x.1 x.2 hx.1 (by have := eq_of_beq hx.2; rw [ByteArray.toList_eq, ByteArray.toList_eq] at this; apply ByteArray.ext; exact Array.ext' this)
end Go.Proofs.YtnbagilcbngdcaaDoor
