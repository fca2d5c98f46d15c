/- Layer 5: Split, of any text: the program's and the document's. -/
import Derived.Test.YtbegdnpckjfgbaaWordsSplit
import Derived.Test.YtbegdnpckjfgbaaRefSplit
namespace Go.Proofs.Ytbegdnpckjfgbaa
open Go.RowKit Go.Lib
set_option linter.unusedSimpArgs false
set_option linter.unusedVariables false
theorem owns_lower {w : World} {base base' : Nat} {e : TypeId} {size : Nat} {v : Value} {n : Nat} {xs : List Value} (h : w.ownsRow base e size v n xs) (hb : base' ≤ base) : w.ownsRow base' e size v n xs := by
  refine ⟨h.1, ?_⟩
  rcases h.2 with h0 | ⟨g, cap, cur, hv, h1, rest⟩
  · exact .inl h0
  · exact .inr ⟨g, cap, cur, hv, by omega, rest⟩
def splE (s : ByteArray) : Int := if s.size ≤ 80 then 0 else 500
def splN (s : ByteArray) : Nat := if s.size ≤ 80 then wN s else 0
theorem splN_80 (s : ByteArray) : splN s ≤ 80 := by
  unfold splN
  split
  · unfold wN; exact Nat.le_trans (nW_le _ _) (by assumption)
  · omega
def SplitAll (s : ByteArray) (w : World) (e : Ending) (w' : World) : Prop := ∃ u, e = .returned (.tuple #[u, .int .i64 (splE s)]) ∧ NewThree 36 w w' u (splN s) (vs (wT s)) (vi (wA s)) (vi (wG s)) ∧ Kept w w'
theorem wordsSplit_any (s : ByteArray) (w : World) (hm : s.size ≤ 140737488351232) : Calls Try.prog 16 #[.string s] w (SplitAll s w) := by
  by_cases h : s.size ≤ 80
  · refine (wordsSplit_ok s w h).mono fun e w' ⟨u, he, ho, hk⟩ => ⟨u, ?_, ?_, hk⟩
    · rw [he]; unfold splE; rw [if_pos h]
    · unfold splN; rw [if_pos h]; exact newThree_of (owns_lower ho (by omega))
  · refine (wordsSplit_long s w (by omega) hm).mono fun e w' ⟨he, hk⟩ => ⟨.slice none 0 0, ?_, ?_, hk⟩
    · rw [he]; unfold splE; rw [if_neg h]
    · unfold splN; rw [if_neg h]; exact .inl ⟨rfl, none, 0, rfl, by decide⟩
theorem refSplit_any (s : ByteArray) (w : World) (hm : s.size ≤ 140737488351232) : Calls Try.prog 17 #[.string s] w (SplitAll s w) := by
  by_cases h : s.size ≤ 80
  · refine (refSplit_ok s w h).mono fun e w' ⟨u, he, ho, hk⟩ => ⟨u, ?_, ?_, hk⟩
    · rw [he]; unfold splE; rw [if_pos h]
    · unfold splN; rw [if_pos h]; exact newThree_of ho
  · refine (refSplit_long s w (by omega) hm).mono fun e w' ⟨he, hk⟩ => ⟨.slice none 0 0, ?_, ?_, hk⟩
    · rw [he]; unfold splE; rw [if_neg h]
    · unfold splN; rw [if_neg h]; exact .inl ⟨rfl, none, 0, rfl, by decide⟩
theorem NewThree.wv {t : TypeId} {a w : World} {v : Value} {n : Nat} {S : Nat → ByteArray} {A G : Nat → Int} (h : NewThree t a w v n (vs S) (vi A) (vi G)) : WV w v n S A G := by
  rcases h with ⟨rfl, o, cap, rfl, _⟩ | ⟨b, cap, cur, rfl, h2, h3, h4, h5, h6, h7, h8⟩
  · exact .inl ⟨rfl, o, cap, rfl⟩
  · refine .inr ⟨b, 0, cap, rfl, h2, h3, ⟨fun i hi => ?_, fun i hi => ?_, fun i hi => ?_⟩⟩
    · rw [Nat.zero_add]; exact (h6.cell _).trans (h8 i hi).1
    · rw [Nat.zero_add]; exact (h6.cell _).trans (h8 i hi).2.1
    · rw [Nat.zero_add]; exact (h6.cell _).trans (h8 i hi).2.2
theorem wv_same {w : World} {v : Value} {n : Nat} {S S' : Nat → ByteArray} {A G A' G' : Nat → Int} (h : WV w v n S A G) (e : ∀ i, i < n → S i = S' i ∧ A i = A' i ∧ G i = G' i) : WV w v n S' A' G' := by
  rcases h with h | ⟨b, off, cap, h1, h2, h3, h4⟩
  · exact .inl h
  · refine .inr ⟨b, off, cap, h1, h2, h3, ⟨fun i hi => ?_, fun i hi => ?_, fun i hi => ?_⟩⟩
    · rw [← (e i hi).1]; exact h4.text i hi
    · rw [← (e i hi).2.1]; exact h4.adv i hi
    · rw [← (e i hi).2.2]; exact h4.gap i hi
end Go.Proofs.Ytbegdnpckjfgbaa
