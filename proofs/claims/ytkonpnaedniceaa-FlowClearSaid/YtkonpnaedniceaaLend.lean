/- Words lent, compared, kept. -/
import Derived.Test.YtkonpnaedniceaaOpenWords
import Derived.Test.YtkonpnaedniceaaThree
import Derived.Test.YtkonpnaedniceaaBreak
import Derived.Deep.AppendSrc
import Derived.Deep.QuietTactic
import Derived.BigQuiet
namespace Go.Proofs.Ytkonpnaedniceaa
open Go.RowKit
set_option linter.unusedSimpArgs false
set_option linter.unusedVariables false
def vs (S : Nat → ByteArray) (i : Nat) : Value := .string (S i)
def vi (A : Nat → Int) (i : Nat) : Value := .int .i64 (A i)
theorem wordInfo2 : (Try.prog.info? 52).map (fun i => (i.zero, i.size, i.bytes)) = some (some (.agg #[.string ByteArray.empty, .int .i64 0, .int .i64 0]), 3, 32) := by kernel_rfl
theorem three_cells {w : World} {b off n : Nat} {S : Nat → ByteArray} {A G : Nat → Int} (h : WordsAt w b off n S A G) :
    ∀ j u, (three (vs S) (vi A) (vi G) n)[j]? = some u → w.cell? ((⟨b, off, none⟩ : Addr).add j) = some u := by
  intro j u hu
  have hj : j < n * 3 := by have := (List.getElem?_eq_some_iff.1 hu).1; rwa [three_length] at this
  rw [plain_add]
  obtain ⟨e0, e1, e2⟩ := three_at (vs S) (vi A) (vi G) n (j / 3) (by omega)
  rcases (by omega : j = j / 3 * 3 ∨ j = j / 3 * 3 + 1 ∨ j = j / 3 * 3 + 2) with h0 | h0 | h0
  · rw [h0] at hu; rw [e0] at hu; rw [h0, ← hu]; exact h.text _ (by omega)
  · rw [h0] at hu; rw [e1] at hu; rw [h0, ← Nat.add_assoc, ← hu]; exact h.adv _ (by omega)
  · rw [h0] at hu; rw [e2] at hu; rw [h0, ← Nat.add_assoc, ← hu]; exact h.gap _ (by omega)
theorem three_one (S : Nat → ByteArray) (A G : Nat → Int) (n : Nat) : ∀ u ∈ three (vs S) (vi A) (vi G) n, u.oneCell' = true := by
  induction n with
  | zero => intro u hu; cases hu
  | succ n ih =>
    intro u hu
    unfold three at hu
    rcases List.mem_append.1 hu with h | h
    · exact ih u h
    · simp at h
      rcases h with rfl | rfl | rfl <;> rfl
/-- nothing is appended to a row that has none -/
theorem wpList_append_empty {P : Program} (w : World) {ops : Array Oper} {rest : List Oper} {o : Oper} {a : Act} {Q : Exit → Act → World → Prop} (hgd : o.guard = none) (s x : Operand) (t : TypeId)
    (ho : o.op = .call { callee := .builtin .append, args := #[s, x], argTypes := #[t, t] }) (e : TypeId) (i : TypeInfo) (ht : P.underlying t = some (.slice e)) (hi : P.info? e = some i)
    (g sc c : Nat) (hs : a.eval s = .slice (some ⟨g, 0, none⟩) 0 sc) (hx : a.eval x = .slice none 0 c)
    (h : wpList P ops Q rest (a.put o.dst (.slice (some ⟨g, 0, none⟩) 0 sc)) w) : wpList P ops Q (o :: rest) a w := by
  refine wpList_plain hgd fun K hK => ?_
  have hr := run_append_room_src (P := P) w t t o.type e i ht hi g 0 0 sc (.slice none 0 c) 0 [] (Src.ofNil w ht c) (Nat.zero_le _) (fun j hj => by simp at hj) (fun j hj => by simp at hj)
  unfold Oper.wp execOp
  simp only [ho, resolve, invoke, builtin, Sem.run_bind, Sem.run_pure, Result.andThen_ok, List.map_toArray, List.map_cons, List.map_nil, hs, hx, hr]
  exact hK _ _ h
/-- the words, and behind them two that no text has -/
def exS (S : Nat → ByteArray) (n i : Nat) : ByteArray := if i < n then S i else ByteArray.empty
def exA (A : Nat → Int) (n i : Nat) : Int := if i < n then A i else 77777
def exG (G : Nat → Int) (n i : Nat) : Int := if i < n then G i else 0
theorem three_congr {a b c a' b' c' : Nat → Value} : ∀ m, (∀ i, i < m → a i = a' i ∧ b i = b' i ∧ c i = c' i) → three a b c m = three a' b' c' m := by
  intro m
  induction m with
  | zero => exact fun _ => rfl
  | succ m ih =>
    intro h
    obtain ⟨h1, h2, h3⟩ := h m (by omega)
    unfold three
    rw [ih fun i hi => h i (by omega), h1, h2, h3]
theorem three_lent (S : Nat → ByteArray) (A G : Nat → Int) (n : Nat) :
    three (vs S) (vi A) (vi G) n ++ [.string ByteArray.empty, .int .i64 77777, .int .i64 0, .string ByteArray.empty, .int .i64 77777, .int .i64 0] = three (vs (exS S n)) (vi (exA A n)) (vi (exG G n)) (n + 2) := by
  have h1 : three (vs S) (vi A) (vi G) n = three (vs (exS S n)) (vi (exA A n)) (vi (exG G n)) n := three_congr n fun i hi => by
    simp [vs, vi, exS, exA, exG, hi]
  show _ = three (vs (exS S n)) (vi (exA A n)) (vi (exG G n)) n ++ _ ++ _
  rw [h1, List.append_assoc]
  have hn : ¬ (n + 1 < n) := by omega
  simp [vs, vi, exS, exA, exG, hn]
/-- words that are lent: a row of the call's own, two more behind what is seen -/
def Lent (a w : World) (v : Value) (n : Nat) (S : Nat → ByteArray) (A G : Nat → Int) : Prop :=
  ∃ g cap cur, v = .slice (some ⟨g, 0, none⟩) n cap ∧ n + 2 ≤ cap ∧ cap ≤ maxLen ∧ a.heap.size ≤ g ∧ Own w g 52 cur ∧
    ∀ i, i < n + 2 → cur[i * 3]? = some (vs (exS S n) i) ∧ cur[i * 3 + 1]? = some (vi (exA A n) i) ∧ cur[i * 3 + 2]? = some (vi (exG G n) i)
theorem Lent.kept {a w w' : World} {v : Value} {n : Nat} {S : Nat → ByteArray} {A G : Nat → Int} (h : Lent a w v n S A G) (k : Kept w w') : Lent a w' v n S A G := by
  obtain ⟨g, cap, cur, h1, h2, h3, h4, h5, h6⟩ := h
  exact ⟨g, cap, cur, h1, h2, h3, h4, h5.kept k, h6⟩
theorem Lent.wv {a w : World} {v : Value} {n : Nat} {S : Nat → ByteArray} {A G : Nat → Int} (h : Lent a w v n S A G) : WV w v n S A G := by
  obtain ⟨g, cap, cur, rfl, h2, h3, h4, h5, h6⟩ := h
  rcases Nat.eq_zero_or_pos n with rfl | hp
  · exact .inl ⟨rfl, _, _, rfl⟩
  · refine .inr ⟨g, 0, cap, rfl, hp, by omega, ⟨fun i hi => ?_, fun i hi => ?_, fun i hi => ?_⟩⟩
    · rw [Nat.zero_add]; refine (h5.cell _).trans ((h6 i (by omega)).1.trans ?_); simp [vs, exS, hi]
    · rw [Nat.zero_add]; refine (h5.cell _).trans ((h6 i (by omega)).2.1.trans ?_); simp [vi, exA, hi]
    · rw [Nat.zero_add]; refine (h5.cell _).trans ((h6 i (by omega)).2.2.trans ?_); simp [vi, exG, hi]
theorem lend_more {a w : World} {v : Value} {n : Nat} {xs : List Value} (h : w.ownsRow a.heap.size 52 3 v (n + 2) xs) :
    ∃ g cap, v = .slice (some ⟨g, 0, none⟩) (n + 2) cap ∧ n + 2 ≤ cap := by
  rcases h.2 with ⟨_, h0⟩ | ⟨g, cap, cur, hv, hge, hh, hm, _⟩
  · omega
  · exact ⟨g, cap, hv, hm⟩
end Go.Proofs.Ytkonpnaedniceaa
