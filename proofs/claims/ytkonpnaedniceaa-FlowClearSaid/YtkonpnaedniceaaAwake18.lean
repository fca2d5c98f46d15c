/- Layer 18: what every program answers that is one; a text's words. -/
import Derived.Test.YtkonpnaedniceaaRefSplit
import Derived.Test.YtkonpnaedniceaaFlow
import Derived.Test.YtkonpnaedniceaaRowExclusions
import Derived.Test.YtkonpnaedniceaaRowRects
namespace Go.Proofs.Ytkonpnaedniceaa
open Go.RowKit Go.Deep
set_option linter.unusedSimpArgs false
set_option linter.unusedVariables false
theorem wv_of {w : World} {base : Nat} {u : Value} {n : Nat} {S : Nat → ByteArray} {A G : Nat → Int} (h : w.ownsRow base 52 3 u n (three (vs S) (vi A) (vi G) n)) : WV w u n S A G := by
  rcases Nat.eq_zero_or_pos n with rfl | hn
  · obtain ⟨o, cap, rfl⟩ := row_len h
    exact .inl ⟨rfl, o, cap, rfl⟩
  · obtain ⟨g, cap, rfl, hc, hb, hl⟩ := row_shape h hn
    have key : ∀ i, i < n → _ := fun i hi => three_at (vs S) (vi A) (vi G) n i hi
    refine .inr ⟨g, 0, cap, rfl, hn, hc, ⟨fun i hi => ?_, fun i hi => ?_, fun i hi => ?_⟩⟩
    · rw [Nat.zero_add]; exact (h.cellAt _ (by omega)).trans (key i hi).1
    · rw [Nat.zero_add]; exact (h.cellAt _ (by omega)).trans (key i hi).2.1
    · rw [Nat.zero_add]; exact (h.cellAt _ (by omega)).trans (key i hi).2.2
theorem WV.congr {w : World} {v : Value} {n : Nat} {S S' : Nat → ByteArray} {A G A' G' : Nat → Int} (h : WV w v n S A G) (e : ∀ i, i < n → S i = S' i ∧ A i = A' i ∧ G i = G' i) : WV w v n S' A' G' := by
  rcases h with h | ⟨b, off, cap, h1, h2, h3, h4⟩
  · exact .inl h
  · refine .inr ⟨b, off, cap, h1, h2, h3, ⟨fun i hi => ?_, fun i hi => ?_, fun i hi => ?_⟩⟩
    · rw [← (e i hi).1]; exact h4.text i hi
    · rw [← (e i hi).2.1]; exact h4.adv i hi
    · rw [← (e i hi).2.2]; exact h4.gap i hi
/-- the words of a text of at most 80 bytes -/
theorem refSplit_wv (s : ByteArray) (w : World) (hs : s.size ≤ 80) :
    Calls Try.prog 20 #[.string s] w fun e w' => ∃ u, e = .returned (.tuple #[u, .int .i64 0]) ∧ WV w' u (wN s) (wT s) (wA s) (wG s) ∧ Kept w w' :=
  (refSplit_ok s w hs).mono fun e w' ⟨u, he, ho, hk⟩ => ⟨u, he, wv_of ho, hk⟩
def s18 : ByteArray := ⟨#[97, 98, 32, 97, 98, 32, 97, 98]⟩
theorem n18 : wN s18 = 3 := by kernel_rfl
theorem split18 (w : World) :
    Calls Try.prog 20 #[.string ⟨#[97, 98, 32, 97, 98, 32, 97, 98]⟩] w fun e w' => ∃ u, e = .returned (.tuple #[u, .int .i64 0]) ∧ WV w' u 3 (wT s18) (fun _ => 1024) (wG s18) ∧ Kept w w' :=
  (refSplit_wv s18 w (by decide)).mono fun e w' ⟨u, he, ho, hk⟩ => ⟨u, he, by
    rw [n18] at ho
    refine ho.congr fun i hi => ⟨rfl, ?_, rfl⟩
    have h3 : i = 0 ∨ i = 1 ∨ i = 2 := by omega
    rcases h3 with rfl | rfl | rfl
    · show wA s18 0 = 1024; kernel_rfl
    · show wA s18 1 = 1024; kernel_rfl
    · show wA s18 2 = 1024; kernel_rfl, hk⟩
def z18 : Nat → Nat → Int := fun _ j => [0, 0, 500, 100, 1].getD j 0
noncomputable def F18 (how : Int) : Flw := ⟨excOf z18, 1, 2500, fun _ => 1024, 3, how, 10⟩
theorem F18_yes : flowB (F18 1) = true := by decide
theorem F18_no : flowB (F18 4) = false := by decide
theorem k_is {A : Nat → Int} {n f K : Nat} {room : Int} (hf : f < n) (h1 : ∀ j, j < K → wid A f (j + 1) ≤ room) (h2 : f + K + 1 ≤ n) (h3 : f + K + 1 < n → room < wid A f (K + 1)) : kS A n room f = K :=
  (kS_is A room hf).unique ⟨h1, h2, h3⟩
theorem L18_0 : (F18 1).L 0 = 10 := by show (F18 1).set 0 10 = 10; decide
theorem k18_0 : (F18 1).k 0 10 = 0 := by
  show kS (fun _ => 1024) 3 ((F18 1).q 10 - (F18 1).p 10) 0 = 0
  rw [show (F18 1).q 10 - (F18 1).p 10 = 2000 by decide]
  exact k_is (by decide) (fun j hj => by omega) (by decide) (fun _ => by decide)
theorem at18_1 : (F18 1).at 1 = (1, 650) := by rw [Flw.at_next, L18_0]; show ((0 : Nat) + (F18 1).k 0 10 + 1, (650 : Int)) = _; rw [k18_0]
theorem L18_1 : (F18 1).L 1 = 650 := by unfold Flw.L; rw [at18_1]; decide
theorem k18_1 : (F18 1).k 1 650 = 1 := by
  show kS (fun _ => 1024) 3 ((F18 1).q 650 - (F18 1).p 650) 1 = 1
  rw [show (F18 1).q 650 - (F18 1).p 650 = 2500 by decide]
  exact k_is (by decide) (fun j hj => by obtain rfl : j = 0 := by omega
                                         decide) (by decide) (fun h => absurd h (by decide))
theorem at18_2 : (F18 1).at 2 = (3, 1290) := by rw [Flw.at_next, L18_1, at18_1]; show ((1 : Nat) + (F18 1).k 1 650 + 1, (1290 : Int)) = _; rw [k18_1]
theorem N18 : flowN (F18 1) = 2 := by unfold flowN; rw [if_pos F18_yes]; exact Flw.N_is (by rw [at18_2]; rfl)
theorem Y18 : flowY (F18 1) = 1290 := by unfold flowY; rw [if_pos F18_yes, Flw.N_is (l := 2) (by rw [at18_2]; rfl), at18_2]
def r18 : Nat → Nat → Int := fun i j => ([[1476, 10, 1024, 640], [196, 650, 2304, 640]].getD i []).getD j 0
theorem Z18 : ∀ i j, i < 2 → j < 4 → (F18 1).Z i j = r18 i j := by
  intro i j hi hj
  have a0 : (F18 1).adv 0 = 1024 := by unfold Flw.adv; rw [L18_0]; show wid _ 0 ((F18 1).k 0 10) = _; rw [k18_0]; rfl
  have a1 : (F18 1).adv 1 = 2304 := by unfold Flw.adv; rw [L18_1, at18_1]; show wid _ 1 ((F18 1).k 1 650) = _; rw [k18_1]; rfl
  have hi2 : i = 0 ∨ i = 1 := by omega
  have hj4 : j = 0 ∨ j = 1 ∨ j = 2 ∨ j = 3 := by omega
  rcases hi2 with rfl | rfl
  · rcases hj4 with rfl | rfl | rfl | rfl
    · show (F18 1).ai 0 = 1476; unfold Flw.ai; rw [a0, L18_0]; decide
    · exact L18_0
    · show (F18 1).si 0 = 1024; unfold Flw.si sizeS; rw [a0, if_neg (by simp [F18])]
    · rfl
  · rcases hj4 with rfl | rfl | rfl | rfl
    · show (F18 1).ai 1 = 196; unfold Flw.ai; rw [a1, L18_1]; decide
    · exact L18_1
    · show (F18 1).si 1 = 2304; unfold Flw.si sizeS; rw [a1, if_neg (by simp [F18])]
    · rfl
theorem NewRow.congr {t : TypeId} {k : Nat} {a w : World} {v : Value} {m : Nat} {C D : Nat → Nat → Value} (h : NewRow t k a w v m C) (e : ∀ i j, i < m → j < k → C i j = D i j) : NewRow t k a w v m D := by
  rcases h with h | ⟨b, cap, cur, h1, h2, h3, h4, h5, h6, h7, h8⟩
  · exact .inl h
  · exact .inr ⟨b, cap, cur, h1, h2, h3, h4, h5, h6, h7, fun i j hi hj => (h8 i j hi hj).trans (by rw [e i j hi hj])⟩
theorem flow18_yes (vw v : Value) (S : Nat → ByteArray) (G : Nat → Int) (w : World) (hw : WV w vw 3 S (fun _ => 1024) G) (hv : RV 5 w v 1 (intC z18)) :
    Calls Try.prog 14 #[vw, .int .i64 1, v, .int .i64 2500, .int .i64 10] w fun e w' => ∃ u, e = .returned (.tuple #[u, .int .i64 1290, .int .i64 0]) ∧ RV 4 w' u 2 (intC r18) ∧ Kept w w' :=
  (flowFlow_any vw 3 S (fun _ => 1024) G 1 v 1 z18 2500 10 w hw hv (by omega)).mono fun e w' h => by
    obtain ⟨u, he, hr, hk⟩ := h
    change e = .returned (.tuple #[u, .int .i64 (flowY (F18 1)), .int .i64 (flowE (F18 1))]) at he
    change NewRow 41 4 w w' u (flowN (F18 1)) (intC (F18 1).Z) at hr
    rw [Y18, show flowE (F18 1) = 0 from if_pos F18_yes] at he
    rw [N18] at hr
    exact ⟨u, he, (hr.congr fun i j hi hj => by unfold intC; rw [Z18 i j hi hj]).rv, hk⟩
theorem flow18_no (vw v : Value) (S : Nat → ByteArray) (G : Nat → Int) (w : World) (hw : WV w vw 3 S (fun _ => 1024) G) (hv : RV 5 w v 1 (intC z18)) :
    Calls Try.prog 14 #[vw, .int .i64 4, v, .int .i64 2500, .int .i64 10] w fun e w' => ∃ u, e = .returned (.tuple #[u, .int .i64 0, .int .i64 1800]) ∧ Kept w w' :=
  (flowFlow_any vw 3 S (fun _ => 1024) G 4 v 1 z18 2500 10 w hw hv (by omega)).mono fun e w' h => by
    obtain ⟨u, he, hr, hk⟩ := h
    change e = .returned (.tuple #[u, .int .i64 (flowY (F18 4)), .int .i64 (flowE (F18 4))]) at he
    rw [show flowY (F18 4) = 0 from if_neg (by rw [F18_no]; decide), show flowE (F18 4) = 1800 from if_neg (by rw [F18_no]; decide)] at he
    exact ⟨u, he, hk⟩
set_option maxHeartbeats 2000000 in
theorem awake18_any (w : World) :
    Calls Try.prog 13 #[] w fun e w' => e = .returned (.bool true) ∧ Kept w w' := by
  have hk : Kept w w := Kept.refl w
  go_enter Try.func13, Try.ntmps13
  go_wp2_with fail
  refine (split18 _).mono ?_
  rintro e w1 ⟨u, rfl, hw, hn⟩
  replace hk := hk.trans hn
  clear hn
  go_wp2_with fail
  refine with_boxes1 ?_
  intro X hX a
  have hsz := hk.size
  replace hk := hk.trans hX
  replace hw := hw.kept hX
  clear hX
  have ha : RV 5 X _ 1 (intC z18) := rv_lit a 5 1 (by decide) (intC z18) rfl
  clear a
  go_wp2_with fail
  refine (flow18_yes _ _ _ _ _ hw ha).mono ?_
  rintro e w1 ⟨v, rfl, hr, hn⟩
  replace hk := hk.trans hn
  replace hw := hw.kept hn
  replace ha := ha.kept hn
  clear hn
  go_wp2_with fail
  refine (flow18_no _ _ _ _ _ hw ha).mono ?_
  rintro e w1 ⟨v3, rfl, hn⟩
  replace hk := hk.trans hn
  replace hw := hw.kept hn
  replace ha := ha.kept hn
  replace hr := hr.kept hn
  clear hn
  go_wp2_with fail
  refine with_boxes1 ?_
  intro X hX l
  have hsz := hk.size
  replace hk := hk.trans hX
  replace hw := hw.kept hX
  replace ha := ha.kept hX
  replace hr := hr.kept hX
  clear hX
  have hl : RV 4 X _ 2 (intC r18) := rv_lit l 4 2 (by decide) (intC r18) rfl
  clear l
  go_wp2_with fail
  refine (sameRects_yes hr hl (by omega)).mono ?_
  rintro e w1 ⟨rfl, hn⟩
  replace hk := hk.trans hn
  replace hw := hw.kept hn
  replace ha := ha.kept hn
  replace hr := hr.kept hn
  replace hl := hl.kept hn
  clear hn
  go_wp2_with fail
  refine (num_any _ _).mono ?_
  rintro e w1 ⟨rfl, rfl⟩
  go_wp2_with fail
  refine (num_any _ _).mono ?_
  rintro e w1 ⟨rfl, rfl⟩
  go_wp2
  go_ret
  exact ⟨rfl, hk⟩
end Go.Proofs.Ytkonpnaedniceaa
