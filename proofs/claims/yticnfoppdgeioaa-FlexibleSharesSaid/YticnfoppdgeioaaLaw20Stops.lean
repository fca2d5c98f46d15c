/- Layer 20: one that may not be more than it is, and one that may. -/
import Derived.Test.YticnfoppdgeioaaAwake20
import Derived.Test.YticnfoppdgeioaaMask
namespace Go.Proofs.Yticnfoppdgeioaa
open Go.RowKit
set_option linter.unusedSimpArgs false
set_option linter.unusedVariables false
theorem runS_step {g : Bool} {I : Nat → Item} {room : Int} {n m : Nat} {S : Nat → Int} {F : Nat → Bool} (h : openS F n ≠ 0) : runS g I room n (m + 1) S F = runS g I room n m (nextS g I S F (partS g I S F room n)) (nextF g I F (partS g I S F room n) n) := if_neg h
def zStop (x y m : Int) : Nat → Nat → Int := zL2 [[x, 0, m, 1, 0, 0], [y, 0, 1073741824, 1, 0, 0]]
theorem part2 {I : Nat → Item} {S : Nat → Int} {F : Nat → Bool} {r f a b : Int} (hf : freeS true I S F r 2 = f) (ha : wtS true I F 0 = a) (hb : wtS true I F 1 = b) (hp : 0 + a + b ≠ 0) :
    partS true I S F r 2 0 = (f * (0 + a)).tdiv (0 + a + b) - 0 ∧ partS true I S F r 2 1 = (f * (0 + a + b)).tdiv (0 + a + b) - (f * (0 + a)).tdiv (0 + a + b) := by
  have s2 : sumW (wtS true I F) 2 = 0 + a + b := by show 0 + wtS true I F 0 + wtS true I F 1 = _; rw [ha, hb]
  have s1 : sumW (wtS true I F) 1 = 0 + a := by show 0 + wtS true I F 0 = _; rw [ha]
  constructor
  · unfold partS shS
    rw [s2, if_neg hp, hf]
    rw [quS_zero]
    unfold quS
    rw [s2, s1]
  · unfold partS shS
    rw [s2, if_neg hp, hf]
    unfold quS
    rw [s2, s1]
theorem free2 {I : Nat → Item} {S : Nat → Int} {F : Nat → Bool} {r : Int} : freeS true I S F r 2 = max 0 (r - (0 + ocS I S F 0 + ocS I S F 1)) := rfl
theorem stops_is (x y m r : Int) (hx : 0 ≤ x ∧ x ≤ 255) (hy : 0 ≤ y ∧ y ≤ 255) (hm : x ≤ m ∧ m ≤ x + 255) (hr : 2000 ≤ r ∧ r ≤ 6095) : ∀ i, i < 2 → resS (itemOf (zStop x y m)) r 2 i = intL [m, r - m] i := by
  obtain ⟨I, hI⟩ : ∃ I, itemOf (zStop x y m) = I := ⟨_, rfl⟩
  have I0 : I 0 = ⟨x, 0, m, 1, 0, 0⟩ := by rw [← hI]; rfl
  have I1 : I 1 = ⟨y, 0, 1073741824, 1, 0, 0⟩ := by rw [← hI]; rfl
  rw [hI]
  have w0 : wishS (I 0) = x := by rw [I0]; show max 0 (min x m) = x; omega
  have w1 : wishS (I 1) = y := by rw [I1]; show max 0 (min y 1073741824) = y; omega
  have hg : growS I r 2 = true := decide_eq_true (by show 0 + (wishS (I 0) + (I 0).extra) + (wishS (I 1) + (I 1).extra) < r; rw [w0, w1, I0, I1]; show 0 + (x + 0) + (y + 0) < r; omega)
  have F0 : firstF true I 0 = false := by unfold firstF; rw [if_pos rfl, w0, I0]; simp
  have F1 : firstF true I 1 = false := by unfold firstF; rw [if_pos rfl, w1, I1]; simp
  unfold resS
  rw [hg]
  obtain ⟨S, hS⟩ : ∃ S, (fun i => wishS (I i)) = S := ⟨_, rfl⟩
  obtain ⟨F, hF⟩ : ∃ F, firstF true I = F := ⟨_, rfl⟩
  rw [hF] at F0 F1
  rw [hS, hF, runS_step (by have := open_pos (F := F) (n := 2) (k := 0) (by decide) F0; omega)]
  have o0 : ocS I S F 0 = x := by unfold ocS; rw [F0, if_neg (by decide), I0]; show 0 + x = x; omega
  have o1 : ocS I S F 1 = y := by unfold ocS; rw [F1, if_neg (by decide), I1]; show 0 + y = y; omega
  have a0 : wtS true I F 0 = 1 := by unfold wtS; rw [F0, if_neg (by decide), if_pos rfl, I0]
  have a1 : wtS true I F 1 = 1 := by unfold wtS; rw [F1, if_neg (by decide), if_pos rfl, I1]
  obtain ⟨p0, p1⟩ := part2 (S := S) (r := r) (f := r - x - y) (by rw [free2, o0, o1]; omega) a0 a1 (by decide)
  obtain ⟨H, hH⟩ : ∃ H, partS true I S F r 2 = H := ⟨_, rfl⟩
  rw [hH] at p0 p1 ⊢
  have h0 : H 0 = (r - x - y) / 2 := by rw [p0, Int.tdiv_eq_ediv_of_nonneg (by omega)]; omega
  have h1 : H 1 = (r - x - y) - (r - x - y) / 2 := by rw [p1, Int.tdiv_eq_ediv_of_nonneg (by omega), Int.tdiv_eq_ediv_of_nonneg (by omega)]; omega
  have v0 : overS true I H 0 = m - (x + (r - x - y) / 2) ∧ sizeS true I H 0 = m := by
    unfold overS sizeS rawS; rw [if_pos rfl, h0, I0]; show max 0 (max 0 (min (x + (r - x - y) / 2) m)) - (x + (r - x - y) / 2) = _ ∧ max 0 (max 0 (min (x + (r - x - y) / 2) m)) = m; omega
  have v1 : overS true I H 1 = 0 := by
    unfold overS sizeS rawS; rw [if_pos rfl, h1, I1]; show max 0 (max 0 (min (y + ((r - x - y) - (r - x - y) / 2)) 1073741824)) - (y + ((r - x - y) - (r - x - y) / 2)) = 0; omega
  have t : sumW (moreS true I F H) 2 = m - (x + (r - x - y) / 2) := by
    show 0 + moreS true I F H 0 + moreS true I F H 1 = _
    unfold moreS; rw [F0, F1, if_neg (by decide), if_neg (by decide), v0.1, v1]; omega
  have g0 : nextF true I F H 2 0 = true := by
    unfold nextF hitS; rw [F0, t, v0.1, decide_eq_true (show m - (x + (r - x - y) / 2) < 0 by omega)]; simp
  have g1 : nextF true I F H 2 1 = false := by
    unfold nextF hitS; rw [F1, t, v1]; simp; omega
  have s0 : nextS true I S F H 0 = m := by unfold nextS; rw [F0, if_neg (by decide)]; exact v0.2
  obtain ⟨S2, hS2⟩ : ∃ S2, nextS true I S F H = S2 := ⟨_, rfl⟩
  obtain ⟨F2, hF2⟩ : ∃ F2, nextF true I F H 2 = F2 := ⟨_, rfl⟩
  rw [hS2] at s0
  rw [hF2] at g0 g1
  rw [hS2, hF2, runS_step (by have := open_pos (F := F2) (n := 2) (k := 1) (by decide) g1; omega)]
  have o0 : ocS I S2 F2 0 = m := by unfold ocS; rw [g0, if_pos rfl, I0, s0]; show 0 + m = m; omega
  have o1 : ocS I S2 F2 1 = y := by unfold ocS; rw [g1, if_neg (by decide), I1]; show 0 + y = y; omega
  have a0 : wtS true I F2 0 = 0 := by unfold wtS; rw [g0, if_pos rfl]
  have a1 : wtS true I F2 1 = 1 := by unfold wtS; rw [g1, if_neg (by decide), if_pos rfl, I1]
  obtain ⟨p0, p1⟩ := part2 (S := S2) (r := r) (f := r - m - y) (by rw [free2, o0, o1]; omega) a0 a1 (by decide)
  obtain ⟨H2, hH2⟩ : ∃ H, partS true I S2 F2 r 2 = H := ⟨_, rfl⟩
  rw [hH2] at p1 ⊢
  have h1 : H2 1 = r - m - y := by rw [p1, Int.tdiv_eq_ediv_of_nonneg (by omega), Int.tdiv_eq_ediv_of_nonneg (by omega)]; omega
  intro i hi
  show nextS true I S2 F2 H2 i = _
  rcases (by omega : i = 0 ∨ i = 1) with rfl | rfl
  · unfold nextS; rw [g0, if_pos rfl]; exact s0
  · unfold nextS sizeS rawS
    rw [g1, if_neg (by decide), if_pos rfl, h1, I1]
    show max 0 (max 0 (min (y + (r - m - y)) 1073741824)) = r - m
    omega
set_option maxRecDepth 20000 in
set_option maxHeartbeats 2000000 in
theorem flexStops_walk (a b c d : Int) (w : World) :
    Calls Try.prog 9 #[.int .i64 a, .int .i64 b, .int .i64 c, .int .i64 d] w fun e w' => e = .returned (.bool true) ∧ Kept w w' := by
  obtain ⟨x, hx, x0, x1⟩ := masked a 8 255 (by decide) (by decide)
  obtain ⟨y, hy, y0, y1⟩ := masked b 8 255 (by decide) (by decide)
  obtain ⟨p, hp, p0, p1⟩ := masked c 8 255 (by decide) (by decide)
  obtain ⟨q, hq, q0, q1⟩ := masked d 12 4095 (by decide) (by decide)
  obtain ⟨m, hm⟩ : ∃ m, x + p = m := ⟨_, rfl⟩
  obtain ⟨r, hr⟩ : ∃ r, 2000 + q = r := ⟨_, rfl⟩
  have hmb : x ≤ m ∧ m ≤ x + 255 := by omega
  have hrb : 2000 ≤ r ∧ r ≤ 6095 := by omega
  have HS := Lib.hid (stops_is x y m r ⟨x0, x1⟩ ⟨y0, y1⟩ hmb hrb)
  have HG := Lib.hid (show goodF 2 (itemOf (zStop x y m)) r = true by
    unfold goodF mayI allI allI allI itemB
    rw [show inB 0 4194304 r = true from inB_true.2 (by omega)]
    show ((decide (2 ≤ 32) && ((true && (((inB 0 4194304 x && inB 0 4194304 0) && inB 0 1073741824 m && (inB 0 100 1 && inB 0 100 0) && inB (-4194304) 4194304 0))) && (((inB 0 4194304 y && inB 0 4194304 0) && inB 0 1073741824 1073741824 && (inB 0 100 1 && inB 0 100 0) && inB (-4194304) 4194304 0)))) && true) = true
    rw [inB_true.2 (show 0 ≤ x ∧ x ≤ 4194304 by omega), inB_true.2 (show 0 ≤ m ∧ m ≤ 1073741824 by omega), inB_true.2 (show 0 ≤ y ∧ y ≤ 4194304 by omega)]
    decide)
  have hk : Kept w w := Kept.refl w
  go_enter Try.func9, Try.ntmps9
  go_wp2_with fail
  refine (awake20_any _).mono ?_
  rintro e w1 ⟨rfl, hn⟩
  replace hk := hk.trans hn
  clear hn
  go_wp2_with fail
  refine with_boxes1 ?_
  intro X hX e
  have hsz := hk.size
  replace hk := hk.trans hX
  clear hX
  refine (flexible_is _ 2 _ _ _ (itv_row (rv_lit e 6 2 (by decide) (intC (zStop x y m)) rfl)) (by decide) HG.out _ HS.out).mono ?_
  rintro e w1 ⟨_, rfl, ⟨b9, c9, rfl, _, o9, z9, h9⟩, hn⟩
  replace hk := hk.trans hn
  replace e := e.kept hn
  clear hn
  clear e
  have c0 : w1.cell? ⟨b9, 0, none⟩ = some (.int .i64 m) := (o9.cell 0).trans (h9 0 (by decide))
  have c1 : w1.cell? ⟨b9, 1, none⟩ = some (.int .i64 (r - m)) := (o9.cell 1).trans (h9 1 (by decide))
  clear h9 z9 o9
  go_wp2_with fail
  refine (num_any _ _).mono ?_
  rintro e w1 ⟨rfl, rfl⟩
  go_wp2
  go_ret
  exact ⟨rfl, hk⟩
end Go.Proofs.Yticnfoppdgeioaa
