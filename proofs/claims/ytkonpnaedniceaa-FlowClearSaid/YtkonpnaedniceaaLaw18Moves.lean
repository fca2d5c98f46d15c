/- Layer 18: a text that begins below all floats is laid as without them. -/
import Derived.Test.YtkonpnaedniceaaLaw18Forms
import Derived.RegionTactic
import Derived.BigRegion
namespace Go.Proofs.Ytkonpnaedniceaa
open Go.RowKit Go.Deep
set_option linter.unusedSimpArgs false
set_option linter.unusedVariables false
theorem meets_no {x : Exc} {y h : Int} (hx : endS x ≤ y) : meetsB x y h = false := by
  unfold meetsB
  rw [decide_eq_false (by omega : ¬ y < endS x), Bool.and_false]
theorem band_below {E : Nat → Exc} {room y h : Int} {n : Nat} (hx : ∀ k, k < n → endS (E k) ≤ y) : bandS E room y h n = (0, room) := by
  induction n with
  | zero => rfl
  | succ n ih =>
    unfold bandS
    rw [meets_no (hx n (by omega)), if_neg (by decide)]
    exact ih fun k hk => hx k (by omega)
theorem any_below {E : Nat → Exc} {y h : Int} {n : Nat} (hx : ∀ k, k < n → endS (E k) ≤ y) : anyE E y h n = false := by
  induction n with
  | zero => rfl
  | succ n ih =>
    unfold anyE
    rw [meets_no (hx n (by omega)), ih fun k hk => hx k (by omega)]
    rfl
theorem set_below {F : Flw} {y : Int} (hx : ∀ k, k < F.n → endS (F.E k) ≤ y) (i : Nat) : F.set i y = y := by
  refine settle_fits ?_
  unfold fitsB
  rw [any_below hx]
  simp
theorem p_below {F : Flw} {y : Int} (hx : ∀ k, k < F.n → endS (F.E k) ≤ y) : F.p y = 0 ∧ F.q y = max 0 F.room := by
  unfold Flw.p Flw.q
  rw [band_below hx]
  exact ⟨rfl, rfl⟩
theorem k_below {F : Flw} {y : Int} (hx : ∀ k, k < F.n → endS (F.E k) ≤ y) (i : Nat) : F.k i y = kS F.A F.m (max 0 F.room - 0) i := by
  unfold Flw.k
  rw [(p_below hx).1, (p_below hx).2]
/-- where the lines stand that begin below all floats -/
theorem at_below {F : Flw} (hx : ∀ k, k < F.n → endS (F.E k) ≤ F.y) (l : Nat) : F.y ≤ (F.at l).2 ∧ F.L l = (F.at l).2 := by
  have hL : ∀ l, F.y ≤ (F.at l).2 → F.L l = (F.at l).2 := fun l h => set_below (fun k hk => Int.le_trans (hx k hk) h) _
  have key : F.y ≤ (F.at l).2 := by
    induction l with
    | zero => exact Int.le_refl _
    | succ l ih =>
      rw [F.at_next]
      show F.y ≤ F.L l + 640
      rw [hL l ih]
      omega
  exact ⟨key, hL l key⟩
structure Flw.Like (F G : Flw) : Prop where
  room : F.room = G.room
  A : F.A = G.A
  m : F.m = G.m
  how : F.how = G.how
  y : F.y = G.y
theorem at_like {F G : Flw} (h : F.Like G) (hF : ∀ k, k < F.n → endS (F.E k) ≤ F.y) (hG : ∀ k, k < G.n → endS (G.E k) ≤ G.y) (l : Nat) : F.at l = G.at l := by
  induction l with
  | zero => show ((0 : Nat), F.y) = (0, G.y); rw [h.y]
  | succ l ih =>
    have f1 := at_below hF l
    have g1 := at_below hG l
    rw [F.at_next, G.at_next, f1.2, g1.2, k_below (fun k hk => Int.le_trans (hF k hk) f1.1), k_below (fun k hk => Int.le_trans (hG k hk) g1.1), ih, h.A, h.m, h.room]
theorem Z_like {F G : Flw} (h : F.Like G) (hF : ∀ k, k < F.n → endS (F.E k) ≤ F.y) (hG : ∀ k, k < G.n → endS (G.E k) ≤ G.y) (l : Nat) : F.Z l = G.Z l := by
  have f1 := at_below hF l
  have g1 := at_below hG l
  have e := at_like h hF hG
  have pf := p_below (fun k hk => Int.le_trans (hF k hk) f1.1)
  have pg := p_below (fun k hk => Int.le_trans (hG k hk) g1.1)
  have kf := k_below (fun k hk => Int.le_trans (hF k hk) f1.1) (F.at l).1
  have kg := k_below (fun k hk => Int.le_trans (hG k hk) g1.1) (G.at l).1
  have hk : F.k (F.at l).1 (F.at l).2 = G.k (G.at l).1 (G.at l).2 := by rw [kf, kg, e l, h.A, h.m, h.room]
  have ha : F.adv l = G.adv l := by unfold Flw.adv; rw [f1.2, g1.2, hk, e l, h.A]
  funext j
  match j with
  | 0 => show F.ai l = G.ai l; unfold Flw.ai; rw [f1.2, g1.2, pf.1, pf.2, pg.1, pg.2, ha, h.how, h.room]
  | 1 => show F.L l = G.L l; rw [f1.2, g1.2, e l]
  | 2 => show F.si l = G.si l; unfold Flw.si; rw [f1.2, g1.2, pf.1, pf.2, pg.1, pg.2, ha, h.how, h.room, e (l + 1), h.m, hk]
  | _ + 3 => rfl
/-- as far down as a float reaches -/
def lowS (Z : Nat → Nat → Int) : Nat → Int
  | 0 => 0
  | k + 1 => max (lowS Z k) (IntKind.i64.wrap (Z k 1 + Z k 3))
theorem lowS_bd (Z : Nat → Nat → Int) (n : Nat) : 0 ≤ lowS Z n := by
  induction n with
  | zero => exact Int.le_refl _
  | succ n ih => unfold lowS; omega
theorem lowS_ge (Z : Nat → Nat → Int) (n : Nat) : ∀ k, k < n → IntKind.i64.wrap (Z k 1 + Z k 3) ≤ lowS Z n := by
  induction n with
  | zero => intro k hk; omega
  | succ n ih =>
    intro k hk
    unfold lowS
    rcases Nat.lt_or_ge k n with h | h
    · have := ih k h; omega
    · obtain rfl : k = n := by omega
      omega
theorem low_ends {Z : Nat → Nat → Int} {n : Nat} (ha : allE (excOf Z) n = true) : ∀ k, k < n → endS (excOf Z k) ≤ lowS Z n := by
  intro k hk
  have h1 := lowS_ge Z n k hk
  have h2 := excB_parts (allE_yes ha k hk)
  have h3 : IntKind.i64.wrap (Z k 1 + Z k 3) = Z k 1 + Z k 3 := IntWalk.i64_in _ (by have : (excOf Z k).ab = Z k 1 := rfl; have : (excOf Z k).sb = Z k 3 := rfl; omega)
  rw [h3] at h1
  exact h1
theorem flows_like {E : Nat → Exc} {n m : Nat} {room how low : Int} {A : Nat → Int} {G : Nat → Exc} (hb : flowB ⟨E, n, room, A, m, how, low⟩ = true) (hx : ∀ k, k < n → endS (E k) ≤ low) :
    flowB ⟨G, 0, room, A, m, how, low⟩ = true ∧ flowN ⟨E, n, room, A, m, how, low⟩ = flowN ⟨G, 0, room, A, m, how, low⟩ ∧ flowY ⟨E, n, room, A, m, how, low⟩ = flowY ⟨G, 0, room, A, m, how, low⟩ ∧ Flw.Z ⟨E, n, room, A, m, how, low⟩ = Flw.Z ⟨G, 0, room, A, m, how, low⟩ := by
  have hb2 : flowB ⟨G, 0, room, A, m, how, low⟩ = true := by
    have h := flowB_good hb
    have hr := (mayX_true.1 h.1.x).1
    unfold flowB at hb ⊢
    simp only [Bool.and_eq_true] at hb ⊢
    exact ⟨⟨hb.1.1, mayX_true.2 ⟨hr, by decide, rfl⟩⟩, hb.2⟩
  have hl : Flw.Like ⟨E, n, room, A, m, how, low⟩ ⟨G, 0, room, A, m, how, low⟩ := ⟨rfl, rfl, rfl, rfl, rfl⟩
  have e := at_like hl hx (fun k hk => by exact absurd hk (Nat.not_lt_zero k))
  obtain ⟨l, h1⟩ := Flw.ends ⟨E, n, room, A, m, how, low⟩
  have h2 : (Flw.at ⟨G, 0, room, A, m, how, low⟩ l).1 = m := by rw [← e l]; exact h1
  have n1 := Flw.N_is (F := ⟨E, n, room, A, m, how, low⟩) h1
  have n2 := Flw.N_is (F := ⟨G, 0, room, A, m, how, low⟩) h2
  refine ⟨hb2, ?_, ?_, funext fun l => Z_like hl hx (fun k hk => by exact absurd hk (Nat.not_lt_zero k)) l⟩
  · unfold flowN; rw [if_pos hb, if_pos hb2, n1, n2]
  · unfold flowY; rw [if_pos hb, if_pos hb2, n1, n2, e l]
/-- with what a float that is none makes: no row; else the same as without floats -/
theorem flowMoves_one (vw : Value) (m : Nat) (S : Nat → ByteArray) (A G : Nat → Int) (how : Int) (v : Value) (n : Nat) (Z : Nat → Nat → Int) (room : Int) : ∃ N Y Q E2 R, N ≤ 80 ∧
    ((flowB ⟨excOf Z, n, room, A, m, how, lowS Z n⟩ = false → E2 = (1800 : Int)) ∧ (flowB ⟨excOf Z, n, room, A, m, how, lowS Z n⟩ = true → E2 = 0)) ∧
    (∀ w, WV w vw m S A G → RV 5 w v n (intC Z) → n ≤ 4611686018427387904 → flowB ⟨excOf Z, n, room, A, m, how, lowS Z n⟩ = true → Calls Try.prog 14 #[vw, .int .i64 how, v, .int .i64 room, .int .i64 (lowS Z n)] w fun e w' => ∃ u, e = .returned (.tuple #[u, .int .i64 Y, .int .i64 0]) ∧ RV 4 w' u N (intC R) ∧ Kept w w') ∧
    (∀ w, WV w vw m S A G → flowB ⟨excOf Z, n, room, A, m, how, lowS Z n⟩ = true → Calls Try.prog 14 #[vw, .int .i64 how, .slice none 0 0, .int .i64 room, .int .i64 (lowS Z n)] w fun e w' => ∃ u, e = .returned (.tuple #[u, .int .i64 Y, .int .i64 0]) ∧ RV 4 w' u N (intC R) ∧ Kept w w') ∧
    (∀ w, WV w vw m S A G → Calls Try.prog 14 #[vw, .int .i64 how, .slice none 0 0, .int .i64 room, .int .i64 (lowS Z n)] w fun e w' => ∃ u e3, e = .returned (.tuple #[u, .int .i64 Q, .int .i64 e3]) ∧ Kept w w') := by
  refine ⟨flowN ⟨excOf Z, n, room, A, m, how, lowS Z n⟩, flowY ⟨excOf Z, n, room, A, m, how, lowS Z n⟩, flowY ⟨excOf fun _ _ => 0, 0, room, A, m, how, lowS Z n⟩, flowE ⟨excOf Z, n, room, A, m, how, lowS Z n⟩, Flw.Z ⟨excOf Z, n, room, A, m, how, lowS Z n⟩, flowN_80 _, ⟨fun h => if_neg (by rw [h]; decide), fun h => if_pos h⟩, ?_, ?_, ?_⟩
  · intro w hw hv hn hb
    refine (flowFlow_any vw m S A G how v n Z room _ w hw hv hn).mono fun e w' ⟨u, he, hr, hk⟩ => ⟨u, ?_, hr.rv, hk⟩
    rw [he, show flowE ⟨excOf Z, n, room, A, m, how, lowS Z n⟩ = 0 from if_pos hb]
  · intro w hw hb
    have ha := (mayX_true.1 (flowB_good hb).1.x).2.2
    obtain ⟨hb2, e1, e2, e3⟩ := flows_like (G := excOf fun _ _ => 0) hb (low_ends ha)
    refine (flowFlow_any vw m S A G how (.slice none 0 0) 0 (fun _ _ => 0) room _ w hw (rv_none _ _ _) (by decide)).mono fun e w' ⟨u, he, hr, hk⟩ => ⟨u, ?_, ?_, hk⟩
    · rw [he, e2, show flowE ⟨excOf fun _ _ => 0, 0, room, A, m, how, lowS Z n⟩ = 0 from if_pos hb2]
    · rw [e1, e3]; exact hr.rv
  · intro w hw
    exact (flowFlow_any vw m S A G how (.slice none 0 0) 0 (fun _ _ => 0) room _ w hw (rv_none _ _ _) (by decide)).mono fun e w' ⟨u, he, hr, hk⟩ => ⟨u, _, he, hk⟩
end Go.Proofs.Ytkonpnaedniceaa
