/- Layer 18: without floats lines are those that are filled, moved as they are aligned. -/
import Derived.Test.YtkdidhhilcamkaaLaw18Moves
import Derived.Test.YtkdidhhilcamkaaRefBreak
import Derived.Test.YtkdidhhilcamkaaRefOffset
namespace Go.Proofs.Ytkdidhhilcamkaa
open Go.RowKit Go.Deep
set_option linter.unusedSimpArgs false
set_option linter.unusedVariables false
/-- the rectangles of the lines where nothing floats -/
noncomputable def plainZ (how r y : Int) (A : Nat → Int) (m i : Nat) : Nat → Int
  | 0 => (offS how r (lineW A m r i)).1
  | 1 => y + 640 * (i : Int)
  | 2 => sizeS how r (lineW A m r i) (decide (0 < kS A m r (lineAt A m r i))) (decide (lineAt A m r (i + 1) = m))
  | _ => 640
theorem plain_at {how r y : Int} {A : Nat → Int} {m : Nat} (E : Nat → Exc) (hr : 0 ≤ r) (i : Nat) (hi : i ≤ lineN A m r) : (Flw.at ⟨E, 0, r, A, m, how, y⟩ i) = (lineAt A m r i, y + 640 * (i : Int)) := by
  induction i with
  | zero => show ((0 : Nat), y) = (0, y + 640 * 0); rw [Int.mul_zero, Int.add_zero]
  | succ i ih =>
    have ih := ih (by omega)
    have hx : ∀ k, k < (⟨E, 0, r, A, m, how, y⟩ : Flw).n → endS (E k) ≤ (⟨E, 0, r, A, m, how, y⟩ : Flw).y := fun k hk => absurd hk (Nat.not_lt_zero k)
    have h1 := at_below hx i
    have h2 := k_below (F := ⟨E, 0, r, A, m, how, y⟩) (y := (Flw.at ⟨E, 0, r, A, m, how, y⟩ i).2) (fun k hk => absurd hk (Nat.not_lt_zero k)) (Flw.at ⟨E, 0, r, A, m, how, y⟩ i).1
    rw [Flw.at_next, h1.2, h2, ih, lineAt_next (lineN_lt A m r i (by omega))]
    show (_ + kS A m (max 0 r - 0) _ + 1, y + 640 * (i : Int) + 640) = _
    rw [show max 0 r - 0 = r by omega]
    congr 1
    omega
theorem plain_Z {how r y : Int} {A : Nat → Int} {m : Nat} (E : Nat → Exc) (hr : 0 ≤ r) (i : Nat) (hi : i < lineN A m r) (j : Nat) : Flw.Z ⟨E, 0, r, A, m, how, y⟩ i j = plainZ how r y A m i j := by
  have hx : ∀ k, k < (⟨E, 0, r, A, m, how, y⟩ : Flw).n → endS (E k) ≤ (⟨E, 0, r, A, m, how, y⟩ : Flw).y := fun k hk => absurd hk (Nat.not_lt_zero k)
  have h1 := at_below hx i
  have e := plain_at (how := how) (y := y) (A := A) (m := m) E hr i (by omega)
  have e2 := plain_at (how := how) (y := y) (A := A) (m := m) E hr (i + 1) (by omega)
  have h2 := k_below (F := ⟨E, 0, r, A, m, how, y⟩) (y := y + 640 * (i : Int)) (fun k hk => absurd hk (Nat.not_lt_zero k)) (lineAt A m r i)
  have hp := p_below (F := ⟨E, 0, r, A, m, how, y⟩) (y := y + 640 * (i : Int)) (fun k hk => absurd hk (Nat.not_lt_zero k))
  rw [show max 0 (⟨E, 0, r, A, m, how, y⟩ : Flw).room = r by show max 0 r = r; omega] at h2 hp
  rw [Int.sub_zero] at h2
  have ha : Flw.adv ⟨E, 0, r, A, m, how, y⟩ i = lineW A m r i := by unfold Flw.adv; rw [h1.2, e, h2]; rfl
  match j with
  | 0 => show Flw.ai _ i = _; unfold Flw.ai; rw [h1.2, e, hp.1, hp.2, ha, Int.sub_zero, Int.zero_add]; rfl
  | 1 => show Flw.L _ i = _; rw [h1.2, e]; rfl
  | 2 => show Flw.si _ i = _; unfold Flw.si; rw [h1.2, e, e2, hp.1, hp.2, ha, h2, Int.sub_zero]; rfl
  | _ + 3 => rfl
theorem flow_plain (vw : Value) (m : Nat) (S : Nat → ByteArray) (A G : Nat → Int) (how r y : Int) (w : World) (hw : WV w vw m S A G) (h1 : mayW m A = true) (hh : 0 ≤ how ∧ how ≤ 3) (hr : 0 ≤ r ∧ r ≤ 16383) (hy : 0 ≤ y ∧ y ≤ 1023) :
    Calls Try.prog 21 #[vw, .int .i64 how, .slice none 0 0, .int .i64 r, .int .i64 y] w fun e w' => ∃ u, e = .returned (.tuple #[u, .int .i64 (y + 640 * (lineN A m r : Int)), .int .i64 0]) ∧ RV 4 w' u (lineN A m r) (intC (plainZ how r y A m)) ∧ Kept w w' :=
  (flowFlow_any vw m S A G how (.slice none 0 0) 0 (fun _ _ => 0) r y w hw (rv_none _ _ _) (by decide)).mono fun e w' ⟨u, he, hq, hk⟩ => by
    have hb : flowB ⟨excOf fun _ _ => 0, 0, r, A, m, how, y⟩ = true := by
      unfold flowB
      simp only [Bool.and_eq_true]
      exact ⟨⟨⟨h1, inB_true.2 hh⟩, mayX_true.2 ⟨⟨hr.1, by show r ≤ 4194304; omega⟩, by decide, rfl⟩⟩, inB_true.2 ⟨hy.1, by show y ≤ 4194304; omega⟩⟩
    have e := plain_at (how := how) (y := y) (excOf fun _ _ => 0) hr.1 (lineN A m r) (Nat.le_refl _)
    have hn := Flw.N_is (F := ⟨excOf fun _ _ => 0, 0, r, A, m, how, y⟩) (l := lineN A m r) (by rw [e]; exact lineN_at A m r)
    rw [show flowY ⟨excOf fun _ _ => 0, 0, r, A, m, how, y⟩ = y + 640 * (lineN A m r : Int) by unfold flowY; rw [if_pos hb, hn, e], show flowE ⟨excOf fun _ _ => 0, 0, r, A, m, how, y⟩ = 0 from if_pos hb] at he
    rw [show flowN ⟨excOf fun _ _ => 0, 0, r, A, m, how, y⟩ = lineN A m r by unfold flowN; rw [if_pos hb, hn]] at hq
    exact ⟨u, he, (hq.congr fun i j hi hj => by unfold intC; rw [plain_Z _ hr.1 i hi j]).rv, hk⟩
/-- a row of lines -/
def TV (w : World) (v : Value) (m : Nat) (f g h : Nat → Value) : Prop := (∃ o cap, v = .slice o m cap) ∧ (0 < m → ∃ b cap, v = .slice (some ⟨b, 0, none⟩) m cap ∧ m ≤ cap ∧ ThreeAt w b m f g h)
theorem NewThree.tv {t : TypeId} {a w : World} {v : Value} {m : Nat} {f g h : Nat → Value} (hx : NewThree t a w v m f g h) : TV w v m f g h := by
  rcases hx with ⟨rfl, o, cap, rfl, _⟩ | ⟨b, cap, cur, rfl, h2, h3, h4, h5, h6, h7, h8⟩
  · exact ⟨⟨o, cap, rfl⟩, fun hm => by omega⟩
  · exact ⟨⟨_, cap, rfl⟩, fun _ => ⟨b, cap, rfl, h3, threeAt_of h6 h8⟩⟩
theorem TV.kept {w w' : World} {v : Value} {m : Nat} {f g h : Nat → Value} (hx : TV w v m f g h) (k : Kept w w') : TV w' v m f g h :=
  ⟨hx.1, fun hm => by obtain ⟨b, cap, h1, h2, h3⟩ := hx.2 hm; exact ⟨b, cap, h1, h2, h3.kept k⟩⟩
theorem TV.row {w : World} {o : Option Addr} {m cap : Nat} {f g h : Nat → Value} (hx : TV w (.slice o m cap) m f g h) (hm : 0 < m) : ∃ b, o = some ⟨b, 0, none⟩ ∧ m ≤ cap ∧ ThreeAt w b m f g h := by
  obtain ⟨b, c, hv, h2, h3⟩ := hx.2 hm
  injection hv with e1 e2 e3
  subst e1 e3
  exact ⟨b, rfl, h2, h3⟩
/-- how long a line is in its rectangle -/
theorem plain_size {A : Nat → Int} {m : Nat} {r : Int} {how : Int} {i : Nat} (hi : i < lineN A m r) (hr : 0 ≤ r) :
    (how = 3 ∧ i + 1 < lineN A m r ∧ lineAt A m r i + 1 < lineAt A m r (i + 1) ∧ sizeS how r (lineW A m r i) (decide (0 < kS A m r (lineAt A m r i))) (decide (lineAt A m r (i + 1) = m)) = r) ∨
    (¬ (how = 3 ∧ i + 1 < lineN A m r ∧ lineAt A m r i + 1 < lineAt A m r (i + 1)) ∧ sizeS how r (lineW A m r i) (decide (0 < kS A m r (lineAt A m r i))) (decide (lineAt A m r (i + 1) = m)) = lineW A m r i) := by
  have hL := lineN_lt A m r i hi
  have hnx := lineAt_next hL
  have hlast : i + 1 < lineN A m r ↔ lineAt A m r (i + 1) ≠ m := by
    constructor
    · intro h; have := lineN_lt A m r (i + 1) h; omega
    · intro h
      rcases Nat.lt_or_ge (i + 1) (lineN A m r) with h1 | h1
      · exact h1
      · have h2 : i + 1 = lineN A m r := by omega
        have := lineN_at A m r
        rw [← h2] at this
        exact absurd this h
  by_cases hc : how = 3 ∧ i + 1 < lineN A m r ∧ lineAt A m r i + 1 < lineAt A m r (i + 1)
  · left
    refine ⟨hc.1, hc.2.1, hc.2.2, ?_⟩
    have hk : 0 < kS A m r (lineAt A m r i) := by omega
    unfold sizeS
    rw [if_pos (by rw [decide_eq_true hc.1, decide_eq_true hk, decide_eq_false (hlast.1 hc.2.1)]; rfl)]
    have hf := (kS_is A r hL).fits (kS A m r (lineAt A m r i) - 1) (by omega)
    rw [show kS A m r (lineAt A m r i) - 1 + 1 = kS A m r (lineAt A m r i) by omega] at hf
    have : lineW A m r i ≤ r := hf
    omega
  · right
    refine ⟨hc, ?_⟩
    unfold sizeS
    rw [if_neg]
    intro h
    simp only [Bool.and_eq_true, decide_eq_true_eq, Bool.not_eq_true', decide_eq_false_iff_not] at h
    exact hc ⟨h.1.1, hlast.2 h.2, by omega⟩
theorem lineW_bd {A : Nat → Int} {m : Nat} {r : Int} (h1 : mayW m A = true) {i : Nat} (hi : i < lineN A m r) : 0 ≤ lineW A m r i ∧ lineW A m r i ≤ 1073741824 := by
  obtain ⟨h80, ha⟩ := mayW_true.1 h1
  have hL := lineN_lt A m r i hi
  have hle := (kS_is A r hL).le
  have := wid_bounds ha (kS A m r (lineAt A m r i)) (f := lineAt A m r i) (by omega)
  have h2 : kS A m r (lineAt A m r i) ≤ 79 := by omega
  unfold lineW
  omega
set_option maxRecDepth 20000 in
set_option maxHeartbeats 8000000 in
theorem flowPlain_main (v : Value) (m : Nat) (S : Nat → ByteArray) (A G : Nat → Int) (how room y h r t : Int) (hh : bits .and .i64 how 3 = h) (h0 : 0 ≤ h ∧ h ≤ 3) (hr : bits .and .i64 room 16383 = r) (hr0 : 0 ≤ r ∧ r ≤ 16383) (hy : bits .and .i64 y 1023 = t) (ht : 0 ≤ t ∧ t ≤ 1023) (w : World) (hv : WV w v m S A G) (hb : m ≤ 4398046510976) :
    Calls Try.prog 11 #[v, .int .i64 how, .int .i64 room, .int .i64 y] w fun e w' => e = .returned (.bool true) ∧ Kept w w' := by
  cases hm : mayW m A with
  | false =>
    have hk : Kept w w := Kept.refl w
    go_enter Try.func11, Try.ntmps11
    go_wp2_with fail
    refine (awake18_any _).mono ?_
    rintro e w1 ⟨rfl, hn⟩
    replace hk := hk.trans hn
    clear hn
    go_wp2_with fail
    refine (refLMay_any _ m S A G _ (hv.kept hk) hb).mono ?_
    rintro e w1 ⟨rfl, hn⟩
    replace hk := hk.trans hn
    clear hn
    go_wp2
    go_ret
    exact ⟨rfl, hk⟩
  | true =>
    have HM := Lib.hid hm
    have HS := Lib.hid (fun i (hi : i < lineN A m r) => plain_size (how := h) hi hr0.1)
    have HW := Lib.hid (fun i (hi : i < lineN A m r) => lineW_bd hm hi)
    have HL := Lib.hid (fun i => lineAt_le A m r i)
    have h80 := (mayW_true.1 hm).1
    have hN := lineN_le A m r
    have HF := Lib.hid (fun w (a : WV w v m S A G) => flow_plain v m S A G h r t w a hm h0 hr0 ht)
    have HB := Lib.hid (fun w (a : WV w v m S A G) => refLBreak_good v m S A G w a hb r hm (by unfold mayB; simp; omega))
    obtain ⟨N, hNe⟩ : ∃ N, lineN A m r = N := ⟨_, rfl⟩
    rw [hNe] at HS HW hN HF HB
    clear hNe
    have hk : Kept w w := Kept.refl w
    go_enter Try.func11, Try.ntmps11
    go_wp2_with fail
    refine (awake18_any _).mono ?_
    rintro e w1 ⟨rfl, hn⟩
    replace hk := hk.trans hn
    clear hn
    go_wp2_with fail
    refine (refLMay_any _ m S A G _ (hv.kept hk) hb).mono ?_
    rintro e w1 ⟨rfl, hn⟩
    replace hk := hk.trans hn
    clear hn
    go_wp2_with fail
    refine (HF.out _ (hv.kept hk)).mono ?_
    rintro e w1 ⟨u, rfl, hu, hn⟩
    replace hk := hk.trans hn
    clear hn
    clear hm
    go_wp2_with fail
    refine (HB.out _ (hv.kept hk)).mono ?_
    rintro e w1 ⟨u2, rfl, hq, hn⟩
    replace hk := hk.trans hn
    replace hu := hu.kept hn
    clear hn
    replace hq := hq.tv
    obtain ⟨o1, cap1, rfl⟩ := hu.shape
    obtain ⟨o2, cap2, rfl⟩ := hq.1
    go_wp2_with fail
    refine (num_any _ _).mono ?_
    rintro e w1 ⟨rfl, rfl⟩
    clear HF HB hh hr hy HM
    go_wp2
    go_loopw [17, 18, 19, 20] (fun i _ _ _ wx => ∃ k : Nat, k ≤ N ∧ i = .int .i64 k ∧ Kept w1 wx) (fun i _ _ _ _ => N - (intOf i).toNat)
    case atStart => exact ⟨0, Nat.zero_le _, rfl, Kept.refl _⟩
    case round =>
      obtain ⟨k, hkn, rfl, hk1⟩ := hrel
      by_cases hlt : k < N
      · have hi0 : (0 : Int) ≤ (k : Int) := Int.natCast_nonneg _
        have hi1 : (k : Int) < (N : Int) := by omega
        obtain ⟨b1, off1, rfl, hc1, g1⟩ := (hu.kept hk1).row (by omega)
        obtain ⟨b2, rfl, hc2, g2⟩ := (hq.kept hk1).row (by omega)
        have bW := HW.out k hlt
        have bL := HL.out (k + 1)
        have bL0 := HL.out k
        have bS := HS.out k hlt
        have q0 := g1 k 0 hlt (by decide)
        have q1 := g1 k 1 hlt (by decide)
        have q2 := g1 k 2 hlt (by decide)
        have q3 := g1 k 3 hlt (by decide)
        have l0 := g2.c0 k hlt
        have l1 := g2.c1 k hlt
        have l2 := g2.c2 k hlt
        unfold lf at l0
        unfold lt at l1
        unfold lw at l2
        unfold intC plainZ at q0 q1 q2 q3
        rw [Nat.add_zero] at q0
        clear g1 g2 HW HL HS
        have HO := Lib.hid (fun wx => refOffset_any h r (lineW A m r k) wx)
        generalize sizeS h r (lineW A m r k) (decide (0 < kS A m r (lineAt A m r k))) (decide (lineAt A m r (k + 1) = m)) = s at *
        generalize lineW A m r k = D at *
        generalize lineAt A m r (k + 1) = T at *
        generalize lineAt A m r k = F at *
        generalize offS h r D = o at *
        obtain ⟨o1, o2⟩ := o
        try dsimp only at q0 HO
        have w1f : IntKind.i64.wrap ((N : Int) - 1) = (N : Int) - 1 := IntWalk.i64_in _ (by omega)
        have w2f : IntKind.i64.wrap ((T : Int) - (F : Int)) = (T : Int) - (F : Int) := IntWalk.i64_in _ (by omega)
        rcases bS with ⟨rfl, b1, b2, rfl⟩ | ⟨b1, rfl⟩
        · have b1' : (k : Int) < (N : Int) - 1 := by omega
          have b2' : (1 : Int) < (T : Int) - (F : Int) := by omega
          go_wp2_with fail
          refine (HO.out _).mono ?_
          rintro e w3 ⟨rfl, hn⟩
          have hk3 := hk1.trans hn
          have q0' := (hn.cell (World.block_lt_of_cell? _ _ q0)).trans q0
          have q1' := (hn.cell (World.block_lt_of_cell? _ _ q1)).trans q1
          have q2' := (hn.cell (World.block_lt_of_cell? _ _ q2)).trans q2
          have q3' := (hn.cell (World.block_lt_of_cell? _ _ q3)).trans q3
          have l0' := (hn.cell (World.block_lt_of_cell? _ _ l0)).trans l0
          have l1' := (hn.cell (World.block_lt_of_cell? _ _ l1)).trans l1
          have l2' := (hn.cell (World.block_lt_of_cell? _ _ l2)).trans l2
          clear q0 q1 q2 q3 l0 l1 l2 HO hn
          go_wp2
          go_quiet (fail)
          go_wp2
          go_roundw
          case rel => exact ⟨k + 1, by omega, by go_num, hk3.drewN _⟩
          case measure => simp [intOf]; omega
        · rcases (by omega : h ≠ 3 ∨ h = 3) with h3 | rfl
          · have h3' : (h == 3) = false := by simpa using h3
            clear b1
            go_wp2_with fail
            refine (HO.out _).mono ?_
            rintro e w3 ⟨rfl, hn⟩
            have hk3 := hk1.trans hn
            have q0' := (hn.cell (World.block_lt_of_cell? _ _ q0)).trans q0
            have q1' := (hn.cell (World.block_lt_of_cell? _ _ q1)).trans q1
            have q2' := (hn.cell (World.block_lt_of_cell? _ _ q2)).trans q2
            have q3' := (hn.cell (World.block_lt_of_cell? _ _ q3)).trans q3
            have l0' := (hn.cell (World.block_lt_of_cell? _ _ l0)).trans l0
            have l1' := (hn.cell (World.block_lt_of_cell? _ _ l1)).trans l1
            have l2' := (hn.cell (World.block_lt_of_cell? _ _ l2)).trans l2
            clear q0 q1 q2 q3 l0 l1 l2 HO hn
            go_wp2
            go_quiet (fail)
            go_wp2
            go_roundw
            case rel => exact ⟨k + 1, by omega, by go_num, hk3.drewN _⟩
            case measure => simp [intOf]; omega
          · rcases (by omega : (N : Int) - 1 ≤ (k : Int) ∨ (k : Int) < (N : Int) - 1) with b1' | b1'
            · clear b1
              have b1'' : decide ((k : Int) < (N : Int) - 1) = false := decide_eq_false (by omega)
              clear b1'
              go_wp2_with fail
              refine (HO.out _).mono ?_
              rintro e w3 ⟨rfl, hn⟩
              have hk3 := hk1.trans hn
              have q0' := (hn.cell (World.block_lt_of_cell? _ _ q0)).trans q0
              have q1' := (hn.cell (World.block_lt_of_cell? _ _ q1)).trans q1
              have q2' := (hn.cell (World.block_lt_of_cell? _ _ q2)).trans q2
              have q3' := (hn.cell (World.block_lt_of_cell? _ _ q3)).trans q3
              have l0' := (hn.cell (World.block_lt_of_cell? _ _ l0)).trans l0
              have l1' := (hn.cell (World.block_lt_of_cell? _ _ l1)).trans l1
              have l2' := (hn.cell (World.block_lt_of_cell? _ _ l2)).trans l2
              clear q0 q1 q2 q3 l0 l1 l2 HO hn
              go_wp2
              go_quiet (fail)
              go_wp2
              go_roundw
              case rel => exact ⟨k + 1, by omega, by go_num, hk3.drewN _⟩
              case measure => simp [intOf]; omega
            · have b2' : (T : Int) - (F : Int) ≤ 1 := by
                rcases Nat.lt_or_ge (F + 1) T with h5 | h5
                · exact absurd ⟨rfl, by omega, h5⟩ b1
                · omega
              clear b1
              have b2'' : decide ((1 : Int) < (T : Int) - (F : Int)) = false := decide_eq_false (by omega)
              clear b2'
              go_wp2_with fail
              refine (HO.out _).mono ?_
              rintro e w3 ⟨rfl, hn⟩
              have hk3 := hk1.trans hn
              have q0' := (hn.cell (World.block_lt_of_cell? _ _ q0)).trans q0
              have q1' := (hn.cell (World.block_lt_of_cell? _ _ q1)).trans q1
              have q2' := (hn.cell (World.block_lt_of_cell? _ _ q2)).trans q2
              have q3' := (hn.cell (World.block_lt_of_cell? _ _ q3)).trans q3
              have l0' := (hn.cell (World.block_lt_of_cell? _ _ l0)).trans l0
              have l1' := (hn.cell (World.block_lt_of_cell? _ _ l1)).trans l1
              have l2' := (hn.cell (World.block_lt_of_cell? _ _ l2)).trans l2
              clear q0 q1 q2 q3 l0 l1 l2 HO hn
              go_wp2
              go_quiet (fail)
              go_wp2
              go_roundw
              case rel => exact ⟨k + 1, by omega, by go_num, hk3.drewN _⟩
              case measure => simp [intOf]; omega
      · obtain rfl : k = N := by omega
        go_wp2
        go_ret
        exact ⟨rfl, hk.trans hk1⟩
theorem flowPlain_walk (v : Value) (m : Nat) (S : Nat → ByteArray) (A G : Nat → Int) (how room y : Int) (w : World) (hv : WV w v m S A G) (_hf : Fair m S A G) (hb : m ≤ 4398046510976) :
    Calls Try.prog 11 #[v, .int .i64 how, .int .i64 room, .int .i64 y] w fun e w' => e = .returned (.bool true) ∧ Kept w w' := by
  obtain ⟨h, hh, h0⟩ := masked how 2 3 (by decide) (by decide)
  obtain ⟨r, hr, r0⟩ := masked room 14 16383 (by decide) (by decide)
  obtain ⟨t, ht, t0⟩ := masked y 10 1023 (by decide) (by decide)
  exact flowPlain_main v m S A G how room y h r t hh h0 hr r0 ht t0 w hv hb
end Go.Proofs.Ytkdidhhilcamkaa
