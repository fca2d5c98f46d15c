/- Layer 18: lines stand below one another, none meets a float that takes something of the room there. -/
import Derived.Test.YtkonpnaedniceaaLaw18Moves
namespace Go.Proofs.Ytkonpnaedniceaa
open Go.RowKit Go.Deep
set_option linter.unusedSimpArgs false
set_option linter.unusedVariables false
theorem bandS_next8 (E : Nat → Exc) (room y h : Int) (k : Nat) : (bandS E room y h k).1 ≤ (bandS E room y h (k + 1)).1 ∧ (bandS E room y h (k + 1)).2 ≤ (bandS E room y h k).2 := by
  show _ ≤ (if meetsB (E k) y h = true then (if (E k).side = 1 then (max (bandS E room y h k).1 ((E k).ai + (E k).si), (bandS E room y h k).2) else ((bandS E room y h k).1, min (bandS E room y h k).2 (E k).ai)) else bandS E room y h k : Int × Int).1 ∧ (if meetsB (E k) y h = true then (if (E k).side = 1 then (max (bandS E room y h k).1 ((E k).ai + (E k).si), (bandS E room y h k).2) else ((bandS E room y h k).1, min (bandS E room y h k).2 (E k).ai)) else bandS E room y h k : Int × Int).2 ≤ _
  split
  · split <;> dsimp only <;> omega
  · exact ⟨Int.le_refl _, Int.le_refl _⟩
theorem bandS_low8 (E : Nat → Exc) (room y h : Int) : ∀ k, 0 ≤ (bandS E room y h k).1 ∧ (bandS E room y h k).2 ≤ room := by
  intro k
  induction k with
  | zero => exact ⟨Int.le_refl _, Int.le_refl _⟩
  | succ k ih => have := bandS_next8 E room y h k; omega
theorem band_more8 (E : Nat → Exc) (room y h : Int) (k : Nat) : (bandS E room y h k).1 ≤ (bandS E room y h (k + 1)).1 ∧ (bandS E room y h (k + 1)).2 ≤ (bandS E room y h k).2 := bandS_next8 E room y h k
theorem band_beside8 (E : Nat → Exc) (room y h : Int) : ∀ k i, i < k → meetsB (E i) y h = true → ((E i).side = 1 → (E i).ai + (E i).si ≤ (bandS E room y h k).1) ∧ ((E i).side ≠ 1 → (bandS E room y h k).2 ≤ (E i).ai) := by
  intro k
  induction k with
  | zero => intro i hi; omega
  | succ k ih =>
    intro i hi hm
    have hmono := band_more8 E room y h k
    rcases Nat.lt_or_ge i k with h1 | h1
    · obtain ⟨a, b⟩ := ih i h1 hm
      exact ⟨fun hs => by have := a hs; omega, fun hs => by have := b hs; omega⟩
    · obtain rfl : i = k := by omega
      have e : bandS E room y h (i + 1) = if (E i).side = 1 then (max (bandS E room y h i).1 ((E i).ai + (E i).si), (bandS E room y h i).2) else ((bandS E room y h i).1, min (bandS E room y h i).2 (E i).ai) := by
        rw [show bandS E room y h (i + 1) = if meetsB (E i) y h = true then (if (E i).side = 1 then (max (bandS E room y h i).1 ((E i).ai + (E i).si), (bandS E room y h i).2) else ((bandS E room y h i).1, min (bandS E room y h i).2 (E i).ai)) else bandS E room y h i from rfl, if_pos hm]
      rw [e]
      exact ⟨fun hs => by rw [if_pos hs]; dsimp only; omega, fun hs => by rw [if_neg hs]; dsimp only; omega⟩
/-- a line is as long as there is room for it, where a float stands beside it -/
theorem adv_room {F : Flw} (h : F.Good) {l : Nat} (hl : (F.at l).1 < F.m) (ha : anyE F.E (F.L l) 640 F.n = true) : F.adv l ≤ F.q (F.L l) - F.p (F.L l) := by
  have hf := (h.at_bd l).2.2.2.2
  unfold fitsB at hf
  rw [ha] at hf
  simp only [Bool.not_true, Bool.or_false, decide_eq_true_eq] at hf
  have hK := kS_is F.A (F.q (F.L l) - F.p (F.L l)) hl
  unfold Flw.adv Flw.k
  rcases Nat.eq_zero_or_pos (kS F.A F.m (F.q (F.L l) - F.p (F.L l)) (F.at l).1) with h0 | h0
  · rw [h0]; exact hf
  · have h1 := hK.fits (kS F.A F.m (F.q (F.L l) - F.p (F.L l)) (F.at l).1 - 1) (by omega)
    rwa [show kS F.A F.m (F.q (F.L l) - F.p (F.L l)) (F.at l).1 - 1 + 1 = kS F.A F.m (F.q (F.L l) - F.p (F.L l)) (F.at l).1 by omega] at h1
theorem size_bd {how long adv : Int} {a b : Bool} (hl : 0 ≤ long ∧ long ≤ 1073741824) (ha : 0 ≤ adv ∧ adv ≤ 1073741824) : 0 ≤ sizeS how long adv a b ∧ sizeS how long adv a b ≤ 1073741824 := by
  unfold sizeS
  split <;> omega
theorem off_size {how long adv : Int} {a b : Bool} (hl : 0 ≤ long) (ha : 0 ≤ adv ∧ adv ≤ long) : (offS how long adv).1 + sizeS how long adv a b ≤ long ∧ (long = 0 → sizeS how long adv a b = 0) := by
  unfold offS leftS sizeS
  constructor
  · split
    · dsimp only
      split
      · split
        · split
          · rename_i h1 h2 h3
            simp only [Bool.and_eq_true, decide_eq_true_eq] at h3
            omega
          · omega
        · split <;> omega
      · split
        · split
          · split
            · rename_i h1 h2 h3 h4
              simp only [Bool.and_eq_true, decide_eq_true_eq] at h4
              omega
            · omega
          · split <;> omega
        · split <;> omega
    · dsimp only
      split <;> omega
  · intro h0
    split <;> omega
/-- what is told of line l -/
theorem line_facts {F : Flw} (h : F.Good) {l : Nat} (hl : (F.at l).1 < F.m) (h80 : l ≤ 80) :
    (0 ≤ F.ai l ∧ F.ai l ≤ 2151677952) ∧ ((F.at l).2 ≤ F.L l ∧ 0 ≤ F.L l ∧ F.L l ≤ 1048627200) ∧ (0 ≤ F.si l ∧ F.si l ≤ 1073741824) ∧
    ∀ j, j < F.n → (F.E j).ab < F.L l + 640 → F.L l < (F.E j).ab + (F.E j).sb → F.si l ≠ 0 → ((F.E j).side = 1 → (F.E j).ai + (F.E j).si ≤ F.ai l) ∧ ((F.E j).side ≠ 1 → F.ai l + F.si l ≤ (F.E j).ai) := by
  have hb := h.band (F.L l)
  have hat := h.at_bd l
  have had := h.adv_bd hl
  have ho := offS_bd (how := F.how) (room := F.q (F.L l) - F.p (F.L l)) (adv := F.adv l) (by omega) had
  have hs := size_bd (how := F.how) (long := F.q (F.L l) - F.p (F.L l)) (adv := F.adv l) (a := decide (0 < F.k (F.at l).1 (F.L l))) (b := decide ((F.at (l + 1)).1 = F.m)) (by omega) had
  have e1 : F.ai l = F.p (F.L l) + (offS F.how (F.q (F.L l) - F.p (F.L l)) (F.adv l)).1 := rfl
  have e2 : F.si l = sizeS F.how (F.q (F.L l) - F.p (F.L l)) (F.adv l) (decide (0 < F.k (F.at l).1 (F.L l))) (decide ((F.at (l + 1)).1 = F.m)) := rfl
  refine ⟨by omega, by omega, by omega, fun j hj g1 g2 g3 => ?_⟩
  have hm : meetsB (F.E j) (F.L l) 640 = true := by
    unfold meetsB endS
    rw [decide_eq_true (by omega), decide_eq_true g2]
    rfl
  have hany := anyE_yes hj hm
  have har := adv_room h hl hany
  have hos := off_size (how := F.how) (a := decide (0 < F.k (F.at l).1 (F.L l))) (b := decide ((F.at (l + 1)).1 = F.m)) (long := F.q (F.L l) - F.p (F.L l)) (adv := F.adv l) (by omega) ⟨had.1, har⟩
  rw [← e2] at hos
  obtain ⟨k1, k2⟩ := band_beside8 F.E F.room (F.L l) 640 F.n j hj hm
  have ep : F.p (F.L l) = (bandS F.E F.room (F.L l) 640 F.n).1 := rfl
  have eq : F.q (F.L l) = max (bandS F.E F.room (F.L l) 640 F.n).1 (bandS F.E F.room (F.L l) 640 F.n).2 := rfl
  refine ⟨fun hs1 => ?_, fun hs1 => ?_⟩
  · have := k1 hs1
    omega
  · have h7 := k2 hs1
    rcases (by omega : F.q (F.L l) - F.p (F.L l) = 0 ∨ 0 < F.q (F.L l) - F.p (F.L l)) with h8 | h8
    · exact absurd (hos.2 h8) g3
    · have h9 := hos.1
      omega
/-- what a flow's answer is, told line by line -/
theorem flow_lines (vw : Value) (m : Nat) (S : Nat → ByteArray) (A G : Nat → Int) (how : Int) (v : Value) (n : Nat) (Z : Nat → Nat → Int) (room y : Int) (hn : n ≤ 4611686018427387904) (hb : flowB ⟨excOf Z, n, room, A, m, how, y⟩ = true) : ∃ (N : Nat) (a ai L si : Nat → Int), N ≤ 80 ∧ (N = 0 ↔ m = 0) ∧ a 0 = y ∧ (∀ l, l < N → a (l + 1) = L l + 640) ∧
    (∀ l, l < N → (0 ≤ ai l ∧ ai l ≤ 2151677952) ∧ (a l ≤ L l ∧ 0 ≤ L l ∧ L l ≤ 1048627200) ∧ (0 ≤ si l ∧ si l ≤ 1073741824) ∧
      ∀ j, j < n → (excOf Z j).ab < L l + 640 → L l < (excOf Z j).ab + (excOf Z j).sb → si l ≠ 0 → ((excOf Z j).side = 1 → (excOf Z j).ai + (excOf Z j).si ≤ ai l) ∧ ((excOf Z j).side ≠ 1 → ai l + si l ≤ (excOf Z j).ai)) ∧
    ∀ w, WV w vw m S A G → RV 5 w v n (intC Z) → Calls Try.prog 14 #[vw, .int .i64 how, v, .int .i64 room, .int .i64 y] w fun e w' => ∃ u, e = .returned (.tuple #[u, .int .i64 (a N), .int .i64 0]) ∧ RV 4 w' u N (intC fun l j => [ai l, L l, si l, 640].getD j 640) ∧ Kept w w' := by
  obtain ⟨F, hF⟩ : ∃ F : Flw, F = ⟨excOf Z, n, room, A, m, how, y⟩ := ⟨_, rfl⟩
  have hg := (flowB_good hb).1
  obtain ⟨l, hl⟩ := F.ends
  have hN := Flw.N_is hl
  have h80 := (mayW_true.1 hg.w).1
  have hlm : l ≤ m := by have h1 := F.ge l; have h2 : F.m = m := by rw [hF]
                         omega
  have hlt : ∀ i, i < l → (F.at i).1 < F.m := fun i hi => by have := F.mono hi; omega
  have hm : F.m = m := by rw [hF]
  refine ⟨l, fun i => (F.at i).2, F.ai, F.L, F.si, by have : m ≤ 80 := h80; omega, ⟨fun h => ?_, fun h => by omega⟩, by rw [hF]; rfl, fun i hi => by show (F.at (i + 1)).2 = _; rw [F.at_next], fun i hi => ?_, fun w hw hv => ?_⟩
  · subst h
    have : (F.at 0).1 = 0 := rfl
    omega
  · have h1 := line_facts (F := F) (by rw [hF]; exact hg) (hlt i hi) (by have : m ≤ 80 := h80; omega)
    refine ⟨h1.1, h1.2.1, h1.2.2.1, fun j hj => ?_⟩
    have h2 := h1.2.2.2 j (by rw [hF]; exact hj)
    rw [show F.E j = excOf Z j by rw [hF]] at h2
    exact h2
  · refine (flowFlow_any vw m S A G how v n Z room y w hw hv hn).mono fun e w' ⟨u, he, hr, hk⟩ => ⟨u, ?_, ?_, hk⟩
    · rw [he, show flowE ⟨excOf Z, n, room, A, m, how, y⟩ = 0 from if_pos hb, show flowY ⟨excOf Z, n, room, A, m, how, y⟩ = (F.at l).2 by unfold flowY; rw [if_pos hb, ← hF, hN]]
    · rw [show flowN ⟨excOf Z, n, room, A, m, how, y⟩ = l by unfold flowN; rw [if_pos hb, ← hF, hN], ← hF] at hr
      refine (hr.congr fun i j hi hj => ?_).rv
      have h4 : j = 0 ∨ j = 1 ∨ j = 2 ∨ j = 3 := by omega
      rcases h4 with rfl | rfl | rfl | rfl <;> rfl
set_option maxRecDepth 20000 in
set_option maxHeartbeats 8000000 in
theorem flowClear_main (vo : Option Addr) (m mc : Nat) (S : Nat → ByteArray) (A G : Nat → Int) (how : Int) (sl : Option Addr) (n cap : Nat) (Z : Nat → Nat → Int) (room y : Int) (w : World) (hv : WV w (.slice vo m mc) m S A G) (hv2 : RV 5 w (.slice sl n cap) n (intC Z)) (hb2 : n ≤ 3518437208780) :
    Calls Try.prog 5 #[.slice vo m mc, .int .i64 how, .slice sl n cap, .int .i64 room, .int .i64 y] w fun e w' => e = .returned (.bool true) ∧ Kept w w' := by
  cases hB : flowB ⟨excOf Z, n, room, A, m, how, y⟩ with
  | false =>
    have HB := Lib.hid hB
    clear hB
    have hk : Kept w w := Kept.refl w
    go_enter Try.func5, Try.ntmps5
    go_wp2_with fail
    refine (awake18_any _).mono ?_
    rintro e w1 ⟨rfl, hn⟩
    replace hk := hk.trans hn
    clear hn
    go_wp2_with fail
    refine (flowFlow_no _ m S A G _ _ n Z _ _ _ (hv.kept hk) (hv2.kept hk) (by omega) HB.out).mono ?_
    rintro e w1 ⟨o1, cap1, rfl, hn⟩
    replace hk := hk.trans hn
    clear hn
    go_wp2_with fail
    refine (num_any _ _).mono ?_
    rintro e w1 ⟨rfl, rfl⟩
    go_wp2
    go_ret
    exact ⟨rfl, hk⟩
  | true =>
    obtain ⟨N, a, ai, L, si, hN, hNm, ha0, han, hfac, hflow⟩ := flow_lines (.slice vo m mc) m S A G how (.slice sl n cap) n Z room y (by omega) hB
    have h32 := (mayX_true.1 (flowB_good hB).1.x).2.1
    have HE := Lib.hid (fun j hj => excB_parts (allE_yes (mayX_true.1 (flowB_good hB).1.x).2.2 j hj))
    have h80 : m ≤ 80 := (mayW_true.1 (flowB_good hB).1.w).1
    replace hfac := Lib.hid hfac
    replace hflow := Lib.hid hflow
    replace han := Lib.hid han
    clear hB
    have hk : Kept w w := Kept.refl w
    go_enter Try.func5, Try.ntmps5
    go_wp2_with fail
    refine (awake18_any _).mono ?_
    rintro e w1 ⟨rfl, hn⟩
    replace hk := hk.trans hn
    clear hn
    go_wp2_with fail
    refine (hflow.out _ (hv.kept hk) (hv2.kept hk)).mono ?_
    rintro e w1 ⟨u, rfl, hu, hn⟩
    replace hk := hk.trans hn
    clear hn
    obtain ⟨o1, cap1, rfl⟩ := hu.shape
    go_wp2_with fail
    refine (num_any _ _).mono ?_
    rintro e w1 ⟨rfl, rfl⟩
    have HKW := hk
    clear hflow
    rw [← ha0]
    clear ha0
    go_wp2
    go_loopw [14, 15, 16, 17, 18] (fun t i _ _ _ wx => ∃ k : Nat, k ≤ N ∧ i = .int .i64 k ∧ t = .int .i64 (a k) ∧ Kept w1 wx) (fun _ i _ _ _ _ => N - (intOf i).toNat)
    case atStart => exact ⟨0, Nat.zero_le _, rfl, rfl, Kept.refl _⟩
    case round =>
      obtain ⟨k, hkn, rfl, rfl, hk1⟩ := hrel
      by_cases hlt : k < N
      · have hi0 : (0 : Int) ≤ (k : Int) := Int.natCast_nonneg _
        have hi1 : (k : Int) < (N : Int) := by omega
        obtain ⟨b1, off1, rfl, hc1, g1⟩ := (hu.kept hk1).row (by omega)
        have q0 : wr.cell? ⟨b1, off1 + k * 4, none⟩ = some (.int .i64 (ai k)) := g1 k 0 hlt (by decide)
        have q1 : wr.cell? ⟨b1, off1 + k * 4 + 1, none⟩ = some (.int .i64 (L k)) := g1 k 1 hlt (by decide)
        have q2 : wr.cell? ⟨b1, off1 + k * 4 + 2, none⟩ = some (.int .i64 (si k)) := g1 k 2 hlt (by decide)
        have q3 : wr.cell? ⟨b1, off1 + k * 4 + 3, none⟩ = some (.int .i64 640) := g1 k 3 hlt (by decide)
        have lq := World.block_lt_of_cell? _ _ q0
        have bf := hfac.out k hlt
        have hnx := Lib.hid (han.out k hlt)
        clear g1 hfac han
        generalize ai k = r0 at *
        generalize L k = r1 at *
        generalize si k = r2 at *
        generalize a k = t at *
        obtain ⟨f0, f1, f2, f3⟩ := bf
        replace f3 := Lib.hid f3
        have hk := hk1
        go_wp2_with fail
        refine code_boxes1 ?_
        intro X hX r
        have hsz := hk.size
        replace hk := hk.trans hX
        clear hX
        have hk2 := Lib.hid hk
        clear q0 q1 q2 q3 hk
        go_loopw [17, 18] (fun i _ wx => ∃ j : Nat, j ≤ n ∧ i = .int .i64 j ∧ Kept X wx) (fun i _ _ => n - (intOf i).toNat)
        case atStart => exact ⟨0, Nat.zero_le _, rfl, Kept.refl X⟩
        case round =>
          obtain ⟨j, hjn, rfl, hkx⟩ := hrel
          have rr := r.kept hkx
          have r_0 := rr.at 0 _ rfl
          have r_1 := rr.at 1 _ rfl
          have r_2 := rr.at 2 _ rfl
          have r_3 := rr.at 3 _ rfl
          have r_l := rr.lt
          by_cases hjlt : j < n
          · have hj0 : (0 : Int) ≤ (j : Int) := Int.natCast_nonneg _
            have hj1 : (j : Int) < (n : Int) := by omega
            obtain ⟨b, off, rfl, _, hw⟩ := (hv2.kept ((HKW.trans hk2.out).trans hkx)).row (by omega)
            have c0 : wr.cell? ⟨b, off + j * 5, none⟩ = some (.int .i64 (excOf Z j).ai) := hw j 0 hjlt (by decide)
            have c1 : wr.cell? ⟨b, off + j * 5 + 1, none⟩ = some (.int .i64 (excOf Z j).ab) := hw j 1 hjlt (by decide)
            have c2 : wr.cell? ⟨b, off + j * 5 + 2, none⟩ = some (.int .i64 (excOf Z j).si) := hw j 2 hjlt (by decide)
            have c3 : wr.cell? ⟨b, off + j * 5 + 3, none⟩ = some (.int .i64 (excOf Z j).sb) := hw j 3 hjlt (by decide)
            have c4 : wr.cell? ⟨b, off + j * 5 + 4, none⟩ = some (.int .i64 (excOf Z j).side) := hw j 4 hjlt (by decide)
            have hbl := World.block_lt_of_cell? _ _ c0
            have be := HE.out j hjlt
            have bm := f3.out j hjlt
            clear hw f3 HE rr r
            generalize excOf Z j = x at *
            obtain ⟨a1, a2, a3, a4, a5⟩ := x
            dsimp only at c0 c1 c2 c3 c4 be bm
            rcases (by omega : r1 + 640 ≤ a2 ∨ a2 < r1 + 640) with g1 | g1
            · clear bm
              go_wp2
              go_roundw
              case rel => exact ⟨j + 1, by omega, by go_num, hkx.alloc _⟩
              case measure => simp [intOf]; omega
            · rcases (by omega : a2 + a4 ≤ r1 ∨ r1 < a2 + a4) with g2 | g2
              · clear bm
                go_wp2
                go_roundw
                case rel => exact ⟨j + 1, by omega, by go_num, hkx.alloc _⟩
                case measure => simp [intOf]; omega
              · by_cases g3 : r2 = 0
                · have g3' : (r2 == 0) = true := by simpa using g3
                  clear bm g3
                  go_wp2
                  go_roundw
                  case rel => exact ⟨j + 1, by omega, by go_num, hkx.alloc _⟩
                  case measure => simp [intOf]; omega
                · have g3' : (r2 == 0) = false := by simpa using g3
                  have bm2 := bm g1 g2 g3
                  clear bm g3
                  by_cases g4 : a3 = 0
                  · have g4' : (a3 == 0) = true := by simpa using g4
                    clear bm2 g4
                    go_wp2
                    go_roundw
                    case rel => exact ⟨j + 1, by omega, by go_num, hkx.alloc _⟩
                    case measure => simp [intOf]; omega
                  · have g4' : (a3 == 0) = false := by simpa using g4
                    clear g4
                    rcases (by omega : a5 = 1 ∨ a5 = 2) with rfl | rfl
                    · have bm3 := bm2.1 rfl
                      clear bm2
                      go_wp2
                      go_roundw
                      case rel => exact ⟨j + 1, by omega, by go_num, hkx.alloc _⟩
                      case measure => simp [intOf]; omega
                    · have bm3 := bm2.2 (by decide)
                      clear bm2
                      go_wp2
                      go_roundw
                      case rel => exact ⟨j + 1, by omega, by go_num, hkx.alloc _⟩
                      case measure => simp [intOf]; omega
          · obtain rfl : j = n := by omega
            go_wp2
            go_roundw
            case rel => exact ⟨k + 1, by omega, by go_num, by rw [hnx.out], (hk2.out).trans hkx⟩
            case measure => simp [intOf]; omega
      · obtain rfl : k = N := by omega
        clear hfac han HE
        rcases Nat.eq_zero_or_pos k with h0 | h0
        · obtain rfl := h0
          obtain rfl := hNm.1 rfl
          clear hNm
          go_wp2
          go_ret
          exact ⟨rfl, hk.trans hk1⟩
        · have n1 : ((k : Int) == 0) = false := by simp; omega
          have n2 : ((m : Int) == 0) = false := by simp; omega
          clear hNm
          go_wp2
          go_ret
          exact ⟨rfl, hk.trans hk1⟩
theorem flowClear_walk (v : Value) (m : Nat) (S : Nat → ByteArray) (A G : Nat → Int) (how : Int) (v2 : Value) (n : Nat) (Z : Nat → Nat → Int) (room y : Int) (w : World) (hv : WV w v m S A G) (_hf : Fair m S A G) (_hb : m ≤ 4398046510976) (hv2 : RV 5 w v2 n (intC Z)) (hb2 : n ≤ 3518437208780) (_hz : ∀ i j, inInt (Z i j)) :
    Calls Try.prog 5 #[v, .int .i64 how, v2, .int .i64 room, .int .i64 y] w fun e w' => e = .returned (.bool true) ∧ Kept w w' := by
  obtain ⟨vo, mc, rfl⟩ := hv.shape
  obtain ⟨sl, cap, rfl⟩ := hv2.shape
  exact flowClear_main vo m mc S A G how sl n cap Z room y w hv hv2 hb2
end Go.Proofs.Ytkonpnaedniceaa
