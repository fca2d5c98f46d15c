/- Layer 16: rows of exclusions; is each one? -/
import Derived.Test.YtkonpnaedniceaaExc
import Derived.Test.YtkonpnaedniceaaRow
namespace Go.Proofs.Ytkonpnaedniceaa
open Go.RowKit Go.Deep
set_option linter.unusedSimpArgs false
set_option linter.unusedVariables false
def excOf (Z : Nat → Nat → Int) (i : Nat) : Exc := ⟨Z i 0, Z i 1, Z i 2, Z i 3, Z i 4⟩
def allE (E : Nat → Exc) : Nat → Bool
  | 0 => true
  | n + 1 => allE E n && excB (E n)
theorem allE_no {E : Nat → Exc} {k n : Nat} (h : k < n) (hk : excB (E k) = false) : allE E n = false := by
  induction n with
  | zero => omega
  | succ n ih =>
    unfold allE
    rcases Nat.lt_or_ge k n with h1 | h1
    · rw [ih h1]; rfl
    · obtain rfl : k = n := by omega
      rw [hk, Bool.and_false]
theorem allE_yes {E : Nat → Exc} {n : Nat} (h : allE E n = true) : ∀ k, k < n → excB (E k) = true := by
  intro k hk
  cases hb : excB (E k)
  · rw [allE_no hk hb] at h; cases h
  · rfl
theorem allE_of {E : Nat → Exc} {n : Nat} (h : ∀ k, k < n → excB (E k) = true) : allE E n = true := by
  induction n with
  | zero => rfl
  | succ n ih => unfold allE; rw [ih fun k hk => h k (by omega), h n (by omega)]; rfl
def FirstOddE (E : Nat → Exc) (n : Nat) (w : World) (e : Ending) (w' : World) : Prop :=
  ∃ z : Int, e = .returned (.int .i64 z) ∧ (0 ≤ z ↔ allE E n = false) ∧ -1 ≤ z ∧ Kept w w'
set_option maxHeartbeats 1000000 in
theorem indexExcs_some (b off n cap : Nat) (Z : Nat → Nat → Int) (w : World) (hw : RowAt w b off 5 n (intC Z)) (hn : n ≤ 4611686018427387904) :
    Calls Try.prog 33 #[.slice (some ⟨b, off, none⟩) n cap, .func (.func 24) #[] #[]] w (FirstOddE (excOf Z) n w) := by
  go_enter Try.func33, Try.ntmps33
  go_wp2
  go_loopw [4, 5, 8] (fun _ _ i wx => ∃ k : Nat, k ≤ n ∧ i = .int .i64 k ∧ Kept w wx ∧ allE (excOf Z) k = true) (fun _ _ i _ => n - (intOf i).toNat)
  case atStart => exact ⟨0, Nat.zero_le _, rfl, Kept.refl _, rfl⟩
  case round =>
    obtain ⟨k, hk4, rfl, hk, hal⟩ := hrel
    have hal' := Lib.hid hal
    clear hal
    by_cases hlt : k < n
    · have hi1 : (k : Int) < (n : Int) := by omega
      have c0 : wr.cell? ⟨b, off + k * 5, none⟩ = some (.int .i64 (excOf Z k).ai) := (hw.kept hk) k 0 hlt (by decide)
      have c1 : wr.cell? ⟨b, off + k * 5 + 1, none⟩ = some (.int .i64 (excOf Z k).ab) := (hw.kept hk) k 1 hlt (by decide)
      have c2 : wr.cell? ⟨b, off + k * 5 + 2, none⟩ = some (.int .i64 (excOf Z k).si) := (hw.kept hk) k 2 hlt (by decide)
      have c3 : wr.cell? ⟨b, off + k * 5 + 3, none⟩ = some (.int .i64 (excOf Z k).sb) := (hw.kept hk) k 3 hlt (by decide)
      have c4 : wr.cell? ⟨b, off + k * 5 + 4, none⟩ = some (.int .i64 (excOf Z k).side) := (hw.kept hk) k 4 hlt (by decide)
      have HNO := Lib.hid (fun hb => allE_no (E := excOf Z) hlt hb)
      have HYES := Lib.hid (fun (hb : excB (excOf Z k) = true) => (show allE (excOf Z) (k + 1) = true by unfold allE; rw [hal'.out, hb]; rfl))
      generalize excOf Z k = x at *
      cases hb : excB x
      · have hno := Lib.hid (HNO.out hb)
        clear HNO HYES
        go_wp2_with fail
        refine (oddExc_any x _).mono ?_
        rintro e w1 ⟨rfl, hn1⟩
        go_wp2
        go_ret
        exact ⟨_, rfl, ⟨fun _ => hno.out, fun _ => by omega⟩, by omega, hk.trans hn1⟩
      · have hyes := Lib.hid (HYES.out hb)
        clear HNO HYES
        go_wp2_with fail
        refine (oddExc_any x _).mono ?_
        rintro e w1 ⟨rfl, hn1⟩
        go_wp2
        go_roundw
        case rel => exact ⟨k + 1, by omega, by go_num, hk.trans hn1, hyes.out⟩
        case measure => simp [intOf]; omega
    · obtain rfl : k = n := by omega
      go_wp2
      go_ret
      exact ⟨_, rfl, ⟨fun h => by omega, fun h => by rw [hal'.out] at h; cases h⟩, by omega, hk⟩
theorem indexExcs_none (o : Option Addr) (cap : Nat) (f : Value) (E : Nat → Exc) (w : World) :
    Calls Try.prog 33 #[.slice o 0 cap, f] w (FirstOddE E 0 w) := by
  go_enter Try.func33, Try.ntmps33
  go_wp2
  refine wp_loop_rounds 1 ?_
  rw [rounds_succ]
  go_wp2
  go_ret
  exact ⟨-1, rfl, ⟨fun h => by omega, fun h => by unfold allE at h; cases h⟩, by omega, Kept.refl _⟩
theorem indexExcs_any (v : Value) (n : Nat) (Z : Nat → Nat → Int) (w : World) (h : RV 5 w v n (intC Z)) (hn : n ≤ 4611686018427387904) :
    Calls Try.prog 33 #[v, .func (.func 24) #[] #[]] w (FirstOddE (excOf Z) n w) := by
  rcases h with ⟨rfl, o, cap, rfl⟩ | ⟨b, off, cap, rfl, _, _, hi⟩
  · exact indexExcs_none _ _ _ _ _
  · exact indexExcs_some _ _ _ _ _ _ hi hn
theorem containsExcs_any (v : Value) (n : Nat) (Z : Nat → Nat → Int) (w : World) (h : RV 5 w v n (intC Z)) (hn : n ≤ 4611686018427387904) :
    Calls Try.prog 25 #[v, .func (.func 24) #[] #[]] w fun e w' => e = .returned (.bool (!allE (excOf Z) n)) ∧ Kept w w' := by
  have hk : Kept w w := Kept.refl w
  go_enter Try.func25, Try.ntmps25
  go_wp2_with fail
  refine (indexExcs_any v n Z _ h hn).mono ?_
  rintro e w1 ⟨z, rfl, hz, z1, hn1⟩
  have Hz := Lib.hid hz
  clear hz
  rcases Int.lt_or_le z 0 with hl | hl
  all_goals
    go_wp2
    go_ret
    refine ⟨ret_bool ?_, hn1⟩
    cases ha : allE (excOf Z) n
    · have := Hz.out.2 ha
      first | omega | simp
    · first | (have := Hz.out.1 hl; rw [ha] at this; cases this) | (simp; omega)
def mayX (room : Int) (n : Nat) (E : Nat → Exc) : Bool := inB 0 4194304 room && decide (n ≤ 32) && allE E n
theorem mayX_true {room : Int} {n : Nat} {E : Nat → Exc} : mayX room n E = true ↔ (0 ≤ room ∧ room ≤ 4194304) ∧ n ≤ 32 ∧ allE E n = true := by
  unfold mayX; rw [Bool.and_eq_true, Bool.and_eq_true, inB_true, decide_eq_true_eq, and_assoc]
theorem bandMay_any (v : Value) (room : Int) (n : Nat) (Z : Nat → Nat → Int) (w : World) (h : RV 5 w v n (intC Z)) (hn : n ≤ 4611686018427387904) :
    Calls Try.prog 18 #[v, .int .i64 room] w fun e w' => e = .returned (.bool (mayX room n (excOf Z))) ∧ Kept w w' := by
  obtain ⟨o, cap, rfl⟩ := h.shape
  have hs : mayX room n (excOf Z) = (inB 0 4194304 room && decide (n ≤ 32) && allE (excOf Z) n) := rfl
  cases h0 : inB 0 4194304 room
  · rw [h0, Bool.false_and, Bool.false_and] at hs
    have Hs := Lib.hid hs
    clear hs
    have hk : Kept w w := Kept.refl w
    go_enter Try.func18, Try.ntmps18
    go_wp2_with fail
    refine with_boxes1 ?_
    intro X hX q
    have hsz := hk.size
    replace hk := hk.trans hX
    clear hX
    replace q_l := q.lt
    replace q_0 := q.at 0 _ rfl
    refine (each1_any _ _ _ _ _ q_0).mono ?_
    rintro e w1 ⟨rfl, rfl⟩
    go_wp2
    go_ret
    exact ⟨ret_bool (by rw [Hs.out]), hk⟩
  · rw [h0, Bool.true_and] at hs
    by_cases h1 : n ≤ 32
    · rw [decide_eq_true h1, Bool.true_and] at hs
      have Hs := Lib.hid hs
      clear hs
      have hk : Kept w w := Kept.refl w
      go_enter Try.func18, Try.ntmps18
      go_wp2_with fail
      refine with_boxes1 ?_
      intro X hX q
      have hsz := hk.size
      replace hk := hk.trans hX
      clear hX
      replace q_l := q.lt
      replace q_0 := q.at 0 _ rfl
      refine (each1_any _ _ _ _ _ q_0).mono ?_
      rintro e w1 ⟨rfl, rfl⟩
      clear q
      clear q_l q_0
      go_wp2_with fail
      refine (containsExcs_any _ n Z _ (h.kept hk) hn).mono ?_
      rintro e w1 ⟨rfl, hn⟩
      replace hk := hk.trans hn
      clear hn
      go_wp2
      go_ret
      exact ⟨ret_bool (by simp [Hs.out]), hk⟩
    · rw [decide_eq_false h1, Bool.false_and] at hs
      have Hs := Lib.hid hs
      clear hs
      have hk : Kept w w := Kept.refl w
      go_enter Try.func18, Try.ntmps18
      go_wp2_with fail
      refine with_boxes1 ?_
      intro X hX q
      have hsz := hk.size
      replace hk := hk.trans hX
      clear hX
      replace q_l := q.lt
      replace q_0 := q.at 0 _ rfl
      refine (each1_any _ _ _ _ _ q_0).mono ?_
      rintro e w1 ⟨rfl, rfl⟩
      go_wp2
      go_ret
      exact ⟨ret_bool (by rw [Hs.out]), hk⟩
/-- the band beside the first k: where it begins, where it ends -/
def bandS (E : Nat → Exc) (room y h : Int) : Nat → Int × Int
  | 0 => (0, room)
  | k + 1 => if meetsB (E k) y h = true then (if (E k).side = 1 then (max (bandS E room y h k).1 ((E k).ai + (E k).si), (bandS E room y h k).2) else ((bandS E room y h k).1, min (bandS E room y h k).2 (E k).ai)) else bandS E room y h k
theorem bandS_bd {E : Nat → Exc} {room y h : Int} {n : Nat} (ha : allE E n = true) (hr : 0 ≤ room ∧ room ≤ 4194304) : ∀ k, k ≤ n → (0 ≤ (bandS E room y h k).1 ∧ (bandS E room y h k).1 ≤ 1077936128) ∧ -1073741824 ≤ (bandS E room y h k).2 ∧ (bandS E room y h k).2 ≤ 4194304 := by
  intro k
  induction k with
  | zero => intro _; show (0 ≤ (0 : Int) ∧ (0 : Int) ≤ 1077936128) ∧ -1073741824 ≤ room ∧ room ≤ 4194304; omega
  | succ k ih =>
    intro hk
    have h1 := ih (by omega)
    have h2 := excB_parts (allE_yes ha k (by omega))
    unfold bandS
    split
    · split
      · dsimp only; omega
      · dsimp only; omega
    · exact h1
set_option maxHeartbeats 2000000 in
theorem besideBand_some (b off n cap : Nat) (Z : Nat → Nat → Int) (room y h : Int) (w : World) (hw : RowAt w b off 5 n (intC Z)) (hn : n ≤ 32) (ha : allE (excOf Z) n = true) (hr : 0 ≤ room ∧ room ≤ 4194304) (hy : 0 ≤ y ∧ y ≤ 1073741824) (hh : h ≤ 1073741824) :
    Calls Try.prog 29 #[.slice (some ⟨b, off, none⟩) n cap, .int .i64 room, .int .i64 y, .int .i64 h] w fun e w' => e = .returned (.tuple #[.int .i64 (bandS (excOf Z) room y h n).1, .int .i64 (max (bandS (excOf Z) room y h n).1 (bandS (excOf Z) room y h n).2)]) ∧ Kept w w' := by
  have HB := Lib.hid (fun k hk => bandS_bd (y := y) (h := h) ha hr k hk)
  have HA := Lib.hid (fun k hk => excB_parts (allE_yes ha k hk))
  clear ha
  have hk : Kept w w := Kept.refl w
  go_enter Try.func29, Try.ntmps29
  go_wp2
  go_loopw [10, 11, 13, 17] (fun p q _ i wx => ∃ k : Nat, k ≤ n ∧ i = .int .i64 k ∧ p = .int .i64 (bandS (excOf Z) room y h k).1 ∧ q = .int .i64 (bandS (excOf Z) room y h k).2 ∧ Kept w wx) (fun _ _ _ i _ => n - (intOf i).toNat)
  case atStart => exact ⟨0, Nat.zero_le _, rfl, rfl, rfl, hk⟩
  case round =>
    clear hk
    obtain ⟨k, hkn, rfl, rfl, rfl, hk⟩ := hrel
    by_cases hlt : k < n
    · have hi1 : (k : Int) < (n : Int) := by omega
      have c0 : wr.cell? ⟨b, off + k * 5, none⟩ = some (.int .i64 (excOf Z k).ai) := (hw.kept hk) k 0 hlt (by decide)
      have c1 : wr.cell? ⟨b, off + k * 5 + 1, none⟩ = some (.int .i64 (excOf Z k).ab) := (hw.kept hk) k 1 hlt (by decide)
      have c2 : wr.cell? ⟨b, off + k * 5 + 2, none⟩ = some (.int .i64 (excOf Z k).si) := (hw.kept hk) k 2 hlt (by decide)
      have c3 : wr.cell? ⟨b, off + k * 5 + 3, none⟩ = some (.int .i64 (excOf Z k).sb) := (hw.kept hk) k 3 hlt (by decide)
      have c4 : wr.cell? ⟨b, off + k * 5 + 4, none⟩ = some (.int .i64 (excOf Z k).side) := (hw.kept hk) k 4 hlt (by decide)
      have b1 := HB.out k hkn
      have b2 := HA.out k hlt
      have hstep : bandS (excOf Z) room y h (k + 1) = if meetsB (excOf Z k) y h = true then (if (excOf Z k).side = 1 then (max (bandS (excOf Z) room y h k).1 ((excOf Z k).ai + (excOf Z k).si), (bandS (excOf Z) room y h k).2) else ((bandS (excOf Z) room y h k).1, min (bandS (excOf Z) room y h k).2 (excOf Z k).ai)) else bandS (excOf Z) room y h k := rfl
      obtain ⟨⟨p, q⟩, hpq⟩ : ∃ c, bandS (excOf Z) room y h k = c := ⟨_, rfl⟩
      rw [hpq] at hstep b1 ⊢
      generalize excOf Z k = x at *
      dsimp only at b1 hstep ⊢
      clear hpq
      cases hm : meetsB x y h
      · rw [hm, if_neg (by decide)] at hstep
        have HS := Lib.hid hstep
        clear hstep b1
        go_wp2_with fail
        refine with_boxes1 ?_
        intro X hX e
        have hsz := hk.size
        replace hk := hk.trans hX
        clear hX
        replace e_l := e.lt
        replace e_0 := e.at 0 _ rfl
        replace e_1 := e.at 1 _ rfl
        replace e_2 := e.at 2 _ rfl
        replace e_3 := e.at 3 _ rfl
        replace e_4 := e.at 4 _ rfl
        refine (besideMeets_any x y h _ (by omega) hy hh).mono ?_
        rintro e w1 ⟨rfl, hn⟩
        replace hk := hk.trans hn
        replace e := e.kept hn
        clear hn
        replace e_l := e.lt
        replace e_0 := e.at 0 _ rfl
        replace e_1 := e.at 1 _ rfl
        replace e_2 := e.at 2 _ rfl
        replace e_3 := e.at 3 _ rfl
        replace e_4 := e.at 4 _ rfl
        go_wp2
        go_roundw
        case rel => exact ⟨k + 1, by omega, by go_num, by rw [HS.out], by rw [HS.out], hk⟩
        case measure => simp [intOf]; omega
      · rw [hm, if_pos rfl] at hstep
        obtain ⟨a1, a2, a3, a4, a5⟩ := x
        dsimp only at c0 c1 c2 c3 c4 b2 hstep
        rcases (by omega : a5 = 1 ∨ a5 = 2) with rfl | rfl
        · rw [if_pos rfl] at hstep
          have HS := Lib.hid hstep
          clear hstep
          rcases (by omega : p < a1 + a3 ∨ (p ≤ a1 + a3 ∧ a1 + a3 ≤ p) ∨ a1 + a3 < p) with h1 | h1 | h1
          all_goals
            go_wp2_with fail
            refine with_boxes1 ?_
            intro X hX e
            have hsz := hk.size
            replace hk := hk.trans hX
            clear hX
            replace e_l := e.lt
            replace e_0 := e.at 0 _ rfl
            replace e_1 := e.at 1 _ rfl
            replace e_2 := e.at 2 _ rfl
            replace e_3 := e.at 3 _ rfl
            replace e_4 := e.at 4 _ rfl
            refine (besideMeets_any ⟨a1, a2, a3, a4, 1⟩ y h _ (by dsimp only; omega) hy hh).mono ?_
            rintro e w1 ⟨rfl, hn⟩
            replace hk := hk.trans hn
            replace e := e.kept hn
            clear hn
            replace e_l := e.lt
            replace e_0 := e.at 0 _ rfl
            replace e_1 := e.at 1 _ rfl
            replace e_2 := e.at 2 _ rfl
            replace e_3 := e.at 3 _ rfl
            replace e_4 := e.at 4 _ rfl
            go_wp2
            go_roundw
            case rel => exact ⟨k + 1, by omega, by go_num, by rw [HS.out]; dsimp only; first | rfl | (congr 1; omega), by rw [HS.out], hk⟩
            case measure => simp [intOf]; omega
        · rw [if_neg (by decide)] at hstep
          have HS := Lib.hid hstep
          clear hstep
          rcases (by omega : q < a1 ∨ (q ≤ a1 ∧ a1 ≤ q) ∨ a1 < q) with h1 | h1 | h1
          all_goals
            go_wp2_with fail
            refine with_boxes1 ?_
            intro X hX e
            have hsz := hk.size
            replace hk := hk.trans hX
            clear hX
            replace e_l := e.lt
            replace e_0 := e.at 0 _ rfl
            replace e_1 := e.at 1 _ rfl
            replace e_2 := e.at 2 _ rfl
            replace e_3 := e.at 3 _ rfl
            replace e_4 := e.at 4 _ rfl
            refine (besideMeets_any ⟨a1, a2, a3, a4, 2⟩ y h _ (by dsimp only; omega) hy hh).mono ?_
            rintro e w1 ⟨rfl, hn⟩
            replace hk := hk.trans hn
            replace e := e.kept hn
            clear hn
            replace e_l := e.lt
            replace e_0 := e.at 0 _ rfl
            replace e_1 := e.at 1 _ rfl
            replace e_2 := e.at 2 _ rfl
            replace e_3 := e.at 3 _ rfl
            replace e_4 := e.at 4 _ rfl
            go_wp2
            go_roundw
            case rel => exact ⟨k + 1, by omega, by go_num, by rw [HS.out], by rw [HS.out]; dsimp only; first | rfl | (congr 1; omega), hk⟩
            case measure => simp [intOf]; omega
    · obtain rfl : k = n := by omega
      obtain ⟨⟨p, q⟩, hpq⟩ : ∃ c, bandS (excOf Z) room y h k = c := ⟨_, rfl⟩
      rw [hpq]
      dsimp only
      replace hpq := Lib.hid hpq
      rcases (by omega : p < q ∨ (p ≤ q ∧ q ≤ p) ∨ q < p) with h1 | h1 | h1
      all_goals
        go_wp2
        go_ret2
        exact ⟨by rw [hpq.out]; exact ret_two rfl (by dsimp only; omega), hk⟩
theorem besideBand_none (o : Option Addr) (cap : Nat) (E : Nat → Exc) (room y h : Int) (w : World) (hr : 0 ≤ room ∧ room ≤ 4194304) :
    Calls Try.prog 29 #[.slice o 0 cap, .int .i64 room, .int .i64 y, .int .i64 h] w fun e w' => e = .returned (.tuple #[.int .i64 (bandS E room y h 0).1, .int .i64 (max (bandS E room y h 0).1 (bandS E room y h 0).2)]) ∧ Kept w w' := by
  have Hs := Lib.hid (show bandS E room y h 0 = (0, room) from rfl)
  rcases (by omega : 0 < room ∨ room = 0) with h1 | rfl
  all_goals
    go_enter Try.func29, Try.ntmps29
    go_wp2
    refine wp_loop_rounds 1 ?_
    rw [rounds_succ]
    go_wp2
    go_ret2
    exact ⟨by rw [Hs.out]; exact ret_two rfl (by dsimp only; omega), Kept.refl _⟩
theorem besideBand_any (v : Value) (n : Nat) (Z : Nat → Nat → Int) (room y h : Int) (w : World) (hv : RV 5 w v n (intC Z)) (hm : mayX room n (excOf Z) = true) (hy : 0 ≤ y ∧ y ≤ 1073741824) (hh : h ≤ 1073741824) :
    Calls Try.prog 29 #[v, .int .i64 room, .int .i64 y, .int .i64 h] w fun e w' => e = .returned (.tuple #[.int .i64 (bandS (excOf Z) room y h n).1, .int .i64 (max (bandS (excOf Z) room y h n).1 (bandS (excOf Z) room y h n).2)]) ∧ Kept w w' := by
  obtain ⟨hr, h32, ha⟩ := mayX_true.1 hm
  rcases hv with ⟨rfl, o, cap, rfl⟩ | ⟨b, off, cap, rfl, _, _, hi⟩
  · exact besideBand_none o cap _ room y h w hr
  · exact besideBand_some b off n cap Z room y h w hi h32 ha hr hy hh
/-- where those that a clear tells of have ended -/
def belowS (E : Nat → Exc) (c : Int) : Nat → Int
  | 0 => 0
  | k + 1 => if clearsB c (E k).side = true then max (belowS E c k) (endS (E k)) else belowS E c k
theorem belowS_bd {E : Nat → Exc} {n : Nat} (c : Int) (ha : allE E n = true) : ∀ k, k ≤ n → 0 ≤ belowS E c k ∧ belowS E c k ≤ 8388608 := by
  intro k
  induction k with
  | zero => intro _; exact ⟨Int.le_refl _, by show (0 : Int) ≤ 8388608; decide⟩
  | succ k ih =>
    intro hk
    have h1 := ih (by omega)
    have h2 := excB_parts (allE_yes ha k (by omega))
    unfold belowS
    split
    · unfold endS; omega
    · exact h1
theorem besideBelow_none (o : Option Addr) (cap : Nat) (E : Nat → Exc) (c : Int) (w : World) :
    Calls Try.prog 26 #[.slice o 0 cap, .int .i64 c] w fun e w' => e = .returned (.int .i64 (belowS E c 0)) ∧ Kept w w' := by
  have Hs := Lib.hid (show belowS E c 0 = 0 from rfl)
  go_enter Try.func26, Try.ntmps26
  go_wp2
  refine wp_loop_rounds 1 ?_
  rw [rounds_succ]
  go_wp2
  go_ret
  exact ⟨by rw [Hs.out]; rfl, Kept.refl _⟩
set_option maxHeartbeats 2000000 in
theorem besideBelow_some (b off n cap : Nat) (Z : Nat → Nat → Int) (c : Int) (w : World) (hw : RowAt w b off 5 n (intC Z)) (hn : n ≤ 32) (ha : allE (excOf Z) n = true) :
    Calls Try.prog 26 #[.slice (some ⟨b, off, none⟩) n cap, .int .i64 c] w fun e w' => e = .returned (.int .i64 (belowS (excOf Z) c n)) ∧ Kept w w' := by
  have HB := Lib.hid (fun k hk => belowS_bd c ha k hk)
  have HA := Lib.hid (fun k hk => excB_parts (allE_yes ha k hk))
  clear ha
  have hk : Kept w w := Kept.refl w
  go_enter Try.func26, Try.ntmps26
  go_wp2
  go_loopw [5, 7, 10] (fun p _ i wx => ∃ k : Nat, k ≤ n ∧ i = .int .i64 k ∧ p = .int .i64 (belowS (excOf Z) c k) ∧ Kept w wx) (fun _ _ i _ => n - (intOf i).toNat)
  case atStart => exact ⟨0, Nat.zero_le _, rfl, rfl, hk⟩
  case round =>
    clear hk
    obtain ⟨k, hkn, rfl, rfl, hk⟩ := hrel
    by_cases hlt : k < n
    · have hi1 : (k : Int) < (n : Int) := by omega
      have c0 : wr.cell? ⟨b, off + k * 5, none⟩ = some (.int .i64 (excOf Z k).ai) := (hw.kept hk) k 0 hlt (by decide)
      have c1 : wr.cell? ⟨b, off + k * 5 + 1, none⟩ = some (.int .i64 (excOf Z k).ab) := (hw.kept hk) k 1 hlt (by decide)
      have c2 : wr.cell? ⟨b, off + k * 5 + 2, none⟩ = some (.int .i64 (excOf Z k).si) := (hw.kept hk) k 2 hlt (by decide)
      have c3 : wr.cell? ⟨b, off + k * 5 + 3, none⟩ = some (.int .i64 (excOf Z k).sb) := (hw.kept hk) k 3 hlt (by decide)
      have c4 : wr.cell? ⟨b, off + k * 5 + 4, none⟩ = some (.int .i64 (excOf Z k).side) := (hw.kept hk) k 4 hlt (by decide)
      have b1 := HB.out k hkn
      have b2 := HA.out k hlt
      have hstep : belowS (excOf Z) c (k + 1) = if clearsB c (excOf Z k).side = true then max (belowS (excOf Z) c k) (endS (excOf Z k)) else belowS (excOf Z) c k := rfl
      have hend : endS (excOf Z k) = (excOf Z k).ab + (excOf Z k).sb := rfl
      generalize belowS (excOf Z) c k = p at *
      generalize excOf Z k = x at *
      obtain ⟨z, hz⟩ : ∃ z, endS x = z := ⟨_, rfl⟩
      rw [hz] at hstep hend
      have hzb : 0 ≤ z ∧ z ≤ 8388608 := by omega
      have hz0 : -4611686018427387904 ≤ x.ab + x.sb ∧ x.ab + x.sb ≤ 4611686018427387904 := by omega
      have HE := Lib.hid (fun wx => (show Calls Try.prog 35 #[x.V] wx (fun e w' => e = .returned (.int .i64 z) ∧ Kept wx w') from by have := besideEnd_any x wx hz0; rw [hz] at this; exact this))
      clear hend hz
      cases hm : clearsB c x.side
      · rw [hm, if_neg (by decide)] at hstep
        have HS := Lib.hid hstep
        clear hstep
        go_wp2_with fail
        refine with_boxes1 ?_
        intro X hX e
        have hsz := hk.size
        replace hk := hk.trans hX
        clear hX
        replace e_l := e.lt
        replace e_0 := e.at 0 _ rfl
        replace e_1 := e.at 1 _ rfl
        replace e_2 := e.at 2 _ rfl
        replace e_3 := e.at 3 _ rfl
        replace e_4 := e.at 4 _ rfl
        refine (besideClears_any _ _ _).mono ?_
        rintro e w1 ⟨rfl, rfl⟩
        go_wp2
        go_roundw
        case rel => exact ⟨k + 1, by omega, by go_num, by rw [HS.out], hk⟩
        case measure => simp [intOf]; omega
      · rw [hm, if_pos rfl] at hstep
        have HS := Lib.hid hstep
        clear hstep
        rcases (by omega : p < z ∨ (p ≤ z ∧ z ≤ p) ∨ z < p) with h1 | h1 | h1
        all_goals
          go_wp2_with fail
          refine with_boxes1 ?_
          intro X hX e
          have hsz := hk.size
          replace hk := hk.trans hX
          clear hX
          replace e_l := e.lt
          replace e_0 := e.at 0 _ rfl
          replace e_1 := e.at 1 _ rfl
          replace e_2 := e.at 2 _ rfl
          replace e_3 := e.at 3 _ rfl
          replace e_4 := e.at 4 _ rfl
          refine (besideClears_any _ _ _).mono ?_
          rintro e w1 ⟨rfl, rfl⟩
          go_wp2_with fail
          refine (HE.out _).mono ?_
          rintro e w1 ⟨rfl, hn⟩
          replace hk := hk.trans hn
          replace e := e.kept hn
          clear hn
          replace e_l := e.lt
          replace e_0 := e.at 0 _ rfl
          replace e_1 := e.at 1 _ rfl
          replace e_2 := e.at 2 _ rfl
          replace e_3 := e.at 3 _ rfl
          replace e_4 := e.at 4 _ rfl
          go_wp2
          go_roundw
          case rel => exact ⟨k + 1, by omega, by go_num, by rw [HS.out]; congr 1; omega, hk⟩
          case measure => simp [intOf]; omega
    · obtain rfl : k = n := by omega
      go_wp2
      go_ret
      exact ⟨rfl, hk⟩
theorem besideBelow_any (v : Value) (n : Nat) (Z : Nat → Nat → Int) (c : Int) (w : World) (hv : RV 5 w v n (intC Z)) (hn : n ≤ 32) (ha : allE (excOf Z) n = true) :
    Calls Try.prog 26 #[v, .int .i64 c] w fun e w' => e = .returned (.int .i64 (belowS (excOf Z) c n)) ∧ Kept w w' := by
  rcases hv with ⟨rfl, o, cap, rfl⟩ | ⟨b, off, cap, rfl, _, _, hi⟩
  · exact besideBelow_none o cap _ c w
  · exact besideBelow_some b off n cap Z c w hi hn ha
end Go.Proofs.Ytkonpnaedniceaa
