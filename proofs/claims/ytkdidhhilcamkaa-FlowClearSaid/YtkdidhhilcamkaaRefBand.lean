/- Layers 16, 17: bands, by the document. -/
import Derived.Test.YtkdidhhilcamkaaSettle
namespace Go.Proofs.Ytkdidhhilcamkaa
open Go.RowKit Go.Deep
set_option linter.unusedSimpArgs false
set_option linter.unusedVariables false
theorem Kept.kept {a b c : World} (h : Kept a b) (k : Kept b c) : Kept a c := h.trans k
theorem upTo11_any (x m : Int) (w : World) :
    Calls Try.prog 35 #[.int .i64 x, .int .i64 m] w fun e w' => e = .returned (.bool (inB 0 m x)) ∧ w = w' := by
  have hs : inB 0 m x = decide (0 ≤ x ∧ x ≤ m) := rfl
  have Hs := Lib.hid hs
  clear hs
  by_cases h : 0 ≤ x
  all_goals
    go_enter Try.func35, Try.ntmps35
    go_wp2
    go_ret
    exact ⟨ret_bool (by rw [Hs.out]; first | (simp [h]; done) | (simp [h]; omega)), rfl⟩
theorem room11_any (x : Int) (w : World) :
    Calls Try.prog 34 #[.int .i64 x] w fun e w' => e = .returned (.bool (inB 0 4194304 x)) ∧ w = w' := by
  go_enter Try.func34, Try.ntmps34
  go_wp2_with (go_at_call 35; refine (upTo11_any _ _ _).mono ?_; rintro e w1 ⟨rfl, rfl⟩)
  go_ret
  exact ⟨rfl, rfl⟩
theorem refMay1_any (x : Int) (w : World) :
    Calls Try.prog 41 #[.int .i64 x] w fun e w' => e = .returned (.bool (mayB x)) ∧ w = w' := by
  have Hs := Lib.hid (show mayB x = decide (-1073741824 ≤ x ∧ x ≤ 1073741824) from rfl)
  by_cases h : -1073741824 ≤ x
  all_goals
    go_enter Try.func41, Try.ntmps41
    go_wp2
    go_ret
    exact ⟨ret_bool (by rw [Hs.out]; first | (simp [h]; done) | (simp [h]; omega)), rfl⟩
theorem refBottom_any (x : Exc) (w : World) (h : -4611686018427387904 ≤ x.ab + x.sb ∧ x.ab + x.sb ≤ 4611686018427387904) :
    Calls Try.prog 57 #[x.V] w fun e w' => e = .returned (.int .i64 (endS x)) ∧ Kept w w' := by
  have Hs := Lib.hid (show endS x = x.ab + x.sb from rfl)
  have hk : Kept w w := Kept.refl w
  go_enter Try.func57, Try.ntmps57
  go_wp2
  go_ret
  exact ⟨ret_int (by rw [Hs.out]), (by first | ((repeat (first | with_reducible exact hk | with_reducible refine Kept.alloc ?_ _ | with_reducible refine Kept.drew ?_ | with_reducible refine Kept.drewN ?_ _ | with_reducible refine Kept.set ?_ (by first | (simp; done) | (simp; omega) | omega) _)); done) | exact hk | exact (hk.alloc _) | exact ((hk.alloc _).alloc _) | exact (((hk.alloc _).alloc _).alloc _) | exact ((((hk.alloc _).alloc _).alloc _).alloc _) | exact (((((hk.alloc _).alloc _).alloc _).alloc _).alloc _) | exact ((((((hk.alloc _).alloc _).alloc _).alloc _).alloc _).alloc _) | (repeat (first | exact hk | refine Kept.alloc ?_ _ | refine Kept.drew ?_ | refine Kept.drewN ?_ _ | refine Kept.set ?_ (by first | (simp; done) | (simp; omega) | omega) _)))⟩
/-- the order of the document's tests -/
def refExcB (x : Exc) : Bool := inB 1 2 x.side && inB 0 4194304 x.si && inB 0 4194304 x.sb && inB 0 4194304 x.ab && mayB x.ai
theorem refExcB_eq (x : Exc) : refExcB x = excB x := by
  unfold refExcB excB
  cases inB 1 2 x.side <;> cases inB 0 4194304 x.si <;> cases inB 0 4194304 x.sb <;> cases inB 0 4194304 x.ab <;> cases mayB x.ai <;> rfl
theorem refBandsMay_none (o : Option Addr) (cap : Nat) (room : Int) (E : Nat → Exc) (w : World) :
    Calls Try.prog 19 #[.slice o 0 cap, .int .i64 room] w fun e w' => e = .returned (.bool (mayX room 0 E)) ∧ Kept w w' := by
  have Hs := Lib.hid (show mayX room 0 E = inB 0 4194304 room by unfold mayX allE; simp)
  have hk : Kept w w := Kept.refl w
  go_enter Try.func19, Try.ntmps19
  go_wp2
  refine wp_loop_rounds 1 ?_
  rw [rounds_succ]
  go_wp2_with fail
  refine (room11_any _ _).mono ?_
  rintro e w1 ⟨rfl, rfl⟩
  go_wp2
  go_ret
  exact ⟨ret_bool (by rw [Hs.out]), hk⟩
set_option maxHeartbeats 4000000 in
theorem refBandsMay_some (b off n cap : Nat) (Z : Nat → Nat → Int) (room : Int) (w : World) (hw : RowAt w b off 5 n (intC Z)) (hn : n ≤ 4611686018427387904) :
    Calls Try.prog 19 #[.slice (some ⟨b, off, none⟩) n cap, .int .i64 room] w fun e w' => e = .returned (.bool (mayX room n (excOf Z))) ∧ Kept w w' := by
  go_enter Try.func19, Try.ntmps19
  go_wp2
  go_loopw [5, 6] (fun i _ wx => ∃ k : Nat, k ≤ n ∧ i = .int .i64 k ∧ Kept w wx ∧ allE (excOf Z) k = true) (fun i _ _ => n - (intOf i).toNat)
  case atStart => exact ⟨0, Nat.zero_le _, rfl, Kept.refl _, rfl⟩
  case round =>
    obtain ⟨k, hk4, rfl, hk, hal⟩ := hrel
    have hal' := Lib.hid hal
    clear hal
    by_cases hlt : k < n
    · have hi1 : (k : Int) < (n : Int) := by omega
      have c0 : wr.cell? ⟨b, off + k * 5, none⟩ = some (.int .i64 (excOf Z k).ai) := (hw.kept hk) k 0 hlt (by decide)
      have c1 : wr.cell? ⟨b, off + k * 5 + 1, none⟩ = some (.int .i64 (excOf Z k).ab) := (hw.kept hk) k 1 hlt (by decide)
      have c2 : wr.cell? ⟨b, off + k * 5 + 2, none⟩ = some (.int .i64 (excOf Z k).si) := (hw.kept hk) k 2 hlt (by decide)
      have c3 : wr.cell? ⟨b, off + k * 5 + 3, none⟩ = some (.int .i64 (excOf Z k).sb) := (hw.kept hk) k 3 hlt (by decide)
      have c4 : wr.cell? ⟨b, off + k * 5 + 4, none⟩ = some (.int .i64 (excOf Z k).side) := (hw.kept hk) k 4 hlt (by decide)
      have HNO := Lib.hid (fun (hb : refExcB (excOf Z k) = false) => (show mayX room n (excOf Z) = false by unfold mayX; rw [allE_no hlt (by rw [← refExcB_eq]; exact hb), Bool.and_false]))
      have HYES := Lib.hid (fun (hb : refExcB (excOf Z k) = true) => (show allE (excOf Z) (k + 1) = true by unfold allE; rw [hal'.out, ← refExcB_eq, hb]; rfl))
      generalize excOf Z k = x at *
      obtain ⟨a1, a2, a3, a4, a5⟩ := x
      dsimp only at c0 c1 c2 c3 c4
      rcases (by omega : a5 = 1 ∨ a5 = 2 ∨ (a5 ≠ 1 ∧ a5 ≠ 2)) with rfl | rfl | ⟨s1, s2⟩
      · have hsd : inB 1 2 (1 : Int) = true := rfl
        go_wp2_with fail
        refine with_boxes1 ?_
        intro X hX b
        have hsz := hk.size
        replace hk := hk.trans hX
        clear hX
        replace b_l := b.lt
        replace b_0 := b.at 0 _ rfl
        replace b_1 := b.at 1 _ rfl
        replace b_2 := b.at 2 _ rfl
        replace b_3 := b.at 3 _ rfl
        replace b_4 := b.at 4 _ rfl
        refine (room11_any _ _).mono ?_
        rintro e w1 ⟨rfl, rfl⟩
        rcases false_first1 (inB 0 4194304 a3) with h0 | h0
        · have Hs := Lib.hid (HNO.out (by unfold refExcB; simp only [hsd, h0]; simp))
          clear HNO HYES hsd
          go_wp2
          go_ret
          exact ⟨ret_bool (by rw [Hs.out]), hk⟩
        go_wp2_with fail
        refine (room11_any _ _).mono ?_
        rintro e w1 ⟨rfl, rfl⟩
        rcases false_first1 (inB 0 4194304 a4) with h1 | h1
        · have Hs := Lib.hid (HNO.out (by unfold refExcB; simp only [hsd, h0, h1]; simp))
          clear HNO HYES hsd
          go_wp2
          go_ret
          exact ⟨ret_bool (by rw [Hs.out]), hk⟩
        go_wp2_with fail
        refine (room11_any _ _).mono ?_
        rintro e w1 ⟨rfl, rfl⟩
        rcases false_first1 (inB 0 4194304 a2) with h2 | h2
        · have Hs := Lib.hid (HNO.out (by unfold refExcB; simp only [hsd, h0, h1, h2]; simp))
          clear HNO HYES hsd
          go_wp2
          go_ret
          exact ⟨ret_bool (by rw [Hs.out]), hk⟩
        go_wp2_with fail
        refine (refMay1_any _ _).mono ?_
        rintro e w1 ⟨rfl, rfl⟩
        rcases false_first1 (mayB a1) with h3 | h3
        · have Hs := Lib.hid (HNO.out (by unfold refExcB; simp only [hsd, h0, h1, h2, h3]; simp))
          clear HNO HYES hsd
          go_wp2
          go_ret
          exact ⟨ret_bool (by rw [Hs.out]), hk⟩
        have Hs := Lib.hid (HYES.out (by unfold refExcB; simp only [hsd, h0, h1, h2, h3]; rfl))
        clear HNO HYES hsd
        go_wp2
        go_roundw
        case rel => exact ⟨k + 1, by omega, by go_num, hk, Hs.out⟩
        case measure => simp [intOf]; omega
      · have hsd : inB 1 2 (2 : Int) = true := rfl
        go_wp2_with fail
        refine with_boxes1 ?_
        intro X hX b
        have hsz := hk.size
        replace hk := hk.trans hX
        clear hX
        replace b_l := b.lt
        replace b_0 := b.at 0 _ rfl
        replace b_1 := b.at 1 _ rfl
        replace b_2 := b.at 2 _ rfl
        replace b_3 := b.at 3 _ rfl
        replace b_4 := b.at 4 _ rfl
        refine (room11_any _ _).mono ?_
        rintro e w1 ⟨rfl, rfl⟩
        rcases false_first1 (inB 0 4194304 a3) with h0 | h0
        · have Hs := Lib.hid (HNO.out (by unfold refExcB; simp only [hsd, h0]; simp))
          clear HNO HYES hsd
          go_wp2
          go_ret
          exact ⟨ret_bool (by rw [Hs.out]), hk⟩
        go_wp2_with fail
        refine (room11_any _ _).mono ?_
        rintro e w1 ⟨rfl, rfl⟩
        rcases false_first1 (inB 0 4194304 a4) with h1 | h1
        · have Hs := Lib.hid (HNO.out (by unfold refExcB; simp only [hsd, h0, h1]; simp))
          clear HNO HYES hsd
          go_wp2
          go_ret
          exact ⟨ret_bool (by rw [Hs.out]), hk⟩
        go_wp2_with fail
        refine (room11_any _ _).mono ?_
        rintro e w1 ⟨rfl, rfl⟩
        rcases false_first1 (inB 0 4194304 a2) with h2 | h2
        · have Hs := Lib.hid (HNO.out (by unfold refExcB; simp only [hsd, h0, h1, h2]; simp))
          clear HNO HYES hsd
          go_wp2
          go_ret
          exact ⟨ret_bool (by rw [Hs.out]), hk⟩
        go_wp2_with fail
        refine (refMay1_any _ _).mono ?_
        rintro e w1 ⟨rfl, rfl⟩
        rcases false_first1 (mayB a1) with h3 | h3
        · have Hs := Lib.hid (HNO.out (by unfold refExcB; simp only [hsd, h0, h1, h2, h3]; simp))
          clear HNO HYES hsd
          go_wp2
          go_ret
          exact ⟨ret_bool (by rw [Hs.out]), hk⟩
        have Hs := Lib.hid (HYES.out (by unfold refExcB; simp only [hsd, h0, h1, h2, h3]; rfl))
        clear HNO HYES hsd
        go_wp2
        go_roundw
        case rel => exact ⟨k + 1, by omega, by go_num, hk, Hs.out⟩
        case measure => simp [intOf]; omega
      · have Hs := Lib.hid (HNO.out (by unfold refExcB; rw [show inB 1 2 a5 = false from inB_false.2 (by omega)]; rfl))
        have s1' : (a5 == 1) = false := by simpa using s1
        have s2' : (a5 == 2) = false := by simpa using s2
        have s1'' : (a5 != 1) = true := by simpa using s1
        have s2'' : (a5 != 2) = true := by simpa using s2
        clear HNO HYES s1 s2
        go_wp2
        go_ret
        exact ⟨ret_bool (by rw [Hs.out]), (by first | ((repeat (first | with_reducible exact hk | with_reducible refine Kept.alloc ?_ _ | with_reducible refine Kept.drew ?_ | with_reducible refine Kept.drewN ?_ _ | with_reducible refine Kept.set ?_ (by first | (simp; done) | (simp; omega) | omega) _)); done) | exact hk | exact (hk.alloc _) | exact ((hk.alloc _).alloc _) | exact (((hk.alloc _).alloc _).alloc _) | exact ((((hk.alloc _).alloc _).alloc _).alloc _) | exact (((((hk.alloc _).alloc _).alloc _).alloc _).alloc _) | exact ((((((hk.alloc _).alloc _).alloc _).alloc _).alloc _).alloc _) | (repeat (first | exact hk | refine Kept.alloc ?_ _ | refine Kept.drew ?_ | refine Kept.drewN ?_ _ | refine Kept.set ?_ (by first | (simp; done) | (simp; omega) | omega) _)))⟩
    · obtain rfl : k = n := by omega
      by_cases h32 : k ≤ 32
      · have Hs := Lib.hid (show mayX room k (excOf Z) = inB 0 4194304 room by unfold mayX; rw [hal'.out, decide_eq_true h32, Bool.and_true, Bool.and_true])
        go_wp2_with fail
        refine (room11_any _ _).mono ?_
        rintro e w1 ⟨rfl, rfl⟩
        go_wp2
        go_ret
        exact ⟨ret_bool (by rw [Hs.out]), hk⟩
      · have Hs := Lib.hid (show mayX room k (excOf Z) = false from by unfold mayX; rw [decide_eq_false h32, Bool.and_false, Bool.false_and])
        go_wp2
        go_ret
        exact ⟨ret_bool (by rw [Hs.out]), hk⟩
theorem refBandsMay_any (v : Value) (n : Nat) (Z : Nat → Nat → Int) (room : Int) (w : World) (hv : RV 5 w v n (intC Z)) (hn : n ≤ 4611686018427387904) :
    Calls Try.prog 19 #[v, .int .i64 room] w fun e w' => e = .returned (.bool (mayX room n (excOf Z))) ∧ Kept w w' := by
  rcases hv with ⟨rfl, o, cap, rfl⟩ | ⟨b, off, cap, rfl, _, _, hi⟩
  · exact refBandsMay_none o cap room _ w
  · exact refBandsMay_some b off n cap Z room w hi hn
end Go.Proofs.Ytkdidhhilcamkaa
