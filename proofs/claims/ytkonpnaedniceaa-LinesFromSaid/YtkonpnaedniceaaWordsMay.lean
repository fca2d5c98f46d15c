/- Layer 6: words as they may be. -/
import Derived.Test.YtkonpnaedniceaaOpenWords
import Derived.Test.YtkonpnaedniceaaBoxes
import Derived.Deep.QuietTactic
import Derived.BigQuiet
namespace Go.Proofs.Ytkonpnaedniceaa
open Go.RowKit
set_option linter.unusedSimpArgs false
set_option linter.unusedVariables false
def allB (A : Nat → Int) : Nat → Bool
  | 0 => true
  | n + 1 => allB A n && inB 0 4194304 (A n)
theorem allB_no {A : Nat → Int} {k n : Nat} (h : k < n) (hk : inB 0 4194304 (A k) = false) : allB A n = false := by
  induction n with
  | zero => omega
  | succ n ih =>
    unfold allB
    rcases Nat.lt_or_ge k n with h1 | h1
    · rw [ih h1]; rfl
    · obtain rfl : k = n := by omega
      rw [hk, Bool.and_false]
theorem allB_yes {A : Nat → Int} {n : Nat} (h : allB A n = true) : ∀ k, k < n → 0 ≤ A k ∧ A k ≤ 4194304 := by
  intro k hk
  cases hb : inB 0 4194304 (A k) with
  | true => exact inB_true.1 hb
  | false => rw [allB_no hk hb] at h; cases h
def mayW (n : Nat) (A : Nat → Int) : Bool := decide (n ≤ 80) && allB A n
theorem mayW_true {n : Nat} {A : Nat → Int} : mayW n A = true ↔ n ≤ 80 ∧ allB A n = true := by unfold mayW; rw [Bool.and_eq_true, decide_eq_true_eq]
theorem linesMay_none (o : Option Addr) (cap : Nat) (A : Nat → Int) (w : World) :
    Calls Try.prog 7 #[.slice o 0 cap] w fun e w' => e = .returned (.bool (mayW 0 A)) ∧ Kept w w' := by
  go_enter Try.func7, Try.ntmps7
  go_wp2
  refine wp_loop_rounds 1 ?_
  rw [rounds_succ]
  go_wp2
  go_ret
  exact ⟨rfl, Kept.refl _⟩
set_option maxHeartbeats 1000000 in
theorem linesMay_some (b off n cap : Nat) (S : Nat → ByteArray) (A G : Nat → Int) (w : World) (hw : WordsAt w b off n S A G) :
    Calls Try.prog 7 #[.slice (some ⟨b, off, none⟩) n cap] w fun e w' => e = .returned (.bool (mayW n A)) ∧ Kept w w' := by
  by_cases h8 : n ≤ 80
  · have hs : mayW n A = allB A n := by unfold mayW; rw [decide_eq_true h8, Bool.true_and]
    have Hs := Lib.hid hs
    clear hs
    go_enter Try.func7, Try.ntmps7
    go_wp2
    go_loopw [4, 10] (fun _ i wx => ∃ k : Nat, k ≤ n ∧ i = .int .i64 k ∧ Kept w wx ∧ allB A k = true) (fun _ i _ => n - (intOf i).toNat)
    case atStart => exact ⟨0, Nat.zero_le _, rfl, Kept.refl _, rfl⟩
    case round =>
      obtain ⟨k, hk4, rfl, hk, hal⟩ := hrel
      have hal' := Lib.hid hal
      clear hal
      by_cases hlt : k < n
      · have c0 := (hw.kept hk).text k hlt
        have c1 := (hw.kept hk).adv k hlt
        have c2 := (hw.kept hk).gap k hlt
        cases hb : inB 0 4194304 (A k)
        · have hno := Lib.hid (allB_no hlt hb)
          generalize A k = x at *
          go_wp2_with fail
          refine with_boxes2 ?_
          intro X hX B0 a
          have hsz := hk.size
          replace hk := hk.trans hX
          clear hX B0
          replace a_l := a.lt
          replace a_0 := a.at 0 _ rfl
          refine (each1_any _ _ _ _ _ a_0).mono ?_
          rintro e w1 ⟨rfl, rfl⟩
          go_wp2
          go_ret
          exact ⟨ret_bool (by rw [Hs.out, hno.out]), (by first | ((repeat (first | with_reducible exact hk | with_reducible refine Kept.alloc ?_ _ | with_reducible refine Kept.drew ?_ | with_reducible refine Kept.drewN ?_ _ | with_reducible refine Kept.set ?_ (by first | (simp; done) | (simp; omega) | omega) _)); done) | exact hk | exact (hk.alloc _) | exact ((hk.alloc _).alloc _) | exact (((hk.alloc _).alloc _).alloc _) | exact ((((hk.alloc _).alloc _).alloc _).alloc _) | exact (((((hk.alloc _).alloc _).alloc _).alloc _).alloc _) | exact ((((((hk.alloc _).alloc _).alloc _).alloc _).alloc _).alloc _) | (repeat (first | exact hk | refine Kept.alloc ?_ _ | refine Kept.drew ?_ | refine Kept.drewN ?_ _ | refine Kept.set ?_ (by first | (simp; done) | (simp; omega) | omega) _)))⟩
        · have hyes := Lib.hid (show allB A (k + 1) = true by unfold allB; rw [hal'.out, hb]; rfl)
          generalize A k = x at *
          go_wp2_with fail
          refine with_boxes2 ?_
          intro X hX B0 a
          have hsz := hk.size
          replace hk := hk.trans hX
          clear hX B0
          replace a_l := a.lt
          replace a_0 := a.at 0 _ rfl
          refine (each1_any _ _ _ _ _ a_0).mono ?_
          rintro e w1 ⟨rfl, rfl⟩
          go_wp2
          go_roundw
          case rel => exact ⟨k + 1, by omega, by go_num, (by first | ((repeat (first | with_reducible exact hk | with_reducible refine Kept.alloc ?_ _ | with_reducible refine Kept.drew ?_ | with_reducible refine Kept.drewN ?_ _ | with_reducible refine Kept.set ?_ (by first | (simp; done) | (simp; omega) | omega) _)); done) | exact hk | exact (hk.alloc _) | exact ((hk.alloc _).alloc _) | exact (((hk.alloc _).alloc _).alloc _) | exact ((((hk.alloc _).alloc _).alloc _).alloc _) | exact (((((hk.alloc _).alloc _).alloc _).alloc _).alloc _) | exact ((((((hk.alloc _).alloc _).alloc _).alloc _).alloc _).alloc _) | (repeat (first | exact hk | refine Kept.alloc ?_ _ | refine Kept.drew ?_ | refine Kept.drewN ?_ _ | refine Kept.set ?_ (by first | (simp; done) | (simp; omega) | omega) _))), hyes.out⟩
          case measure => simp [intOf]; omega
      · obtain rfl : k = n := by omega
        go_wp2
        go_ret
        exact ⟨ret_bool (by rw [Hs.out, hal'.out]), hk⟩
  · have hs : mayW n A = false := by unfold mayW; rw [decide_eq_false h8, Bool.false_and]
    have Hs := Lib.hid hs
    clear hs
    go_enter Try.func7, Try.ntmps7
    go_wp2
    go_ret
    exact ⟨ret_bool (by rw [Hs.out]), Kept.refl _⟩
end Go.Proofs.Ytkonpnaedniceaa
