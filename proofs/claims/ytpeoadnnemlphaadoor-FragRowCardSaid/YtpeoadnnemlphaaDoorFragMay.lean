/- Layer 23: may these be pieces? -/
import Derived.Test.YtpeoadnnemlphaaDoorRowFrags
import Derived.Test.YtpeoadnnemlphaaDoorGeom2
import Derived.BigRegion
import Derived.StillTailTactics
import Derived.Deep.CutRange
namespace Go.Proofs.YtpeoadnnemlphaaDoor
open Go.RowKit Go.Deep
set_option linter.unusedSimpArgs false
set_option linter.unusedVariables false
def fragB (z : Nat → Int) : Bool := inB 0 31 (z 0) && inB (-1) 80 (z 1) && sizedB (z 4) (z 5) && mayB (z 2) && mayB (z 3)
def allF (Z : Nat → Nat → Int) : Nat → Bool
  | 0 => true
  | n + 1 => allF Z n && fragB (Z n)
theorem allF_no {Z : Nat → Nat → Int} {k n : Nat} (h : k < n) (hk : fragB (Z k) = false) : allF Z n = false := by
  induction n with
  | zero => omega
  | succ n ih =>
    unfold allF
    rcases Nat.lt_or_ge k n with h1 | h1
    · rw [ih h1]; rfl
    · obtain rfl : k = n := by omega
      rw [hk, Bool.and_false]
theorem allF_yes {Z : Nat → Nat → Int} {n : Nat} (h : allF Z n = true) : ∀ k, k < n → fragB (Z k) = true := by
  intro k hk
  cases hb : fragB (Z k)
  · rw [allF_no hk hb] at h; cases h
  · rfl
theorem allF_of {Z : Nat → Nat → Int} {n : Nat} (h : ∀ k, k < n → fragB (Z k) = true) : allF Z n = true := by
  induction n with
  | zero => rfl
  | succ n ih => unfold allF; rw [ih fun k hk => h k (by omega), h n (by omega)]; rfl
def mayF (n : Nat) (Z : Nat → Nat → Int) : Bool := decide (n ≤ 4096) && allF Z n
theorem mayF_true {n : Nat} {Z : Nat → Nat → Int} : mayF n Z = true ↔ n ≤ 4096 ∧ allF Z n = true := by unfold mayF; rw [Bool.and_eq_true, decide_eq_true_eq]
theorem fragMay_none (o : Option Addr) (cap : Nat) (Z : Nat → Nat → Int) (w : World) :
    Calls Tryd.prog 25 #[.slice o 0 cap] w fun e w' => e = .returned (.bool (mayF 0 Z)) ∧ Kept w w' := by
  go_enter Tryd.func25, Tryd.ntmps25
  go_wp2
  refine wp_loop_rounds 1 ?_
  rw [rounds_succ]
  go_wp2
  go_ret
  exact ⟨rfl, Kept.refl _⟩
set_option maxRecDepth 20000 in
set_option maxHeartbeats 4000000 in
theorem fragMay_some (b off n cap : Nat) (Z : Nat → Nat → Int) (w : World) (hw : RowAt w b off 6 n (intC Z)) (hn : n ≤ 4611686018427387904) :
    Calls Tryd.prog 25 #[.slice (some ⟨b, off, none⟩) n cap] w fun e w' => e = .returned (.bool (mayF n Z)) ∧ Kept w w' := by
  by_cases h8 : n ≤ 4096
  · have hs : mayF n Z = allF Z n := by unfold mayF; rw [decide_eq_true h8, Bool.true_and]
    have Hs := Lib.hid hs
    clear hs
    have h8i : (n : Int) ≤ 4096 := by omega
    go_enter Tryd.func25, Tryd.ntmps25
    go_wp2
    go_loopw [4, 5, 6, 12] (fun _ _ _ i wx => ∃ k : Nat, k ≤ n ∧ i = .int .i64 k ∧ Kept w wx ∧ allF Z k = true) (fun _ _ _ i _ => n - (intOf i).toNat)
    case atStart => exact ⟨0, Nat.zero_le _, rfl, Kept.refl _, rfl⟩
    case round =>
      obtain ⟨k, hk4, rfl, hk, hal⟩ := hrel
      have hal' := Lib.hid hal
      clear hal
      by_cases hlt : k < n
      · have hi0 : (0 : Int) ≤ (k : Int) := Int.natCast_nonneg _
        have hi1 : (k : Int) < (n : Int) := by omega
        have c0 : wr.cell? ⟨b, off + k * 6, none⟩ = some (.int .i64 (Z k 0)) := (hw.kept hk) k 0 hlt (by decide)
        have c1 : wr.cell? ⟨b, off + k * 6 + 1, none⟩ = some (.int .i64 (Z k 1)) := (hw.kept hk) k 1 hlt (by decide)
        have c2 : wr.cell? ⟨b, off + k * 6 + 2, none⟩ = some (.int .i64 (Z k 2)) := (hw.kept hk) k 2 hlt (by decide)
        have c3 : wr.cell? ⟨b, off + k * 6 + 3, none⟩ = some (.int .i64 (Z k 3)) := (hw.kept hk) k 3 hlt (by decide)
        have c4 : wr.cell? ⟨b, off + k * 6 + 4, none⟩ = some (.int .i64 (Z k 4)) := (hw.kept hk) k 4 hlt (by decide)
        have c5 : wr.cell? ⟨b, off + k * 6 + 5, none⟩ = some (.int .i64 (Z k 5)) := (hw.kept hk) k 5 hlt (by decide)
        have hno := Lib.hid (fun (h : fragB (Z k) = false) => allF_no hlt h)
        have hyes := Lib.hid (fun (h : fragB (Z k) = true) => (show allF Z (k + 1) = true by unfold allF; rw [hal'.out, h]; rfl))
        have hsp : fragB (Z k) = (inB 0 31 (Z k 0) && inB (-1) 80 (Z k 1) && sizedB (Z k 4) (Z k 5) && mayB (Z k 2) && mayB (Z k 3)) := rfl
        generalize fragB (Z k) = fb at *
        generalize Z k 0 = z0 at *
        generalize Z k 1 = z1 at *
        generalize Z k 2 = z2 at *
        generalize Z k 3 = z3 at *
        generalize Z k 4 = z4 at *
        generalize Z k 5 = z5 at *
        have hsp2 := Lib.hid hsp
        clear hsp
        go_wp2_with fail
        refine code_boxes1 ?_
        intro X hX f
        have hsz := hk.size
        replace hk := hk.trans hX
        clear hX
        replace f_l := f.lt
        replace f_0 := f.at 0 _ rfl
        replace f_1 := f.at 1 _ rfl
        replace f_2 := f.at 2 _ rfl
        replace f_3 := f.at 3 _ rfl
        replace f_4 := f.at 4 _ rfl
        replace f_5 := f.at 5 _ rfl
        clear c0 c1 c2 c3 c4 c5
        go_cut [5, 6] from 16 to 22 (fun sa sz wx => ∃ A Q : Nat, sa = .pointer (some ⟨A, 0, none⟩) ∧ sz = .pointer (some ⟨Q, 0, none⟩) ∧ A ≠ Q ∧ X.heap.size ≤ A ∧ X.heap.size ≤ Q ∧ Kept X wx ∧ Own wx A 50 #[.int .i64 z2, .int .i64 z3] ∧ Own wx Q 50 #[.int .i64 z4, .int .i64 z5])
        case first =>
          go_region
          · go_wp2_with fail
            go_meet
            exact ⟨_, _, rfl, rfl, by simp, by simp, by simp, (((Kept.refl _).alloc _).alloc _).drew, ((Own.at_ _ _ _ rfl).alloc _).drew, (Own.at_ _ _ _ (by simp)).drew⟩
          · go_wp2_with fail
            go_meet
            exact ⟨_, _, rfl, rfl, by simp, by simp, by simp, (((Kept.refl _).alloc _).alloc _).drew, (Own.at_ _ _ _ (by simp)).drew, ((Own.at_ _ _ _ rfl).alloc _).drew⟩
        case rest =>
          obtain ⟨A, Q, rfl, rfl, hAQ, hA, hQ, hn, a, q⟩ := hcut
          replace hk := hk.trans hn
          replace f := f.kept hn
          clear hn
          have a_l := a.lt
          have a_0 := a.at 0 _ rfl
          have a_1 := a.at 1 _ rfl
          have q_l := q.lt
          have q_0 := q.at 0 _ rfl
          have q_1 := q.at 1 _ rfl
          replace f_l := f.lt
          replace f_0 := f.at 0 _ rfl
          replace f_1 := f.at 1 _ rfl
          replace f_2 := f.at 2 _ rfl
          replace f_3 := f.at 3 _ rfl
          replace f_4 := f.at 4 _ rfl
          replace f_5 := f.at 5 _ rfl
          replace a_l := a.lt
          replace a_0 := a.at 0 _ rfl
          replace a_1 := a.at 1 _ rfl
          replace q_l := q.lt
          replace q_0 := q.at 0 _ rfl
          replace q_1 := q.at 1 _ rfl
          cases h1 : inB 0 31 z0 with
          | false =>
            go_wp2_with fail
            refine with_boxes1 ?_
            intro X hX x
            have hsz := hk.size
            replace hk := hk.trans hX
            replace f := f.kept hX
            replace a := a.kept hX
            replace q := q.kept hX
            clear hX
            replace f_l := f.lt
            replace f_0 := f.at 0 _ rfl
            replace f_1 := f.at 1 _ rfl
            replace f_2 := f.at 2 _ rfl
            replace f_3 := f.at 3 _ rfl
            replace f_4 := f.at 4 _ rfl
            replace f_5 := f.at 5 _ rfl
            replace a_l := a.lt
            replace a_0 := a.at 0 _ rfl
            replace a_1 := a.at 1 _ rfl
            replace q_l := q.lt
            replace q_0 := q.at 0 _ rfl
            replace q_1 := q.at 1 _ rfl
            replace x_l := x.lt
            replace x_0 := x.at 0 _ rfl
            refine (each1_any _ _ _ _ _ x_0).mono ?_
            rintro e w1 ⟨rfl, rfl⟩
            go_wp2
            go_ret
            exact ⟨ret_bool (by rw [Hs.out, hno.out (by rw [hsp2.out]; simp [h1])]), hk⟩
          | true =>
            go_wp2_with fail
            refine with_boxes1 ?_
            intro X hX x
            have hsz := hk.size
            replace hk := hk.trans hX
            replace f := f.kept hX
            replace a := a.kept hX
            replace q := q.kept hX
            clear hX
            replace f_l := f.lt
            replace f_0 := f.at 0 _ rfl
            replace f_1 := f.at 1 _ rfl
            replace f_2 := f.at 2 _ rfl
            replace f_3 := f.at 3 _ rfl
            replace f_4 := f.at 4 _ rfl
            replace f_5 := f.at 5 _ rfl
            replace a_l := a.lt
            replace a_0 := a.at 0 _ rfl
            replace a_1 := a.at 1 _ rfl
            replace q_l := q.lt
            replace q_0 := q.at 0 _ rfl
            replace q_1 := q.at 1 _ rfl
            replace x_l := x.lt
            replace x_0 := x.at 0 _ rfl
            refine (each1_any _ _ _ _ _ x_0).mono ?_
            rintro e w1 ⟨rfl, rfl⟩
            clear x
            clear x_l x_0
            cases h2 : inB (-1) 80 z1 with
            | false =>
              go_wp2_with fail
              refine with_boxes1 ?_
              intro X hX x
              have hsz := hk.size
              replace hk := hk.trans hX
              replace f := f.kept hX
              replace a := a.kept hX
              replace q := q.kept hX
              clear hX
              replace f_l := f.lt
              replace f_0 := f.at 0 _ rfl
              replace f_1 := f.at 1 _ rfl
              replace f_2 := f.at 2 _ rfl
              replace f_3 := f.at 3 _ rfl
              replace f_4 := f.at 4 _ rfl
              replace f_5 := f.at 5 _ rfl
              replace a_l := a.lt
              replace a_0 := a.at 0 _ rfl
              replace a_1 := a.at 1 _ rfl
              replace q_l := q.lt
              replace q_0 := q.at 0 _ rfl
              replace q_1 := q.at 1 _ rfl
              replace x_l := x.lt
              replace x_0 := x.at 0 _ rfl
              refine (each1_any _ _ _ _ _ x_0).mono ?_
              rintro e w1 ⟨rfl, rfl⟩
              go_wp2
              go_ret
              exact ⟨ret_bool (by rw [Hs.out, hno.out (by rw [hsp2.out]; simp [h1, h2])]), hk⟩
            | true =>
              go_wp2_with fail
              refine with_boxes1 ?_
              intro X hX x
              have hsz := hk.size
              replace hk := hk.trans hX
              replace f := f.kept hX
              replace a := a.kept hX
              replace q := q.kept hX
              clear hX
              replace f_l := f.lt
              replace f_0 := f.at 0 _ rfl
              replace f_1 := f.at 1 _ rfl
              replace f_2 := f.at 2 _ rfl
              replace f_3 := f.at 3 _ rfl
              replace f_4 := f.at 4 _ rfl
              replace f_5 := f.at 5 _ rfl
              replace a_l := a.lt
              replace a_0 := a.at 0 _ rfl
              replace a_1 := a.at 1 _ rfl
              replace q_l := q.lt
              replace q_0 := q.at 0 _ rfl
              replace q_1 := q.at 1 _ rfl
              replace x_l := x.lt
              replace x_0 := x.at 0 _ rfl
              refine (each1_any _ _ _ _ _ x_0).mono ?_
              rintro e w1 ⟨rfl, rfl⟩
              clear x
              clear x_l x_0
              cases h3 : sizedB z4 z5 with
              | false =>
                go_wp2_with fail
                refine with_boxes1 ?_
                intro X hX x
                have hsz := hk.size
                replace hk := hk.trans hX
                replace f := f.kept hX
                replace a := a.kept hX
                replace q := q.kept hX
                clear hX
                replace f_l := f.lt
                replace f_0 := f.at 0 _ rfl
                replace f_1 := f.at 1 _ rfl
                replace f_2 := f.at 2 _ rfl
                replace f_3 := f.at 3 _ rfl
                replace f_4 := f.at 4 _ rfl
                replace f_5 := f.at 5 _ rfl
                replace a_l := a.lt
                replace a_0 := a.at 0 _ rfl
                replace a_1 := a.at 1 _ rfl
                replace q_l := q.lt
                replace q_0 := q.at 0 _ rfl
                replace q_1 := q.at 1 _ rfl
                replace x_l := x.lt
                replace x_0 := x.at 0 _ rfl
                replace x_1 := x.at 1 _ rfl
                refine (eachSized_any _ _ _ _ x_0 x_1).mono ?_
                rintro e w1 ⟨rfl, rfl⟩
                go_wp2
                go_ret
                exact ⟨ret_bool (by rw [Hs.out, hno.out (by rw [hsp2.out]; simp [h1, h2, h3])]), hk⟩
              | true =>
                go_wp2_with fail
                refine with_boxes1 ?_
                intro X hX x
                have hsz := hk.size
                replace hk := hk.trans hX
                replace f := f.kept hX
                replace a := a.kept hX
                replace q := q.kept hX
                clear hX
                replace f_l := f.lt
                replace f_0 := f.at 0 _ rfl
                replace f_1 := f.at 1 _ rfl
                replace f_2 := f.at 2 _ rfl
                replace f_3 := f.at 3 _ rfl
                replace f_4 := f.at 4 _ rfl
                replace f_5 := f.at 5 _ rfl
                replace a_l := a.lt
                replace a_0 := a.at 0 _ rfl
                replace a_1 := a.at 1 _ rfl
                replace q_l := q.lt
                replace q_0 := q.at 0 _ rfl
                replace q_1 := q.at 1 _ rfl
                replace x_l := x.lt
                replace x_0 := x.at 0 _ rfl
                replace x_1 := x.at 1 _ rfl
                refine (eachSized_any _ _ _ _ x_0 x_1).mono ?_
                rintro e w1 ⟨rfl, rfl⟩
                clear x
                clear x_l x_0 x_1
                cases h4 : mayB z2 with
                | false =>
                  go_wp2_with fail
                  refine (unitMay_any _ _).mono ?_
                  rintro e w1 ⟨rfl, hn⟩
                  replace hk := hk.trans hn
                  replace f := f.kept hn
                  replace a := a.kept hn
                  replace q := q.kept hn
                  clear hn
                  replace f_l := f.lt
                  replace f_0 := f.at 0 _ rfl
                  replace f_1 := f.at 1 _ rfl
                  replace f_2 := f.at 2 _ rfl
                  replace f_3 := f.at 3 _ rfl
                  replace f_4 := f.at 4 _ rfl
                  replace f_5 := f.at 5 _ rfl
                  replace a_l := a.lt
                  replace a_0 := a.at 0 _ rfl
                  replace a_1 := a.at 1 _ rfl
                  replace q_l := q.lt
                  replace q_0 := q.at 0 _ rfl
                  replace q_1 := q.at 1 _ rfl
                  go_wp2
                  go_ret
                  exact ⟨ret_bool (by rw [Hs.out, hno.out (by rw [hsp2.out]; simp [h1, h2, h3, h4])]), hk⟩
                | true =>
                  go_wp2_with fail
                  refine (unitMay_any _ _).mono ?_
                  rintro e w1 ⟨rfl, hn⟩
                  replace hk := hk.trans hn
                  replace f := f.kept hn
                  replace a := a.kept hn
                  replace q := q.kept hn
                  clear hn
                  replace f_l := f.lt
                  replace f_0 := f.at 0 _ rfl
                  replace f_1 := f.at 1 _ rfl
                  replace f_2 := f.at 2 _ rfl
                  replace f_3 := f.at 3 _ rfl
                  replace f_4 := f.at 4 _ rfl
                  replace f_5 := f.at 5 _ rfl
                  replace a_l := a.lt
                  replace a_0 := a.at 0 _ rfl
                  replace a_1 := a.at 1 _ rfl
                  replace q_l := q.lt
                  replace q_0 := q.at 0 _ rfl
                  replace q_1 := q.at 1 _ rfl
                  cases h5 : mayB z3 with
                  | false =>
                    go_wp2_with fail
                    refine (unitMay_any _ _).mono ?_
                    rintro e w1 ⟨rfl, hn⟩
                    replace hk := hk.trans hn
                    replace f := f.kept hn
                    replace a := a.kept hn
                    replace q := q.kept hn
                    clear hn
                    replace f_l := f.lt
                    replace f_0 := f.at 0 _ rfl
                    replace f_1 := f.at 1 _ rfl
                    replace f_2 := f.at 2 _ rfl
                    replace f_3 := f.at 3 _ rfl
                    replace f_4 := f.at 4 _ rfl
                    replace f_5 := f.at 5 _ rfl
                    replace a_l := a.lt
                    replace a_0 := a.at 0 _ rfl
                    replace a_1 := a.at 1 _ rfl
                    replace q_l := q.lt
                    replace q_0 := q.at 0 _ rfl
                    replace q_1 := q.at 1 _ rfl
                    go_wp2
                    go_ret
                    exact ⟨ret_bool (by rw [Hs.out, hno.out (by rw [hsp2.out]; simp [h1, h2, h3, h4, h5])]), hk⟩
                  | true =>
                    go_wp2_with fail
                    refine (unitMay_any _ _).mono ?_
                    rintro e w1 ⟨rfl, hn⟩
                    replace hk := hk.trans hn
                    replace f := f.kept hn
                    replace a := a.kept hn
                    replace q := q.kept hn
                    clear hn
                    replace f_l := f.lt
                    replace f_0 := f.at 0 _ rfl
                    replace f_1 := f.at 1 _ rfl
                    replace f_2 := f.at 2 _ rfl
                    replace f_3 := f.at 3 _ rfl
                    replace f_4 := f.at 4 _ rfl
                    replace f_5 := f.at 5 _ rfl
                    replace a_l := a.lt
                    replace a_0 := a.at 0 _ rfl
                    replace a_1 := a.at 1 _ rfl
                    replace q_l := q.lt
                    replace q_0 := q.at 0 _ rfl
                    replace q_1 := q.at 1 _ rfl
                    go_wp2
                    go_roundw
                    case rel => exact ⟨k + 1, by omega, by go_num, hk, hyes.out (by rw [hsp2.out]; simp [h1, h2, h3, h4, h5])⟩
                    case measure => simp [intOf]; omega
      · obtain rfl : k = n := by omega
        go_wp2
        go_ret
        exact ⟨ret_bool (by rw [Hs.out, hal'.out]), hk⟩
  · have hs : mayF n Z = false := by unfold mayF; rw [decide_eq_false h8, Bool.false_and]
    have Hs := Lib.hid hs
    have h8i : (4096 : Int) < (n : Int) := by omega
    go_enter Tryd.func25, Tryd.ntmps25
    go_wp2
    go_ret
    exact ⟨ret_bool (by rw [Hs.out]), Kept.refl _⟩
theorem fragMay_any (v : Value) (n : Nat) (Z : Nat → Nat → Int) (w : World) (h : RV 6 w v n (intC Z)) (hn : n ≤ 4611686018427387904) :
    Calls Tryd.prog 25 #[v] w fun e w' => e = .returned (.bool (mayF n Z)) ∧ Kept w w' := by
  rcases h with ⟨rfl, o, cap, rfl⟩ | ⟨b, off, cap, rfl, h2, h3, hw⟩
  · exact fragMay_none o cap Z w
  · exact fragMay_some b off n cap Z w hw hn
end Go.Proofs.YtpeoadnnemlphaaDoor
