/- Layer 23: the document's FragsMay. -/
import Derived.Test.YtpeoadnnemlphaaDoorFragMay
import Derived.Test.YtpeoadnnemlphaaDoorGeomRefP
namespace Go.Proofs.YtpeoadnnemlphaaDoor
open Go.RowKit Go.Deep
set_option linter.unusedSimpArgs false
set_option linter.unusedVariables false
theorem phys_zero (z2 z3 z4 z5 : Int) : ((physS 0 0 0 0 z2 z3 z4 z5).2 = 0 ∧ (sizedB z4 z5 && mayB z2 && mayB z3) = true) ∨ ((physS 0 0 0 0 z2 z3 z4 z5).2 = 300 ∧ (sizedB z4 z5 && mayB z2 && mayB z3) = false) := by
  have e : physOkB 0 0 0 0 z2 z3 z4 z5 = (sizedB z4 z5 && mayB z2 && mayB z3) := by
    unfold physOkB
    rw [show modeMayB 0 0 = true from rfl, show sizedB 0 0 = true from rfl]
    simp
  unfold physS
  rw [e]
  cases h : (sizedB z4 z5 && mayB z2 && mayB z3)
  · exact .inr ⟨rfl, rfl⟩
  · exact .inl ⟨by rw [if_pos rfl], rfl⟩
theorem fragB_in {z : Nat → Int} (h0 : 0 ≤ z 0 ∧ z 0 ≤ 31) (h1 : -1 ≤ z 1 ∧ z 1 ≤ 80) (h : (sizedB (z 4) (z 5) && mayB (z 2) && mayB (z 3)) = true) : fragB z = true := by
  unfold fragB
  rw [inB_true.2 h0, inB_true.2 h1]
  simpa using h
theorem fragB_out0 {z : Nat → Int} (h0 : z 0 < 0 ∨ 32 ≤ z 0) : fragB z = false := by
  unfold fragB
  rw [inB_false.2 (by omega)]
  rfl
theorem fragB_out1 {z : Nat → Int} (h0 : z 1 < -1 ∨ 81 ≤ z 1) : fragB z = false := by
  unfold fragB
  rw [show inB (-1) 80 (z 1) = false from inB_false.2 (by omega)]
  simp
theorem fragB_out2 {z : Nat → Int} (h : (sizedB (z 4) (z 5) && mayB (z 2) && mayB (z 3)) = false) : fragB z = false := by
  unfold fragB
  rw [Bool.and_assoc, Bool.and_assoc, ← Bool.and_assoc (sizedB _ _), h, Bool.and_false]
theorem refFragsMay_none (o : Option Addr) (cap : Nat) (Z : Nat → Nat → Int) (w : World) :
    Calls Tryd.prog 26 #[.slice o 0 cap] w fun e w' => e = .returned (.bool (mayF 0 Z)) ∧ Kept w w' := by
  go_enter Tryd.func26, Tryd.ntmps26
  go_wp2
  refine wp_loop_rounds 1 ?_
  rw [rounds_succ]
  go_wp2
  go_ret
  exact ⟨rfl, Kept.refl _⟩
set_option maxRecDepth 20000 in
set_option maxHeartbeats 4000000 in
theorem refFragsMay_some (b off n cap : Nat) (Z : Nat → Nat → Int) (w : World) (hw : RowAt w b off 6 n (intC Z)) (hn : n ≤ 4611686018427387904) :
    Calls Tryd.prog 26 #[.slice (some ⟨b, off, none⟩) n cap] w fun e w' => e = .returned (.bool (mayF n Z)) ∧ Kept w w' := by
  go_enter Tryd.func26, Tryd.ntmps26
  go_wp2
  go_loopw [3, 4, 5, 6] (fun i _ _ _ wx => ∃ k : Nat, k ≤ n ∧ i = .int .i64 k ∧ Kept w wx ∧ allF Z k = true) (fun i _ _ _ _ => n - (intOf i).toNat)
  case atStart => exact ⟨0, Nat.zero_le _, rfl, Kept.refl _, rfl⟩
  case round =>
    obtain ⟨k, hk4, rfl, hk, hal⟩ := hrel
    have hal' := Lib.hid hal
    clear hal
    by_cases hlt : k < n
    · have hi0 : (0 : Int) ≤ (k : Int) := Int.natCast_nonneg _
      have hi1 : (k : Int) < (n : Int) := by omega
      have c0 : wr.cell? ⟨b, off + k * 6, none⟩ = some (.int .i64 (Z k 0)) := (hw.kept hk) k 0 hlt (by decide)
      have c1 : wr.cell? ⟨b, off + k * 6 + 1, none⟩ = some (.int .i64 (Z k 1)) := (hw.kept hk) k 1 hlt (by decide)
      have c2 : wr.cell? ⟨b, off + k * 6 + 2, none⟩ = some (.int .i64 (Z k 2)) := (hw.kept hk) k 2 hlt (by decide)
      have c3 : wr.cell? ⟨b, off + k * 6 + 3, none⟩ = some (.int .i64 (Z k 3)) := (hw.kept hk) k 3 hlt (by decide)
      have c4 : wr.cell? ⟨b, off + k * 6 + 4, none⟩ = some (.int .i64 (Z k 4)) := (hw.kept hk) k 4 hlt (by decide)
      have c5 : wr.cell? ⟨b, off + k * 6 + 5, none⟩ = some (.int .i64 (Z k 5)) := (hw.kept hk) k 5 hlt (by decide)
      have hno := Lib.hid (fun (h : fragB (Z k) = false) => (show mayF n Z = false by unfold mayF; rw [allF_no hlt h, Bool.and_false]))
      have hyes := Lib.hid (fun (h : fragB (Z k) = true) => (show allF Z (k + 1) = true by unfold allF; rw [hal'.out, h]; rfl))
      have f0 := Lib.hid (fragB_out0 (z := Z k))
      have f1 := Lib.hid (fragB_out1 (z := Z k))
      have f2 := Lib.hid (fragB_out2 (z := Z k))
      have fin := Lib.hid (fragB_in (z := Z k))
      have hp := phys_zero (Z k 2) (Z k 3) (Z k 4) (Z k 5)
      have HP := Lib.hid (fun wx => refPhys_any 0 0 0 0 (Z k 2) (Z k 3) (Z k 4) (Z k 5) wx)
      generalize physS 0 0 0 0 (Z k 2) (Z k 3) (Z k 4) (Z k 5) = P at *
      generalize (sizedB (Z k 4) (Z k 5) && mayB (Z k 2) && mayB (Z k 3)) = bb at *
      generalize Z k 0 = z0 at *
      generalize Z k 1 = z1 at *
      generalize Z k 2 = z2 at *
      generalize Z k 3 = z3 at *
      generalize Z k 4 = z4 at *
      generalize Z k 5 = z5 at *
      obtain ⟨⟨p0, p1, p2, p3⟩, pe⟩ := P
      dsimp only at hp
      go_wp2_with fail
      go_wp2_with fail
      refine with_boxes1 ?_
      intro X hX f
      have hsz := hk.size
      replace hk := hk.trans hX
      clear hX
      replace f_l := f.lt
      replace f_0 := f.at 0 _ rfl
      replace f_1 := f.at 1 _ rfl
      replace f_2 := f.at 2 _ rfl
      replace f_3 := f.at 3 _ rfl
      replace f_4 := f.at 4 _ rfl
      replace f_5 := f.at 5 _ rfl
      refine (HP.out _).mono ?_
      rintro e w1 ⟨rfl, hn⟩
      replace hk := hk.trans hn
      replace f := f.kept hn
      clear hn
      replace f_l := f.lt
      replace f_0 := f.at 0 _ rfl
      replace f_1 := f.at 1 _ rfl
      replace f_2 := f.at 2 _ rfl
      replace f_3 := f.at 3 _ rfl
      replace f_4 := f.at 4 _ rfl
      replace f_5 := f.at 5 _ rfl
      clear c0 c1 c2 c3 c4 c5 HP
      rcases (by omega : z0 < 0 ∨ 32 ≤ z0 ∨ (0 ≤ z0 ∧ z0 < 32)) with g0 | g0 | ⟨g0, g0'⟩
      · go_wp2
        go_ret
        exact ⟨ret_bool (by rw [hno.out (f0.out (.inl g0))]), (by first | ((repeat (first | with_reducible exact hk | with_reducible refine Kept.alloc ?_ _ | with_reducible refine Kept.drew ?_ | with_reducible refine Kept.drewN ?_ _ | with_reducible refine Kept.set ?_ (by first | (simp; done) | (simp; omega) | omega) _)); done) | exact hk | exact (hk.alloc _) | exact ((hk.alloc _).alloc _) | exact (((hk.alloc _).alloc _).alloc _) | exact ((((hk.alloc _).alloc _).alloc _).alloc _) | exact (((((hk.alloc _).alloc _).alloc _).alloc _).alloc _) | exact ((((((hk.alloc _).alloc _).alloc _).alloc _).alloc _).alloc _) | (repeat (first | exact hk | refine Kept.alloc ?_ _ | refine Kept.drew ?_ | refine Kept.drewN ?_ _ | refine Kept.set ?_ (by first | (simp; done) | (simp; omega) | omega) _)))⟩
      · go_wp2
        go_ret
        exact ⟨ret_bool (by rw [hno.out (f0.out (.inr g0))]), (by first | ((repeat (first | with_reducible exact hk | with_reducible refine Kept.alloc ?_ _ | with_reducible refine Kept.drew ?_ | with_reducible refine Kept.drewN ?_ _ | with_reducible refine Kept.set ?_ (by first | (simp; done) | (simp; omega) | omega) _)); done) | exact hk | exact (hk.alloc _) | exact ((hk.alloc _).alloc _) | exact (((hk.alloc _).alloc _).alloc _) | exact ((((hk.alloc _).alloc _).alloc _).alloc _) | exact (((((hk.alloc _).alloc _).alloc _).alloc _).alloc _) | exact ((((((hk.alloc _).alloc _).alloc _).alloc _).alloc _).alloc _) | (repeat (first | exact hk | refine Kept.alloc ?_ _ | refine Kept.drew ?_ | refine Kept.drewN ?_ _ | refine Kept.set ?_ (by first | (simp; done) | (simp; omega) | omega) _)))⟩
      · rcases (by omega : z1 < -1 ∨ 80 < z1 ∨ (-1 ≤ z1 ∧ z1 ≤ 80)) with g1 | g1 | ⟨g1, g1'⟩
        · go_wp2
          go_ret
          exact ⟨ret_bool (by rw [hno.out (f1.out (.inl g1))]), (by first | ((repeat (first | with_reducible exact hk | with_reducible refine Kept.alloc ?_ _ | with_reducible refine Kept.drew ?_ | with_reducible refine Kept.drewN ?_ _ | with_reducible refine Kept.set ?_ (by first | (simp; done) | (simp; omega) | omega) _)); done) | exact hk | exact (hk.alloc _) | exact ((hk.alloc _).alloc _) | exact (((hk.alloc _).alloc _).alloc _) | exact ((((hk.alloc _).alloc _).alloc _).alloc _) | exact (((((hk.alloc _).alloc _).alloc _).alloc _).alloc _) | exact ((((((hk.alloc _).alloc _).alloc _).alloc _).alloc _).alloc _) | (repeat (first | exact hk | refine Kept.alloc ?_ _ | refine Kept.drew ?_ | refine Kept.drewN ?_ _ | refine Kept.set ?_ (by first | (simp; done) | (simp; omega) | omega) _)))⟩
        · go_wp2
          go_ret
          exact ⟨ret_bool (by rw [hno.out (f1.out (.inr (by omega)))]), (by first | ((repeat (first | with_reducible exact hk | with_reducible refine Kept.alloc ?_ _ | with_reducible refine Kept.drew ?_ | with_reducible refine Kept.drewN ?_ _ | with_reducible refine Kept.set ?_ (by first | (simp; done) | (simp; omega) | omega) _)); done) | exact hk | exact (hk.alloc _) | exact ((hk.alloc _).alloc _) | exact (((hk.alloc _).alloc _).alloc _) | exact ((((hk.alloc _).alloc _).alloc _).alloc _) | exact (((((hk.alloc _).alloc _).alloc _).alloc _).alloc _) | exact ((((((hk.alloc _).alloc _).alloc _).alloc _).alloc _).alloc _) | (repeat (first | exact hk | refine Kept.alloc ?_ _ | refine Kept.drew ?_ | refine Kept.drewN ?_ _ | refine Kept.set ?_ (by first | (simp; done) | (simp; omega) | omega) _)))⟩
        · rcases hp with ⟨rfl, hb⟩ | ⟨rfl, hb⟩
          · have hb2 := Lib.hid hb
            clear hb
            go_wp2
            go_roundw
            case rel => exact ⟨k + 1, by omega, by go_num, (by first | ((repeat (first | with_reducible exact hk | with_reducible refine Kept.alloc ?_ _ | with_reducible refine Kept.drew ?_ | with_reducible refine Kept.drewN ?_ _ | with_reducible refine Kept.set ?_ (by first | (simp; done) | (simp; omega) | omega) _)); done) | exact hk | exact (hk.alloc _) | exact ((hk.alloc _).alloc _) | exact (((hk.alloc _).alloc _).alloc _) | exact ((((hk.alloc _).alloc _).alloc _).alloc _) | exact (((((hk.alloc _).alloc _).alloc _).alloc _).alloc _) | exact ((((((hk.alloc _).alloc _).alloc _).alloc _).alloc _).alloc _) | (repeat (first | exact hk | refine Kept.alloc ?_ _ | refine Kept.drew ?_ | refine Kept.drewN ?_ _ | refine Kept.set ?_ (by first | (simp; done) | (simp; omega) | omega) _))), hyes.out (fin.out ⟨g0, by omega⟩ ⟨g1, g1'⟩ hb2.out)⟩
            case measure => simp [intOf]; omega
          · have hb2 := Lib.hid hb
            clear hb
            go_wp2
            go_ret
            exact ⟨ret_bool (by rw [hno.out (f2.out hb2.out)]), (by first | ((repeat (first | with_reducible exact hk | with_reducible refine Kept.alloc ?_ _ | with_reducible refine Kept.drew ?_ | with_reducible refine Kept.drewN ?_ _ | with_reducible refine Kept.set ?_ (by first | (simp; done) | (simp; omega) | omega) _)); done) | exact hk | exact (hk.alloc _) | exact ((hk.alloc _).alloc _) | exact (((hk.alloc _).alloc _).alloc _) | exact ((((hk.alloc _).alloc _).alloc _).alloc _) | exact (((((hk.alloc _).alloc _).alloc _).alloc _).alloc _) | exact ((((((hk.alloc _).alloc _).alloc _).alloc _).alloc _).alloc _) | (repeat (first | exact hk | refine Kept.alloc ?_ _ | refine Kept.drew ?_ | refine Kept.drewN ?_ _ | refine Kept.set ?_ (by first | (simp; done) | (simp; omega) | omega) _)))⟩
    · obtain rfl : k = n := by omega
      go_wp2
      go_ret
      exact ⟨ret_bool (by unfold mayF; rw [hal'.out, Bool.and_true]; simp; omega), hk⟩
theorem refFragsMay_any (v : Value) (n : Nat) (Z : Nat → Nat → Int) (w : World) (h : RV 6 w v n (intC Z)) (hn : n ≤ 4611686018427387904) :
    Calls Tryd.prog 26 #[v] w fun e w' => e = .returned (.bool (mayF n Z)) ∧ Kept w w' := by
  rcases h with ⟨rfl, o, cap, rfl⟩ | ⟨b, off, cap, rfl, h2, h3, hw⟩
  · exact refFragsMay_none o cap Z w
  · exact refFragsMay_some b off n cap Z w hw hn
end Go.Proofs.YtpeoadnnemlphaaDoor
