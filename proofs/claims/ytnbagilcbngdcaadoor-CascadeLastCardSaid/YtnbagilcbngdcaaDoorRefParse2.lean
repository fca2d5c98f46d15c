/- Layer 8: the document's ParseLength. -/
import Derived.Test.YtnbagilcbngdcaaDoorRefParse
import Derived.Test.YtnbagilcbngdcaaDoorRefShow
namespace Go.Proofs.YtnbagilcbngdcaaDoor
open Go.RowKit
set_option linter.unusedSimpArgs false
set_option linter.unusedVariables false
set_option maxHeartbeats 2000000
theorem six_lt {t : ByteArray} {k : Nat} (h : k < six t) : k < t.size ∧ k < 6 := by unfold six at h; split at h <;> omega
theorem six_end {t : ByteArray} : six t ≤ 6 ∧ six t ≤ t.size ∧ (six t < 6 → six t = t.size) := by unfold six; split <;> omega
theorem refShow_is (k v : Int) (T : ByteArray) (E : Int) (w : World) (h : showS k v = (T, E)) :
    Calls Tryd.prog 76 #[lenV k v] w fun e w' => e = .returned (.tuple #[.string T, .int .i64 E]) ∧ Kept w w' := by
  have := refShow_any k v w
  rwa [h] at this
theorem show3 (s : ByteArray) (k v : Int) : (showS k v = (⟨#[]⟩, 800) ∧ checkS s (k, v) = ((0, 0), 800)) ∨ (showS k v = (lenT k v, 0) ∧ ((lenT k v).toList == s.toList) = true ∧ checkS s (k, v) = ((k, v), 0)) ∨ (showS k v = (lenT k v, 0) ∧ ((lenT k v).toList == s.toList) = false ∧ checkS s (k, v) = ((0, 0), 800)) := by
  cases hb : lenB k v with
  | false => exact .inl ⟨if_neg (by rw [hb]; decide), if_neg (fun h => by rw [hb] at h; cases h.1)⟩
  | true =>
    cases ht : ((lenT k v).toList == s.toList) with
    | true => exact .inr (.inl ⟨if_pos hb, rfl, if_pos ⟨hb, ht⟩⟩)
    | false => exact .inr (.inr ⟨if_pos hb, rfl, if_neg (fun h => by rw [ht] at h; cases h.2)⟩)
theorem refParse_e (s : ByteArray) (w : World) (hb : s.size ≤ 140737488355328) (hs : (s.toList == [97, 117, 116, 111]) = false) (hs0 : s.toList = []) (hsz : s.size = 0) :
    Calls Tryd.prog 64 #[.string s] w fun e w' => e = .returned (parsedV (checkS s (1, digV s (six s)))) ∧ Kept w w' := by
  have HSZ := Lib.hid (show s.size = 0 from hsz)
  have hk : Kept w w := Kept.refl w
  go_enter Tryd.func64, Tryd.ntmps64
  go_wp2_with fail
  refine code_boxes2 ?_
  intro X hX o x
  have hsz := hk.size
  replace hk := hk.trans hX
  clear hX
  go_loopw [7] (fun i wx => ∃ k : Nat, k ≤ six s ∧ i = .int .i64 k ∧ Kept w wx ∧ Own wx w.heap.size 23 #[.int .i64 0, .int .i64 0] ∧ Own wx (w.heap.size + 1) 23 #[.int .i64 1, .int .i64 (digV s k)]) (fun i _ => six s - (intOf i).toNat)
  case atStart => exact ⟨0, Nat.zero_le _, rfl, hk, o, x⟩
  case round =>
    clear hk o x
    obtain ⟨k, hk6, rfl, hk, o, x⟩ := hrel
    have hsz2 := hk.size
    have o_l := o.lt
    have x_l := x.lt
    by_cases hlt : k < six s
    · have := (six_lt hlt).1
      omega
    · obtain rfl : k = six s := by omega
      have hsix := six_end (t := s)
      have b1 := digV_bd s (six s) hsix.1
      rw [HSZ.out] at hsix
      have hex : (((six s : Nat) : Int) < ((0 : Nat) : Int) ∧ ¬ ((six s : Nat) : Int) < 6) ∨ ¬ ((six s : Nat) : Int) < ((0 : Nat) : Int) := by omega
      clear hsix hlt hk6
      obtain ⟨D, hD⟩ : ∃ z, digV s (six s) = z := ⟨_, rfl⟩
      rw [hD] at b1 x
      have HV := Lib.hid (show digV s (six s) = D from by rw [hD])
      clear hD
      generalize six s = z at hex x
      have wn : IntKind.i64.wrap (-D) = -D := by rw [IntKind.wrap_i64]; omega
      clear b1
      obtain ⟨V, hV⟩ : ∃ V, D = V := ⟨_, rfl⟩
      have hsh := show3 s 1 V
      rw [← hV] at hsh
      rcases hsh with ⟨h1, h2⟩ | ⟨h1, h2, h3⟩ | ⟨h1, h2, h3⟩
      · skip
        have Hs := Lib.hid ((show checkS s (1, digV s (six s)) = checkS s (1, D) from by rw [HV.out]).trans h2)
        have HS := Lib.hid (fun wx => refShow_is 1 D _ _ wx h1)
        clear h1 h2
        clear hV
        have hi1 : ¬ ((z : Nat) : Int) < ((0 : Nat) : Int) := by omega
        clear hex
        replace x_l := x.lt
        replace x_0 := x.at 0 _ rfl
        replace x_f0 := x.free 0
        replace x_1 := x.at 1 _ rfl
        replace x_f1 := x.free 1
        go_wp2_with fail
        refine (HS.out _).mono ?_
        rintro e w1 ⟨rfl, hn⟩
        replace hk := hk.trans hn
        replace o := o.kept hn
        replace x := x.kept hn
        clear hn
        replace o_l := o.lt
        replace o_0 := o.at 0 _ rfl
        replace o_f0 := o.free 0
        replace o_1 := o.at 1 _ rfl
        replace o_f1 := o.free 1
        replace x_l := x.lt
        replace x_0 := x.at 0 _ rfl
        replace x_f0 := x.free 0
        replace x_1 := x.at 1 _ rfl
        replace x_f1 := x.free 1
        go_wp2
        exact bodyPost_ret (v := .tuple #[lenV 0 0, .int .i64 800]) (by simp [results, Tryd.results64, go_sem, o_0, o_1, x_0, x_1, o_l, x_l]) rfl ⟨by first | (rw [Hs.out]; done) | rfl, (by first | ((repeat (first | with_reducible exact hk | with_reducible refine Kept.alloc ?_ _ | with_reducible refine Kept.drew ?_ | with_reducible refine Kept.drewN ?_ _ | with_reducible refine Kept.set ?_ (by first | (simp; done) | (simp; omega) | omega) _)); done) | exact hk | exact (hk.alloc _) | exact ((hk.alloc _).alloc _) | exact (((hk.alloc _).alloc _).alloc _) | exact ((((hk.alloc _).alloc _).alloc _).alloc _) | exact (((((hk.alloc _).alloc _).alloc _).alloc _).alloc _) | exact ((((((hk.alloc _).alloc _).alloc _).alloc _).alloc _).alloc _) | (repeat (first | exact hk | refine Kept.alloc ?_ _ | refine Kept.drew ?_ | refine Kept.drewN ?_ _ | refine Kept.set ?_ (by first | (simp; done) | (simp; omega) | omega) _)))⟩
      · skip
        generalize lenT 1 D = T at *
        have Hs := Lib.hid ((show checkS s (1, digV s (six s)) = checkS s (1, D) from by rw [HV.out]).trans h3)
        have HS := Lib.hid (fun wx => refShow_is 1 D _ _ wx h1)
        have h4 := h2
        rw [hs0] at h4
        have h5 : T.toList.isEmpty = (T.toList == []) := by cases T.toList <;> rfl
        rw [h4] at h5
        clear h1 h3
        clear hV
        have hi1 : ¬ ((z : Nat) : Int) < ((0 : Nat) : Int) := by omega
        clear hex
        replace x_l := x.lt
        replace x_0 := x.at 0 _ rfl
        replace x_f0 := x.free 0
        replace x_1 := x.at 1 _ rfl
        replace x_f1 := x.free 1
        go_wp2_with fail
        refine (HS.out _).mono ?_
        rintro e w1 ⟨rfl, hn⟩
        replace hk := hk.trans hn
        replace o := o.kept hn
        replace x := x.kept hn
        clear hn
        replace o_l := o.lt
        replace o_0 := o.at 0 _ rfl
        replace o_f0 := o.free 0
        replace o_1 := o.at 1 _ rfl
        replace o_f1 := o.free 1
        replace x_l := x.lt
        replace x_0 := x.at 0 _ rfl
        replace x_f0 := x.free 0
        replace x_1 := x.at 1 _ rfl
        replace x_f1 := x.free 1
        go_wp2
        exact bodyPost_ret (v := .tuple #[lenV 1 D, .int .i64 0]) (by simp [results, Tryd.results64, go_sem, o_0, o_1, x_0, x_1, o_l, x_l]) rfl ⟨by first | (rw [Hs.out]; done) | rfl, (by first | ((repeat (first | with_reducible exact hk | with_reducible refine Kept.alloc ?_ _ | with_reducible refine Kept.drew ?_ | with_reducible refine Kept.drewN ?_ _ | with_reducible refine Kept.set ?_ (by first | (simp; done) | (simp; omega) | omega) _)); done) | exact hk | exact (hk.alloc _) | exact ((hk.alloc _).alloc _) | exact (((hk.alloc _).alloc _).alloc _) | exact ((((hk.alloc _).alloc _).alloc _).alloc _) | exact (((((hk.alloc _).alloc _).alloc _).alloc _).alloc _) | exact ((((((hk.alloc _).alloc _).alloc _).alloc _).alloc _).alloc _) | (repeat (first | exact hk | refine Kept.alloc ?_ _ | refine Kept.drew ?_ | refine Kept.drewN ?_ _ | refine Kept.set ?_ (by first | (simp; done) | (simp; omega) | omega) _)))⟩
      · skip
        generalize lenT 1 D = T at *
        have Hs := Lib.hid ((show checkS s (1, digV s (six s)) = checkS s (1, D) from by rw [HV.out]).trans h3)
        have HS := Lib.hid (fun wx => refShow_is 1 D _ _ wx h1)
        have h4 := h2
        rw [hs0] at h4
        have h5 : T.toList.isEmpty = (T.toList == []) := by cases T.toList <;> rfl
        rw [h4] at h5
        clear h1 h3
        clear hV
        have hi1 : ¬ ((z : Nat) : Int) < ((0 : Nat) : Int) := by omega
        clear hex
        replace x_l := x.lt
        replace x_0 := x.at 0 _ rfl
        replace x_f0 := x.free 0
        replace x_1 := x.at 1 _ rfl
        replace x_f1 := x.free 1
        go_wp2_with fail
        refine (HS.out _).mono ?_
        rintro e w1 ⟨rfl, hn⟩
        replace hk := hk.trans hn
        replace o := o.kept hn
        replace x := x.kept hn
        clear hn
        replace o_l := o.lt
        replace o_0 := o.at 0 _ rfl
        replace o_f0 := o.free 0
        replace o_1 := o.at 1 _ rfl
        replace o_f1 := o.free 1
        replace x_l := x.lt
        replace x_0 := x.at 0 _ rfl
        replace x_f0 := x.free 0
        replace x_1 := x.at 1 _ rfl
        replace x_f1 := x.free 1
        go_wp2
        exact bodyPost_ret (v := .tuple #[lenV 0 0, .int .i64 800]) (by simp [results, Tryd.results64, go_sem, o_0, o_1, x_0, x_1, o_l, x_l]) rfl ⟨by first | (rw [Hs.out]; done) | rfl, (by first | ((repeat (first | with_reducible exact hk | with_reducible refine Kept.alloc ?_ _ | with_reducible refine Kept.drew ?_ | with_reducible refine Kept.drewN ?_ _ | with_reducible refine Kept.set ?_ (by first | (simp; done) | (simp; omega) | omega) _)); done) | exact hk | exact (hk.alloc _) | exact ((hk.alloc _).alloc _) | exact (((hk.alloc _).alloc _).alloc _) | exact ((((hk.alloc _).alloc _).alloc _).alloc _) | exact (((((hk.alloc _).alloc _).alloc _).alloc _).alloc _) | exact ((((((hk.alloc _).alloc _).alloc _).alloc _).alloc _).alloc _) | (repeat (first | exact hk | refine Kept.alloc ?_ _ | refine Kept.drew ?_ | refine Kept.drewN ?_ _ | refine Kept.set ?_ (by first | (simp; done) | (simp; omega) | omega) _)))⟩
theorem refParse_s0 (s : ByteArray) (w : World) (hb : s.size ≤ 140737488355328) (hs : (s.toList == [97, 117, 116, 111]) = false) (n : Nat) (hsz : s.size = n + 1) (hne : (s.toList == []) = false) (hx : ∀ wx, Sem.run Tryd.prog (Instr.index 9 (.string s) (.int .i64 (n : Int))) wx = .ok (.int .u8 (at8 s n)) wx) (hp : ((at8 s n : Int) == 37) = false) (hy : ∀ wx, Sem.run Tryd.prog (Instr.index 9 (.string s) (.int .i64 0)) wx = .ok (.int .u8 (at8 s 0)) wx) (hc : ((at8 s 0 : Int) == 45) = false) :
    Calls Tryd.prog 64 #[.string s] w fun e w' => e = .returned (parsedV (checkS s (1, digV s (six s)))) ∧ Kept w w' := by
  have HSZ := Lib.hid (show s.size = n + 1 from hsz)
  have hk : Kept w w := Kept.refl w
  go_enter Tryd.func64, Tryd.ntmps64
  go_wp2_with fail
  refine code_boxes2 ?_
  intro X hX o x
  have hsz := hk.size
  replace hk := hk.trans hX
  clear hX
  go_loopw [7] (fun i wx => ∃ k : Nat, k ≤ six s ∧ i = .int .i64 k ∧ Kept w wx ∧ Own wx w.heap.size 23 #[.int .i64 0, .int .i64 0] ∧ Own wx (w.heap.size + 1) 23 #[.int .i64 1, .int .i64 (digV s k)]) (fun i _ => six s - (intOf i).toNat)
  case atStart => exact ⟨0, Nat.zero_le _, rfl, hk, o, x⟩
  case round =>
    clear hk o x
    obtain ⟨k, hk6, rfl, hk, o, x⟩ := hrel
    have hsz2 := hk.size
    have o_l := o.lt
    have x_l := x.lt
    by_cases hlt : k < six s
    · obtain ⟨h1, h2⟩ := six_lt hlt
      have b1 := digV_bd s k (by omega)
      have b2 := at8_bd s k
      rw [HSZ.out] at h1
      have hi1 : (k : Int) < ((n + 1 : Nat) : Int) := by omega
      have hi2 : (k : Int) < 6 := by omega
      have hz := fun wx => at8_run (s := s) (i := k) (by rw [HSZ.out]; exact h1) wx
      have HS := Lib.hid (show digV s (k + 1) = 10 * digV s k + at8 s k - 48 from rfl)
      obtain ⟨D2, hD2⟩ : ∃ z, digV s (k + 1) = z := ⟨_, rfl⟩
      rw [hD2] at HS
      replace hD2 := Lib.hid hD2
      generalize digV s k = D at *
      generalize at8 s k = c at *
      have w1 : IntKind.i64.wrap (10 * D) = 10 * D := by rw [IntKind.wrap_i64]; omega
      have w2 : IntKind.i64.wrap (10 * D + c) = 10 * D + c := by rw [IntKind.wrap_i64]; omega
      have w3 : IntKind.i64.wrap (10 * D + c - 48) = 10 * D + c - 48 := by rw [IntKind.wrap_i64]; omega
      have w4 : IntKind.i64.wrap c = c := by rw [IntKind.wrap_i64]; omega
      replace x_l := x.lt
      replace x_0 := x.at 0 _ rfl
      replace x_f0 := x.free 0
      replace x_1 := x.at 1 _ rfl
      replace x_f1 := x.free 1
      go_wp2_with fail
      go_region
      go_wp2
      exact ⟨⟨k + 1, by omega, by first | rfl | go_num, (hk.set (by first | omega | (simp; done) | (simp; omega)) _).drew, (o.other (by simp) _).drew, ((x.set 1 _).is (by rw [hD2.out, HS.out]; rfl)).drew⟩, by first | (simp [intOf]; done) | (simp [intOf]; omega)⟩
    · obtain rfl : k = six s := by omega
      have hsix := six_end (t := s)
      have b1 := digV_bd s (six s) hsix.1
      rw [HSZ.out] at hsix
      have hex : (((six s : Nat) : Int) < ((n + 1 : Nat) : Int) ∧ ¬ ((six s : Nat) : Int) < 6) ∨ ¬ ((six s : Nat) : Int) < ((n + 1 : Nat) : Int) := by omega
      clear hsix hlt hk6
      obtain ⟨D, hD⟩ : ∃ z, digV s (six s) = z := ⟨_, rfl⟩
      rw [hD] at b1 x
      have HV := Lib.hid (show digV s (six s) = D from by rw [hD])
      clear hD
      generalize six s = z at hex x
      have wn : IntKind.i64.wrap (-D) = -D := by rw [IntKind.wrap_i64]; omega
      clear b1
      obtain ⟨V, hV⟩ : ∃ V, D = V := ⟨_, rfl⟩
      have hsh := show3 s 1 V
      rw [← hV] at hsh
      rcases hsh with ⟨h1, h2⟩ | ⟨h1, h2, h3⟩ | ⟨h1, h2, h3⟩
      · skip
        have Hs := Lib.hid ((show checkS s (1, digV s (six s)) = checkS s (1, D) from by rw [HV.out]).trans h2)
        have HS := Lib.hid (fun wx => refShow_is 1 D _ _ wx h1)
        clear h1 h2
        clear hV
        rcases hex with ⟨hi1, hi2⟩ | hi1
        · skip
          replace x_l := x.lt
          replace x_0 := x.at 0 _ rfl
          replace x_f0 := x.free 0
          replace x_1 := x.at 1 _ rfl
          replace x_f1 := x.free 1
          go_wp2_with fail
          refine (HS.out _).mono ?_
          rintro e w1 ⟨rfl, hn⟩
          replace hk := hk.trans hn
          replace o := o.kept hn
          replace x := x.kept hn
          clear hn
          replace o_l := o.lt
          replace o_0 := o.at 0 _ rfl
          replace o_f0 := o.free 0
          replace o_1 := o.at 1 _ rfl
          replace o_f1 := o.free 1
          replace x_l := x.lt
          replace x_0 := x.at 0 _ rfl
          replace x_f0 := x.free 0
          replace x_1 := x.at 1 _ rfl
          replace x_f1 := x.free 1
          go_wp2
          exact bodyPost_ret (v := .tuple #[lenV 0 0, .int .i64 800]) (by simp [results, Tryd.results64, go_sem, o_0, o_1, x_0, x_1, o_l, x_l]) rfl ⟨by first | (rw [Hs.out]; done) | rfl, (by first | ((repeat (first | with_reducible exact hk | with_reducible refine Kept.alloc ?_ _ | with_reducible refine Kept.drew ?_ | with_reducible refine Kept.drewN ?_ _ | with_reducible refine Kept.set ?_ (by first | (simp; done) | (simp; omega) | omega) _)); done) | exact hk | exact (hk.alloc _) | exact ((hk.alloc _).alloc _) | exact (((hk.alloc _).alloc _).alloc _) | exact ((((hk.alloc _).alloc _).alloc _).alloc _) | exact (((((hk.alloc _).alloc _).alloc _).alloc _).alloc _) | exact ((((((hk.alloc _).alloc _).alloc _).alloc _).alloc _).alloc _) | (repeat (first | exact hk | refine Kept.alloc ?_ _ | refine Kept.drew ?_ | refine Kept.drewN ?_ _ | refine Kept.set ?_ (by first | (simp; done) | (simp; omega) | omega) _)))⟩
        · skip
          replace x_l := x.lt
          replace x_0 := x.at 0 _ rfl
          replace x_f0 := x.free 0
          replace x_1 := x.at 1 _ rfl
          replace x_f1 := x.free 1
          go_wp2_with fail
          refine (HS.out _).mono ?_
          rintro e w1 ⟨rfl, hn⟩
          replace hk := hk.trans hn
          replace o := o.kept hn
          replace x := x.kept hn
          clear hn
          replace o_l := o.lt
          replace o_0 := o.at 0 _ rfl
          replace o_f0 := o.free 0
          replace o_1 := o.at 1 _ rfl
          replace o_f1 := o.free 1
          replace x_l := x.lt
          replace x_0 := x.at 0 _ rfl
          replace x_f0 := x.free 0
          replace x_1 := x.at 1 _ rfl
          replace x_f1 := x.free 1
          go_wp2
          exact bodyPost_ret (v := .tuple #[lenV 0 0, .int .i64 800]) (by simp [results, Tryd.results64, go_sem, o_0, o_1, x_0, x_1, o_l, x_l]) rfl ⟨by first | (rw [Hs.out]; done) | rfl, (by first | ((repeat (first | with_reducible exact hk | with_reducible refine Kept.alloc ?_ _ | with_reducible refine Kept.drew ?_ | with_reducible refine Kept.drewN ?_ _ | with_reducible refine Kept.set ?_ (by first | (simp; done) | (simp; omega) | omega) _)); done) | exact hk | exact (hk.alloc _) | exact ((hk.alloc _).alloc _) | exact (((hk.alloc _).alloc _).alloc _) | exact ((((hk.alloc _).alloc _).alloc _).alloc _) | exact (((((hk.alloc _).alloc _).alloc _).alloc _).alloc _) | exact ((((((hk.alloc _).alloc _).alloc _).alloc _).alloc _).alloc _) | (repeat (first | exact hk | refine Kept.alloc ?_ _ | refine Kept.drew ?_ | refine Kept.drewN ?_ _ | refine Kept.set ?_ (by first | (simp; done) | (simp; omega) | omega) _)))⟩
      · skip
        generalize lenT 1 D = T at *
        have Hs := Lib.hid ((show checkS s (1, digV s (six s)) = checkS s (1, D) from by rw [HV.out]).trans h3)
        have HS := Lib.hid (fun wx => refShow_is 1 D _ _ wx h1)
        clear h1 h3
        clear hV
        rcases hex with ⟨hi1, hi2⟩ | hi1
        · skip
          replace x_l := x.lt
          replace x_0 := x.at 0 _ rfl
          replace x_f0 := x.free 0
          replace x_1 := x.at 1 _ rfl
          replace x_f1 := x.free 1
          go_wp2_with fail
          refine (HS.out _).mono ?_
          rintro e w1 ⟨rfl, hn⟩
          replace hk := hk.trans hn
          replace o := o.kept hn
          replace x := x.kept hn
          clear hn
          replace o_l := o.lt
          replace o_0 := o.at 0 _ rfl
          replace o_f0 := o.free 0
          replace o_1 := o.at 1 _ rfl
          replace o_f1 := o.free 1
          replace x_l := x.lt
          replace x_0 := x.at 0 _ rfl
          replace x_f0 := x.free 0
          replace x_1 := x.at 1 _ rfl
          replace x_f1 := x.free 1
          go_wp2
          exact bodyPost_ret (v := .tuple #[lenV 1 D, .int .i64 0]) (by simp [results, Tryd.results64, go_sem, o_0, o_1, x_0, x_1, o_l, x_l]) rfl ⟨by first | (rw [Hs.out]; done) | rfl, (by first | ((repeat (first | with_reducible exact hk | with_reducible refine Kept.alloc ?_ _ | with_reducible refine Kept.drew ?_ | with_reducible refine Kept.drewN ?_ _ | with_reducible refine Kept.set ?_ (by first | (simp; done) | (simp; omega) | omega) _)); done) | exact hk | exact (hk.alloc _) | exact ((hk.alloc _).alloc _) | exact (((hk.alloc _).alloc _).alloc _) | exact ((((hk.alloc _).alloc _).alloc _).alloc _) | exact (((((hk.alloc _).alloc _).alloc _).alloc _).alloc _) | exact ((((((hk.alloc _).alloc _).alloc _).alloc _).alloc _).alloc _) | (repeat (first | exact hk | refine Kept.alloc ?_ _ | refine Kept.drew ?_ | refine Kept.drewN ?_ _ | refine Kept.set ?_ (by first | (simp; done) | (simp; omega) | omega) _)))⟩
        · skip
          replace x_l := x.lt
          replace x_0 := x.at 0 _ rfl
          replace x_f0 := x.free 0
          replace x_1 := x.at 1 _ rfl
          replace x_f1 := x.free 1
          go_wp2_with fail
          refine (HS.out _).mono ?_
          rintro e w1 ⟨rfl, hn⟩
          replace hk := hk.trans hn
          replace o := o.kept hn
          replace x := x.kept hn
          clear hn
          replace o_l := o.lt
          replace o_0 := o.at 0 _ rfl
          replace o_f0 := o.free 0
          replace o_1 := o.at 1 _ rfl
          replace o_f1 := o.free 1
          replace x_l := x.lt
          replace x_0 := x.at 0 _ rfl
          replace x_f0 := x.free 0
          replace x_1 := x.at 1 _ rfl
          replace x_f1 := x.free 1
          go_wp2
          exact bodyPost_ret (v := .tuple #[lenV 1 D, .int .i64 0]) (by simp [results, Tryd.results64, go_sem, o_0, o_1, x_0, x_1, o_l, x_l]) rfl ⟨by first | (rw [Hs.out]; done) | rfl, (by first | ((repeat (first | with_reducible exact hk | with_reducible refine Kept.alloc ?_ _ | with_reducible refine Kept.drew ?_ | with_reducible refine Kept.drewN ?_ _ | with_reducible refine Kept.set ?_ (by first | (simp; done) | (simp; omega) | omega) _)); done) | exact hk | exact (hk.alloc _) | exact ((hk.alloc _).alloc _) | exact (((hk.alloc _).alloc _).alloc _) | exact ((((hk.alloc _).alloc _).alloc _).alloc _) | exact (((((hk.alloc _).alloc _).alloc _).alloc _).alloc _) | exact ((((((hk.alloc _).alloc _).alloc _).alloc _).alloc _).alloc _) | (repeat (first | exact hk | refine Kept.alloc ?_ _ | refine Kept.drew ?_ | refine Kept.drewN ?_ _ | refine Kept.set ?_ (by first | (simp; done) | (simp; omega) | omega) _)))⟩
      · skip
        generalize lenT 1 D = T at *
        have Hs := Lib.hid ((show checkS s (1, digV s (six s)) = checkS s (1, D) from by rw [HV.out]).trans h3)
        have HS := Lib.hid (fun wx => refShow_is 1 D _ _ wx h1)
        clear h1 h3
        clear hV
        rcases hex with ⟨hi1, hi2⟩ | hi1
        · skip
          replace x_l := x.lt
          replace x_0 := x.at 0 _ rfl
          replace x_f0 := x.free 0
          replace x_1 := x.at 1 _ rfl
          replace x_f1 := x.free 1
          go_wp2_with fail
          refine (HS.out _).mono ?_
          rintro e w1 ⟨rfl, hn⟩
          replace hk := hk.trans hn
          replace o := o.kept hn
          replace x := x.kept hn
          clear hn
          replace o_l := o.lt
          replace o_0 := o.at 0 _ rfl
          replace o_f0 := o.free 0
          replace o_1 := o.at 1 _ rfl
          replace o_f1 := o.free 1
          replace x_l := x.lt
          replace x_0 := x.at 0 _ rfl
          replace x_f0 := x.free 0
          replace x_1 := x.at 1 _ rfl
          replace x_f1 := x.free 1
          go_wp2
          exact bodyPost_ret (v := .tuple #[lenV 0 0, .int .i64 800]) (by simp [results, Tryd.results64, go_sem, o_0, o_1, x_0, x_1, o_l, x_l]) rfl ⟨by first | (rw [Hs.out]; done) | rfl, (by first | ((repeat (first | with_reducible exact hk | with_reducible refine Kept.alloc ?_ _ | with_reducible refine Kept.drew ?_ | with_reducible refine Kept.drewN ?_ _ | with_reducible refine Kept.set ?_ (by first | (simp; done) | (simp; omega) | omega) _)); done) | exact hk | exact (hk.alloc _) | exact ((hk.alloc _).alloc _) | exact (((hk.alloc _).alloc _).alloc _) | exact ((((hk.alloc _).alloc _).alloc _).alloc _) | exact (((((hk.alloc _).alloc _).alloc _).alloc _).alloc _) | exact ((((((hk.alloc _).alloc _).alloc _).alloc _).alloc _).alloc _) | (repeat (first | exact hk | refine Kept.alloc ?_ _ | refine Kept.drew ?_ | refine Kept.drewN ?_ _ | refine Kept.set ?_ (by first | (simp; done) | (simp; omega) | omega) _)))⟩
        · skip
          replace x_l := x.lt
          replace x_0 := x.at 0 _ rfl
          replace x_f0 := x.free 0
          replace x_1 := x.at 1 _ rfl
          replace x_f1 := x.free 1
          go_wp2_with fail
          refine (HS.out _).mono ?_
          rintro e w1 ⟨rfl, hn⟩
          replace hk := hk.trans hn
          replace o := o.kept hn
          replace x := x.kept hn
          clear hn
          replace o_l := o.lt
          replace o_0 := o.at 0 _ rfl
          replace o_f0 := o.free 0
          replace o_1 := o.at 1 _ rfl
          replace o_f1 := o.free 1
          replace x_l := x.lt
          replace x_0 := x.at 0 _ rfl
          replace x_f0 := x.free 0
          replace x_1 := x.at 1 _ rfl
          replace x_f1 := x.free 1
          go_wp2
          exact bodyPost_ret (v := .tuple #[lenV 0 0, .int .i64 800]) (by simp [results, Tryd.results64, go_sem, o_0, o_1, x_0, x_1, o_l, x_l]) rfl ⟨by first | (rw [Hs.out]; done) | rfl, (by first | ((repeat (first | with_reducible exact hk | with_reducible refine Kept.alloc ?_ _ | with_reducible refine Kept.drew ?_ | with_reducible refine Kept.drewN ?_ _ | with_reducible refine Kept.set ?_ (by first | (simp; done) | (simp; omega) | omega) _)); done) | exact hk | exact (hk.alloc _) | exact ((hk.alloc _).alloc _) | exact (((hk.alloc _).alloc _).alloc _) | exact ((((hk.alloc _).alloc _).alloc _).alloc _) | exact (((((hk.alloc _).alloc _).alloc _).alloc _).alloc _) | exact ((((((hk.alloc _).alloc _).alloc _).alloc _).alloc _).alloc _) | (repeat (first | exact hk | refine Kept.alloc ?_ _ | refine Kept.drew ?_ | refine Kept.drewN ?_ _ | refine Kept.set ?_ (by first | (simp; done) | (simp; omega) | omega) _)))⟩
theorem refParse_s1 (s : ByteArray) (w : World) (hb : s.size ≤ 140737488355328) (hs : (s.toList == [97, 117, 116, 111]) = false) (n : Nat) (hsz : s.size = n + 1) (hne : (s.toList == []) = false) (hx : ∀ wx, Sem.run Tryd.prog (Instr.index 9 (.string s) (.int .i64 (n : Int))) wx = .ok (.int .u8 (at8 s n)) wx) (hp : ((at8 s n : Int) == 37) = false) (hy : ∀ wx, Sem.run Tryd.prog (Instr.index 9 (.string s) (.int .i64 0)) wx = .ok (.int .u8 (at8 s 0)) wx) (hc : ((at8 s 0 : Int) == 45) = true) (u : ByteArray) (hu : s.extract 1 (n + 1) = u) (huz : u.size = n) :
    Calls Tryd.prog 64 #[.string s] w fun e w' => e = .returned (parsedV (checkS s (1, -digV u (six u)))) ∧ Kept w w' := by
  have HSZ := Lib.hid (show u.size = n from huz)
  have hk : Kept w w := Kept.refl w
  go_enter Tryd.func64, Tryd.ntmps64
  go_wp2_with fail
  refine code_boxes2 ?_
  intro X hX o x
  have hsz := hk.size
  replace hk := hk.trans hX
  clear hX
  go_loopw [7] (fun i wx => ∃ k : Nat, k ≤ six u ∧ i = .int .i64 k ∧ Kept w wx ∧ Own wx w.heap.size 23 #[.int .i64 0, .int .i64 0] ∧ Own wx (w.heap.size + 1) 23 #[.int .i64 1, .int .i64 (digV u k)]) (fun i _ => six u - (intOf i).toNat)
  case atStart => exact ⟨0, Nat.zero_le _, rfl, hk, o, x⟩
  case round =>
    clear hk o x
    obtain ⟨k, hk6, rfl, hk, o, x⟩ := hrel
    have hsz2 := hk.size
    have o_l := o.lt
    have x_l := x.lt
    by_cases hlt : k < six u
    · obtain ⟨h1, h2⟩ := six_lt hlt
      have b1 := digV_bd u k (by omega)
      have b2 := at8_bd u k
      rw [HSZ.out] at h1
      have hi1 : (k : Int) < ((n : Nat) : Int) := by omega
      have hi2 : (k : Int) < 6 := by omega
      have hz := fun wx => at8_run (s := u) (i := k) (by rw [HSZ.out]; exact h1) wx
      have HS := Lib.hid (show digV u (k + 1) = 10 * digV u k + at8 u k - 48 from rfl)
      obtain ⟨D2, hD2⟩ : ∃ z, digV u (k + 1) = z := ⟨_, rfl⟩
      rw [hD2] at HS
      replace hD2 := Lib.hid hD2
      generalize digV u k = D at *
      generalize at8 u k = c at *
      have w1 : IntKind.i64.wrap (10 * D) = 10 * D := by rw [IntKind.wrap_i64]; omega
      have w2 : IntKind.i64.wrap (10 * D + c) = 10 * D + c := by rw [IntKind.wrap_i64]; omega
      have w3 : IntKind.i64.wrap (10 * D + c - 48) = 10 * D + c - 48 := by rw [IntKind.wrap_i64]; omega
      have w4 : IntKind.i64.wrap c = c := by rw [IntKind.wrap_i64]; omega
      replace x_l := x.lt
      replace x_0 := x.at 0 _ rfl
      replace x_f0 := x.free 0
      replace x_1 := x.at 1 _ rfl
      replace x_f1 := x.free 1
      go_wp2_with fail
      go_region
      go_wp2
      exact ⟨⟨k + 1, by omega, by first | rfl | go_num, (hk.set (by first | omega | (simp; done) | (simp; omega)) _).drew, (o.other (by simp) _).drew, ((x.set 1 _).is (by rw [hD2.out, HS.out]; rfl)).drew⟩, by first | (simp [intOf]; done) | (simp [intOf]; omega)⟩
    · obtain rfl : k = six u := by omega
      have hsix := six_end (t := u)
      have b1 := digV_bd u (six u) hsix.1
      rw [HSZ.out] at hsix
      have hex : (((six u : Nat) : Int) < ((n : Nat) : Int) ∧ ¬ ((six u : Nat) : Int) < 6) ∨ ¬ ((six u : Nat) : Int) < ((n : Nat) : Int) := by omega
      clear hsix hlt hk6
      obtain ⟨D, hD⟩ : ∃ z, digV u (six u) = z := ⟨_, rfl⟩
      rw [hD] at b1 x
      have HV := Lib.hid (show -digV u (six u) = (-D) from by rw [hD])
      clear hD
      generalize six u = z at hex x
      have wn : IntKind.i64.wrap (-D) = -D := by rw [IntKind.wrap_i64]; omega
      clear b1
      obtain ⟨V, hV⟩ : ∃ V, (-D) = V := ⟨_, rfl⟩
      have hsh := show3 s 1 V
      rw [← hV] at hsh
      rcases hsh with ⟨h1, h2⟩ | ⟨h1, h2, h3⟩ | ⟨h1, h2, h3⟩
      · skip
        have Hs := Lib.hid ((show checkS s (1, -digV u (six u)) = checkS s (1, (-D)) from by rw [HV.out]).trans h2)
        have HS := Lib.hid (fun wx => refShow_is 1 (-D) _ _ wx h1)
        clear h1 h2
        clear hV
        rcases hex with ⟨hi1, hi2⟩ | hi1
        · skip
          replace x_l := x.lt
          replace x_0 := x.at 0 _ rfl
          replace x_f0 := x.free 0
          replace x_1 := x.at 1 _ rfl
          replace x_f1 := x.free 1
          go_wp2_with fail
          refine with_eq ?_
          intro X eX
          have hsz := hk.size
          replace hk := (eX ▸ (by first | ((repeat (first | with_reducible exact hk | with_reducible refine Kept.alloc ?_ _ | with_reducible refine Kept.drew ?_ | with_reducible refine Kept.drewN ?_ _ | with_reducible refine Kept.set ?_ (by first | (simp; done) | (simp; omega) | omega) _)); done) | exact hk | exact (hk.alloc _) | exact ((hk.alloc _).alloc _) | exact (((hk.alloc _).alloc _).alloc _) | exact ((((hk.alloc _).alloc _).alloc _).alloc _) | exact (((((hk.alloc _).alloc _).alloc _).alloc _).alloc _) | exact ((((((hk.alloc _).alloc _).alloc _).alloc _).alloc _).alloc _) | (repeat (first | exact hk | refine Kept.alloc ?_ _ | refine Kept.drew ?_ | refine Kept.drewN ?_ _ | refine Kept.set ?_ (by first | (simp; done) | (simp; omega) | omega) _))) : Kept w X)
          replace o := o.same (X := X) (by rw [eX]; repeat (first | with_reducible rfl | with_reducible refine (Below.heap_setCell _ _ _ _ (by first | omega | (simp; done) | (simp; omega))).trans ?_ | with_reducible refine (heap_drew_ _ _).trans ?_ | with_reducible refine (heap_drewN_ _ _ _).trans ?_))
          replace x : Own X _ _ #[.int .i64 1, .int .i64 (-D)] := eX ▸ (((x.set 1 _)).is (by rfl))
          clear eX
          go_wp2_with fail
          refine (HS.out _).mono ?_
          rintro e w1 ⟨rfl, hn⟩
          replace hk := hk.trans hn
          replace o := o.kept hn
          replace x := x.kept hn
          clear hn
          replace o_l := o.lt
          replace o_0 := o.at 0 _ rfl
          replace o_f0 := o.free 0
          replace o_1 := o.at 1 _ rfl
          replace o_f1 := o.free 1
          replace x_l := x.lt
          replace x_0 := x.at 0 _ rfl
          replace x_f0 := x.free 0
          replace x_1 := x.at 1 _ rfl
          replace x_f1 := x.free 1
          go_wp2
          exact bodyPost_ret (v := .tuple #[lenV 0 0, .int .i64 800]) (by simp [results, Tryd.results64, go_sem, o_0, o_1, x_0, x_1, o_l, x_l]) rfl ⟨by first | (rw [Hs.out]; done) | rfl, (by first | ((repeat (first | with_reducible exact hk | with_reducible refine Kept.alloc ?_ _ | with_reducible refine Kept.drew ?_ | with_reducible refine Kept.drewN ?_ _ | with_reducible refine Kept.set ?_ (by first | (simp; done) | (simp; omega) | omega) _)); done) | exact hk | exact (hk.alloc _) | exact ((hk.alloc _).alloc _) | exact (((hk.alloc _).alloc _).alloc _) | exact ((((hk.alloc _).alloc _).alloc _).alloc _) | exact (((((hk.alloc _).alloc _).alloc _).alloc _).alloc _) | exact ((((((hk.alloc _).alloc _).alloc _).alloc _).alloc _).alloc _) | (repeat (first | exact hk | refine Kept.alloc ?_ _ | refine Kept.drew ?_ | refine Kept.drewN ?_ _ | refine Kept.set ?_ (by first | (simp; done) | (simp; omega) | omega) _)))⟩
        · skip
          replace x_l := x.lt
          replace x_0 := x.at 0 _ rfl
          replace x_f0 := x.free 0
          replace x_1 := x.at 1 _ rfl
          replace x_f1 := x.free 1
          go_wp2_with fail
          refine with_eq ?_
          intro X eX
          have hsz := hk.size
          replace hk := (eX ▸ (by first | ((repeat (first | with_reducible exact hk | with_reducible refine Kept.alloc ?_ _ | with_reducible refine Kept.drew ?_ | with_reducible refine Kept.drewN ?_ _ | with_reducible refine Kept.set ?_ (by first | (simp; done) | (simp; omega) | omega) _)); done) | exact hk | exact (hk.alloc _) | exact ((hk.alloc _).alloc _) | exact (((hk.alloc _).alloc _).alloc _) | exact ((((hk.alloc _).alloc _).alloc _).alloc _) | exact (((((hk.alloc _).alloc _).alloc _).alloc _).alloc _) | exact ((((((hk.alloc _).alloc _).alloc _).alloc _).alloc _).alloc _) | (repeat (first | exact hk | refine Kept.alloc ?_ _ | refine Kept.drew ?_ | refine Kept.drewN ?_ _ | refine Kept.set ?_ (by first | (simp; done) | (simp; omega) | omega) _))) : Kept w X)
          replace o := o.same (X := X) (by rw [eX]; repeat (first | with_reducible rfl | with_reducible refine (Below.heap_setCell _ _ _ _ (by first | omega | (simp; done) | (simp; omega))).trans ?_ | with_reducible refine (heap_drew_ _ _).trans ?_ | with_reducible refine (heap_drewN_ _ _ _).trans ?_))
          replace x : Own X _ _ #[.int .i64 1, .int .i64 (-D)] := eX ▸ (((x.set 1 _)).is (by rfl))
          clear eX
          go_wp2_with fail
          refine (HS.out _).mono ?_
          rintro e w1 ⟨rfl, hn⟩
          replace hk := hk.trans hn
          replace o := o.kept hn
          replace x := x.kept hn
          clear hn
          replace o_l := o.lt
          replace o_0 := o.at 0 _ rfl
          replace o_f0 := o.free 0
          replace o_1 := o.at 1 _ rfl
          replace o_f1 := o.free 1
          replace x_l := x.lt
          replace x_0 := x.at 0 _ rfl
          replace x_f0 := x.free 0
          replace x_1 := x.at 1 _ rfl
          replace x_f1 := x.free 1
          go_wp2
          exact bodyPost_ret (v := .tuple #[lenV 0 0, .int .i64 800]) (by simp [results, Tryd.results64, go_sem, o_0, o_1, x_0, x_1, o_l, x_l]) rfl ⟨by first | (rw [Hs.out]; done) | rfl, (by first | ((repeat (first | with_reducible exact hk | with_reducible refine Kept.alloc ?_ _ | with_reducible refine Kept.drew ?_ | with_reducible refine Kept.drewN ?_ _ | with_reducible refine Kept.set ?_ (by first | (simp; done) | (simp; omega) | omega) _)); done) | exact hk | exact (hk.alloc _) | exact ((hk.alloc _).alloc _) | exact (((hk.alloc _).alloc _).alloc _) | exact ((((hk.alloc _).alloc _).alloc _).alloc _) | exact (((((hk.alloc _).alloc _).alloc _).alloc _).alloc _) | exact ((((((hk.alloc _).alloc _).alloc _).alloc _).alloc _).alloc _) | (repeat (first | exact hk | refine Kept.alloc ?_ _ | refine Kept.drew ?_ | refine Kept.drewN ?_ _ | refine Kept.set ?_ (by first | (simp; done) | (simp; omega) | omega) _)))⟩
      · skip
        generalize lenT 1 (-D) = T at *
        have Hs := Lib.hid ((show checkS s (1, -digV u (six u)) = checkS s (1, (-D)) from by rw [HV.out]).trans h3)
        have HS := Lib.hid (fun wx => refShow_is 1 (-D) _ _ wx h1)
        clear h1 h3
        clear hV
        rcases hex with ⟨hi1, hi2⟩ | hi1
        · skip
          replace x_l := x.lt
          replace x_0 := x.at 0 _ rfl
          replace x_f0 := x.free 0
          replace x_1 := x.at 1 _ rfl
          replace x_f1 := x.free 1
          go_wp2_with fail
          refine with_eq ?_
          intro X eX
          have hsz := hk.size
          replace hk := (eX ▸ (by first | ((repeat (first | with_reducible exact hk | with_reducible refine Kept.alloc ?_ _ | with_reducible refine Kept.drew ?_ | with_reducible refine Kept.drewN ?_ _ | with_reducible refine Kept.set ?_ (by first | (simp; done) | (simp; omega) | omega) _)); done) | exact hk | exact (hk.alloc _) | exact ((hk.alloc _).alloc _) | exact (((hk.alloc _).alloc _).alloc _) | exact ((((hk.alloc _).alloc _).alloc _).alloc _) | exact (((((hk.alloc _).alloc _).alloc _).alloc _).alloc _) | exact ((((((hk.alloc _).alloc _).alloc _).alloc _).alloc _).alloc _) | (repeat (first | exact hk | refine Kept.alloc ?_ _ | refine Kept.drew ?_ | refine Kept.drewN ?_ _ | refine Kept.set ?_ (by first | (simp; done) | (simp; omega) | omega) _))) : Kept w X)
          replace o := o.same (X := X) (by rw [eX]; repeat (first | with_reducible rfl | with_reducible refine (Below.heap_setCell _ _ _ _ (by first | omega | (simp; done) | (simp; omega))).trans ?_ | with_reducible refine (heap_drew_ _ _).trans ?_ | with_reducible refine (heap_drewN_ _ _ _).trans ?_))
          replace x : Own X _ _ #[.int .i64 1, .int .i64 (-D)] := eX ▸ (((x.set 1 _)).is (by rfl))
          clear eX
          go_wp2_with fail
          refine (HS.out _).mono ?_
          rintro e w1 ⟨rfl, hn⟩
          replace hk := hk.trans hn
          replace o := o.kept hn
          replace x := x.kept hn
          clear hn
          replace o_l := o.lt
          replace o_0 := o.at 0 _ rfl
          replace o_f0 := o.free 0
          replace o_1 := o.at 1 _ rfl
          replace o_f1 := o.free 1
          replace x_l := x.lt
          replace x_0 := x.at 0 _ rfl
          replace x_f0 := x.free 0
          replace x_1 := x.at 1 _ rfl
          replace x_f1 := x.free 1
          go_wp2
          exact bodyPost_ret (v := .tuple #[lenV 1 (-D), .int .i64 0]) (by simp [results, Tryd.results64, go_sem, o_0, o_1, x_0, x_1, o_l, x_l]) rfl ⟨by first | (rw [Hs.out]; done) | rfl, (by first | ((repeat (first | with_reducible exact hk | with_reducible refine Kept.alloc ?_ _ | with_reducible refine Kept.drew ?_ | with_reducible refine Kept.drewN ?_ _ | with_reducible refine Kept.set ?_ (by first | (simp; done) | (simp; omega) | omega) _)); done) | exact hk | exact (hk.alloc _) | exact ((hk.alloc _).alloc _) | exact (((hk.alloc _).alloc _).alloc _) | exact ((((hk.alloc _).alloc _).alloc _).alloc _) | exact (((((hk.alloc _).alloc _).alloc _).alloc _).alloc _) | exact ((((((hk.alloc _).alloc _).alloc _).alloc _).alloc _).alloc _) | (repeat (first | exact hk | refine Kept.alloc ?_ _ | refine Kept.drew ?_ | refine Kept.drewN ?_ _ | refine Kept.set ?_ (by first | (simp; done) | (simp; omega) | omega) _)))⟩
        · skip
          replace x_l := x.lt
          replace x_0 := x.at 0 _ rfl
          replace x_f0 := x.free 0
          replace x_1 := x.at 1 _ rfl
          replace x_f1 := x.free 1
          go_wp2_with fail
          refine with_eq ?_
          intro X eX
          have hsz := hk.size
          replace hk := (eX ▸ (by first | ((repeat (first | with_reducible exact hk | with_reducible refine Kept.alloc ?_ _ | with_reducible refine Kept.drew ?_ | with_reducible refine Kept.drewN ?_ _ | with_reducible refine Kept.set ?_ (by first | (simp; done) | (simp; omega) | omega) _)); done) | exact hk | exact (hk.alloc _) | exact ((hk.alloc _).alloc _) | exact (((hk.alloc _).alloc _).alloc _) | exact ((((hk.alloc _).alloc _).alloc _).alloc _) | exact (((((hk.alloc _).alloc _).alloc _).alloc _).alloc _) | exact ((((((hk.alloc _).alloc _).alloc _).alloc _).alloc _).alloc _) | (repeat (first | exact hk | refine Kept.alloc ?_ _ | refine Kept.drew ?_ | refine Kept.drewN ?_ _ | refine Kept.set ?_ (by first | (simp; done) | (simp; omega) | omega) _))) : Kept w X)
          replace o := o.same (X := X) (by rw [eX]; repeat (first | with_reducible rfl | with_reducible refine (Below.heap_setCell _ _ _ _ (by first | omega | (simp; done) | (simp; omega))).trans ?_ | with_reducible refine (heap_drew_ _ _).trans ?_ | with_reducible refine (heap_drewN_ _ _ _).trans ?_))
          replace x : Own X _ _ #[.int .i64 1, .int .i64 (-D)] := eX ▸ (((x.set 1 _)).is (by rfl))
          clear eX
          go_wp2_with fail
          refine (HS.out _).mono ?_
          rintro e w1 ⟨rfl, hn⟩
          replace hk := hk.trans hn
          replace o := o.kept hn
          replace x := x.kept hn
          clear hn
          replace o_l := o.lt
          replace o_0 := o.at 0 _ rfl
          replace o_f0 := o.free 0
          replace o_1 := o.at 1 _ rfl
          replace o_f1 := o.free 1
          replace x_l := x.lt
          replace x_0 := x.at 0 _ rfl
          replace x_f0 := x.free 0
          replace x_1 := x.at 1 _ rfl
          replace x_f1 := x.free 1
          go_wp2
          exact bodyPost_ret (v := .tuple #[lenV 1 (-D), .int .i64 0]) (by simp [results, Tryd.results64, go_sem, o_0, o_1, x_0, x_1, o_l, x_l]) rfl ⟨by first | (rw [Hs.out]; done) | rfl, (by first | ((repeat (first | with_reducible exact hk | with_reducible refine Kept.alloc ?_ _ | with_reducible refine Kept.drew ?_ | with_reducible refine Kept.drewN ?_ _ | with_reducible refine Kept.set ?_ (by first | (simp; done) | (simp; omega) | omega) _)); done) | exact hk | exact (hk.alloc _) | exact ((hk.alloc _).alloc _) | exact (((hk.alloc _).alloc _).alloc _) | exact ((((hk.alloc _).alloc _).alloc _).alloc _) | exact (((((hk.alloc _).alloc _).alloc _).alloc _).alloc _) | exact ((((((hk.alloc _).alloc _).alloc _).alloc _).alloc _).alloc _) | (repeat (first | exact hk | refine Kept.alloc ?_ _ | refine Kept.drew ?_ | refine Kept.drewN ?_ _ | refine Kept.set ?_ (by first | (simp; done) | (simp; omega) | omega) _)))⟩
      · skip
        generalize lenT 1 (-D) = T at *
        have Hs := Lib.hid ((show checkS s (1, -digV u (six u)) = checkS s (1, (-D)) from by rw [HV.out]).trans h3)
        have HS := Lib.hid (fun wx => refShow_is 1 (-D) _ _ wx h1)
        clear h1 h3
        clear hV
        rcases hex with ⟨hi1, hi2⟩ | hi1
        · skip
          replace x_l := x.lt
          replace x_0 := x.at 0 _ rfl
          replace x_f0 := x.free 0
          replace x_1 := x.at 1 _ rfl
          replace x_f1 := x.free 1
          go_wp2_with fail
          refine with_eq ?_
          intro X eX
          have hsz := hk.size
          replace hk := (eX ▸ (by first | ((repeat (first | with_reducible exact hk | with_reducible refine Kept.alloc ?_ _ | with_reducible refine Kept.drew ?_ | with_reducible refine Kept.drewN ?_ _ | with_reducible refine Kept.set ?_ (by first | (simp; done) | (simp; omega) | omega) _)); done) | exact hk | exact (hk.alloc _) | exact ((hk.alloc _).alloc _) | exact (((hk.alloc _).alloc _).alloc _) | exact ((((hk.alloc _).alloc _).alloc _).alloc _) | exact (((((hk.alloc _).alloc _).alloc _).alloc _).alloc _) | exact ((((((hk.alloc _).alloc _).alloc _).alloc _).alloc _).alloc _) | (repeat (first | exact hk | refine Kept.alloc ?_ _ | refine Kept.drew ?_ | refine Kept.drewN ?_ _ | refine Kept.set ?_ (by first | (simp; done) | (simp; omega) | omega) _))) : Kept w X)
          replace o := o.same (X := X) (by rw [eX]; repeat (first | with_reducible rfl | with_reducible refine (Below.heap_setCell _ _ _ _ (by first | omega | (simp; done) | (simp; omega))).trans ?_ | with_reducible refine (heap_drew_ _ _).trans ?_ | with_reducible refine (heap_drewN_ _ _ _).trans ?_))
          replace x : Own X _ _ #[.int .i64 1, .int .i64 (-D)] := eX ▸ (((x.set 1 _)).is (by rfl))
          clear eX
          go_wp2_with fail
          refine (HS.out _).mono ?_
          rintro e w1 ⟨rfl, hn⟩
          replace hk := hk.trans hn
          replace o := o.kept hn
          replace x := x.kept hn
          clear hn
          replace o_l := o.lt
          replace o_0 := o.at 0 _ rfl
          replace o_f0 := o.free 0
          replace o_1 := o.at 1 _ rfl
          replace o_f1 := o.free 1
          replace x_l := x.lt
          replace x_0 := x.at 0 _ rfl
          replace x_f0 := x.free 0
          replace x_1 := x.at 1 _ rfl
          replace x_f1 := x.free 1
          go_wp2
          exact bodyPost_ret (v := .tuple #[lenV 0 0, .int .i64 800]) (by simp [results, Tryd.results64, go_sem, o_0, o_1, x_0, x_1, o_l, x_l]) rfl ⟨by first | (rw [Hs.out]; done) | rfl, (by first | ((repeat (first | with_reducible exact hk | with_reducible refine Kept.alloc ?_ _ | with_reducible refine Kept.drew ?_ | with_reducible refine Kept.drewN ?_ _ | with_reducible refine Kept.set ?_ (by first | (simp; done) | (simp; omega) | omega) _)); done) | exact hk | exact (hk.alloc _) | exact ((hk.alloc _).alloc _) | exact (((hk.alloc _).alloc _).alloc _) | exact ((((hk.alloc _).alloc _).alloc _).alloc _) | exact (((((hk.alloc _).alloc _).alloc _).alloc _).alloc _) | exact ((((((hk.alloc _).alloc _).alloc _).alloc _).alloc _).alloc _) | (repeat (first | exact hk | refine Kept.alloc ?_ _ | refine Kept.drew ?_ | refine Kept.drewN ?_ _ | refine Kept.set ?_ (by first | (simp; done) | (simp; omega) | omega) _)))⟩
        · skip
          replace x_l := x.lt
          replace x_0 := x.at 0 _ rfl
          replace x_f0 := x.free 0
          replace x_1 := x.at 1 _ rfl
          replace x_f1 := x.free 1
          go_wp2_with fail
          refine with_eq ?_
          intro X eX
          have hsz := hk.size
          replace hk := (eX ▸ (by first | ((repeat (first | with_reducible exact hk | with_reducible refine Kept.alloc ?_ _ | with_reducible refine Kept.drew ?_ | with_reducible refine Kept.drewN ?_ _ | with_reducible refine Kept.set ?_ (by first | (simp; done) | (simp; omega) | omega) _)); done) | exact hk | exact (hk.alloc _) | exact ((hk.alloc _).alloc _) | exact (((hk.alloc _).alloc _).alloc _) | exact ((((hk.alloc _).alloc _).alloc _).alloc _) | exact (((((hk.alloc _).alloc _).alloc _).alloc _).alloc _) | exact ((((((hk.alloc _).alloc _).alloc _).alloc _).alloc _).alloc _) | (repeat (first | exact hk | refine Kept.alloc ?_ _ | refine Kept.drew ?_ | refine Kept.drewN ?_ _ | refine Kept.set ?_ (by first | (simp; done) | (simp; omega) | omega) _))) : Kept w X)
          replace o := o.same (X := X) (by rw [eX]; repeat (first | with_reducible rfl | with_reducible refine (Below.heap_setCell _ _ _ _ (by first | omega | (simp; done) | (simp; omega))).trans ?_ | with_reducible refine (heap_drew_ _ _).trans ?_ | with_reducible refine (heap_drewN_ _ _ _).trans ?_))
          replace x : Own X _ _ #[.int .i64 1, .int .i64 (-D)] := eX ▸ (((x.set 1 _)).is (by rfl))
          clear eX
          go_wp2_with fail
          refine (HS.out _).mono ?_
          rintro e w1 ⟨rfl, hn⟩
          replace hk := hk.trans hn
          replace o := o.kept hn
          replace x := x.kept hn
          clear hn
          replace o_l := o.lt
          replace o_0 := o.at 0 _ rfl
          replace o_f0 := o.free 0
          replace o_1 := o.at 1 _ rfl
          replace o_f1 := o.free 1
          replace x_l := x.lt
          replace x_0 := x.at 0 _ rfl
          replace x_f0 := x.free 0
          replace x_1 := x.at 1 _ rfl
          replace x_f1 := x.free 1
          go_wp2
          exact bodyPost_ret (v := .tuple #[lenV 0 0, .int .i64 800]) (by simp [results, Tryd.results64, go_sem, o_0, o_1, x_0, x_1, o_l, x_l]) rfl ⟨by first | (rw [Hs.out]; done) | rfl, (by first | ((repeat (first | with_reducible exact hk | with_reducible refine Kept.alloc ?_ _ | with_reducible refine Kept.drew ?_ | with_reducible refine Kept.drewN ?_ _ | with_reducible refine Kept.set ?_ (by first | (simp; done) | (simp; omega) | omega) _)); done) | exact hk | exact (hk.alloc _) | exact ((hk.alloc _).alloc _) | exact (((hk.alloc _).alloc _).alloc _) | exact ((((hk.alloc _).alloc _).alloc _).alloc _) | exact (((((hk.alloc _).alloc _).alloc _).alloc _).alloc _) | exact ((((((hk.alloc _).alloc _).alloc _).alloc _).alloc _).alloc _) | (repeat (first | exact hk | refine Kept.alloc ?_ _ | refine Kept.drew ?_ | refine Kept.drewN ?_ _ | refine Kept.set ?_ (by first | (simp; done) | (simp; omega) | omega) _)))⟩
theorem refParse_p (s : ByteArray) (w : World) (hb : s.size ≤ 140737488355328) (hs : (s.toList == [97, 117, 116, 111]) = false) (n : Nat) (hsz : s.size = n + 1) (hne : (s.toList == []) = false) (hx : ∀ wx, Sem.run Tryd.prog (Instr.index 9 (.string s) (.int .i64 (n : Int))) wx = .ok (.int .u8 (at8 s n)) wx) (hp : ((at8 s n : Int) == 37) = true) (t : ByteArray) (ht : s.extract 0 n = t) (ht0 : t.toList = []) (htz : t.size = 0) :
    Calls Tryd.prog 64 #[.string s] w fun e w' => e = .returned (parsedV (checkS s (2, digV t (six t)))) ∧ Kept w w' := by
  have HSZ := Lib.hid (show t.size = 0 from htz)
  have hk : Kept w w := Kept.refl w
  go_enter Tryd.func64, Tryd.ntmps64
  go_wp2_with fail
  refine code_boxes2 ?_
  intro X hX o x
  have hsz := hk.size
  replace hk := hk.trans hX
  clear hX
  go_loopw [7] (fun i wx => ∃ k : Nat, k ≤ six t ∧ i = .int .i64 k ∧ Kept w wx ∧ Own wx w.heap.size 23 #[.int .i64 0, .int .i64 0] ∧ Own wx (w.heap.size + 1) 23 #[.int .i64 2, .int .i64 (digV t k)]) (fun i _ => six t - (intOf i).toNat)
  case atStart => exact ⟨0, Nat.zero_le _, rfl, hk, o, x⟩
  case round =>
    clear hk o x
    obtain ⟨k, hk6, rfl, hk, o, x⟩ := hrel
    have hsz2 := hk.size
    have o_l := o.lt
    have x_l := x.lt
    by_cases hlt : k < six t
    · have := (six_lt hlt).1
      omega
    · obtain rfl : k = six t := by omega
      have hsix := six_end (t := t)
      have b1 := digV_bd t (six t) hsix.1
      rw [HSZ.out] at hsix
      have hex : (((six t : Nat) : Int) < ((0 : Nat) : Int) ∧ ¬ ((six t : Nat) : Int) < 6) ∨ ¬ ((six t : Nat) : Int) < ((0 : Nat) : Int) := by omega
      clear hsix hlt hk6
      obtain ⟨D, hD⟩ : ∃ z, digV t (six t) = z := ⟨_, rfl⟩
      rw [hD] at b1 x
      have HV := Lib.hid (show digV t (six t) = D from by rw [hD])
      clear hD
      generalize six t = z at hex x
      have wn : IntKind.i64.wrap (-D) = -D := by rw [IntKind.wrap_i64]; omega
      clear b1
      obtain ⟨V, hV⟩ : ∃ V, D = V := ⟨_, rfl⟩
      have hsh := show3 s 2 V
      rw [← hV] at hsh
      rcases hsh with ⟨h1, h2⟩ | ⟨h1, h2, h3⟩ | ⟨h1, h2, h3⟩
      · skip
        have Hs := Lib.hid ((show checkS s (2, digV t (six t)) = checkS s (2, D) from by rw [HV.out]).trans h2)
        have HS := Lib.hid (fun wx => refShow_is 2 D _ _ wx h1)
        clear h1 h2
        clear hV
        have hi1 : ¬ ((z : Nat) : Int) < ((0 : Nat) : Int) := by omega
        clear hex
        replace x_l := x.lt
        replace x_0 := x.at 0 _ rfl
        replace x_f0 := x.free 0
        replace x_1 := x.at 1 _ rfl
        replace x_f1 := x.free 1
        go_wp2_with fail
        refine (HS.out _).mono ?_
        rintro e w1 ⟨rfl, hn⟩
        replace hk := hk.trans hn
        replace o := o.kept hn
        replace x := x.kept hn
        clear hn
        replace o_l := o.lt
        replace o_0 := o.at 0 _ rfl
        replace o_f0 := o.free 0
        replace o_1 := o.at 1 _ rfl
        replace o_f1 := o.free 1
        replace x_l := x.lt
        replace x_0 := x.at 0 _ rfl
        replace x_f0 := x.free 0
        replace x_1 := x.at 1 _ rfl
        replace x_f1 := x.free 1
        go_wp2
        exact bodyPost_ret (v := .tuple #[lenV 0 0, .int .i64 800]) (by simp [results, Tryd.results64, go_sem, o_0, o_1, x_0, x_1, o_l, x_l]) rfl ⟨by first | (rw [Hs.out]; done) | rfl, (by first | ((repeat (first | with_reducible exact hk | with_reducible refine Kept.alloc ?_ _ | with_reducible refine Kept.drew ?_ | with_reducible refine Kept.drewN ?_ _ | with_reducible refine Kept.set ?_ (by first | (simp; done) | (simp; omega) | omega) _)); done) | exact hk | exact (hk.alloc _) | exact ((hk.alloc _).alloc _) | exact (((hk.alloc _).alloc _).alloc _) | exact ((((hk.alloc _).alloc _).alloc _).alloc _) | exact (((((hk.alloc _).alloc _).alloc _).alloc _).alloc _) | exact ((((((hk.alloc _).alloc _).alloc _).alloc _).alloc _).alloc _) | (repeat (first | exact hk | refine Kept.alloc ?_ _ | refine Kept.drew ?_ | refine Kept.drewN ?_ _ | refine Kept.set ?_ (by first | (simp; done) | (simp; omega) | omega) _)))⟩
      · skip
        generalize lenT 2 D = T at *
        have Hs := Lib.hid ((show checkS s (2, digV t (six t)) = checkS s (2, D) from by rw [HV.out]).trans h3)
        have HS := Lib.hid (fun wx => refShow_is 2 D _ _ wx h1)
        clear h1 h3
        clear hV
        have hi1 : ¬ ((z : Nat) : Int) < ((0 : Nat) : Int) := by omega
        clear hex
        replace x_l := x.lt
        replace x_0 := x.at 0 _ rfl
        replace x_f0 := x.free 0
        replace x_1 := x.at 1 _ rfl
        replace x_f1 := x.free 1
        go_wp2_with fail
        refine (HS.out _).mono ?_
        rintro e w1 ⟨rfl, hn⟩
        replace hk := hk.trans hn
        replace o := o.kept hn
        replace x := x.kept hn
        clear hn
        replace o_l := o.lt
        replace o_0 := o.at 0 _ rfl
        replace o_f0 := o.free 0
        replace o_1 := o.at 1 _ rfl
        replace o_f1 := o.free 1
        replace x_l := x.lt
        replace x_0 := x.at 0 _ rfl
        replace x_f0 := x.free 0
        replace x_1 := x.at 1 _ rfl
        replace x_f1 := x.free 1
        go_wp2
        exact bodyPost_ret (v := .tuple #[lenV 2 D, .int .i64 0]) (by simp [results, Tryd.results64, go_sem, o_0, o_1, x_0, x_1, o_l, x_l]) rfl ⟨by first | (rw [Hs.out]; done) | rfl, (by first | ((repeat (first | with_reducible exact hk | with_reducible refine Kept.alloc ?_ _ | with_reducible refine Kept.drew ?_ | with_reducible refine Kept.drewN ?_ _ | with_reducible refine Kept.set ?_ (by first | (simp; done) | (simp; omega) | omega) _)); done) | exact hk | exact (hk.alloc _) | exact ((hk.alloc _).alloc _) | exact (((hk.alloc _).alloc _).alloc _) | exact ((((hk.alloc _).alloc _).alloc _).alloc _) | exact (((((hk.alloc _).alloc _).alloc _).alloc _).alloc _) | exact ((((((hk.alloc _).alloc _).alloc _).alloc _).alloc _).alloc _) | (repeat (first | exact hk | refine Kept.alloc ?_ _ | refine Kept.drew ?_ | refine Kept.drewN ?_ _ | refine Kept.set ?_ (by first | (simp; done) | (simp; omega) | omega) _)))⟩
      · skip
        generalize lenT 2 D = T at *
        have Hs := Lib.hid ((show checkS s (2, digV t (six t)) = checkS s (2, D) from by rw [HV.out]).trans h3)
        have HS := Lib.hid (fun wx => refShow_is 2 D _ _ wx h1)
        clear h1 h3
        clear hV
        have hi1 : ¬ ((z : Nat) : Int) < ((0 : Nat) : Int) := by omega
        clear hex
        replace x_l := x.lt
        replace x_0 := x.at 0 _ rfl
        replace x_f0 := x.free 0
        replace x_1 := x.at 1 _ rfl
        replace x_f1 := x.free 1
        go_wp2_with fail
        refine (HS.out _).mono ?_
        rintro e w1 ⟨rfl, hn⟩
        replace hk := hk.trans hn
        replace o := o.kept hn
        replace x := x.kept hn
        clear hn
        replace o_l := o.lt
        replace o_0 := o.at 0 _ rfl
        replace o_f0 := o.free 0
        replace o_1 := o.at 1 _ rfl
        replace o_f1 := o.free 1
        replace x_l := x.lt
        replace x_0 := x.at 0 _ rfl
        replace x_f0 := x.free 0
        replace x_1 := x.at 1 _ rfl
        replace x_f1 := x.free 1
        go_wp2
        exact bodyPost_ret (v := .tuple #[lenV 0 0, .int .i64 800]) (by simp [results, Tryd.results64, go_sem, o_0, o_1, x_0, x_1, o_l, x_l]) rfl ⟨by first | (rw [Hs.out]; done) | rfl, (by first | ((repeat (first | with_reducible exact hk | with_reducible refine Kept.alloc ?_ _ | with_reducible refine Kept.drew ?_ | with_reducible refine Kept.drewN ?_ _ | with_reducible refine Kept.set ?_ (by first | (simp; done) | (simp; omega) | omega) _)); done) | exact hk | exact (hk.alloc _) | exact ((hk.alloc _).alloc _) | exact (((hk.alloc _).alloc _).alloc _) | exact ((((hk.alloc _).alloc _).alloc _).alloc _) | exact (((((hk.alloc _).alloc _).alloc _).alloc _).alloc _) | exact ((((((hk.alloc _).alloc _).alloc _).alloc _).alloc _).alloc _) | (repeat (first | exact hk | refine Kept.alloc ?_ _ | refine Kept.drew ?_ | refine Kept.drewN ?_ _ | refine Kept.set ?_ (by first | (simp; done) | (simp; omega) | omega) _)))⟩
theorem refParse_p0 (s : ByteArray) (w : World) (hb : s.size ≤ 140737488355328) (hs : (s.toList == [97, 117, 116, 111]) = false) (n : Nat) (hsz : s.size = n + 1) (hne : (s.toList == []) = false) (hx : ∀ wx, Sem.run Tryd.prog (Instr.index 9 (.string s) (.int .i64 (n : Int))) wx = .ok (.int .u8 (at8 s n)) wx) (hp : ((at8 s n : Int) == 37) = true) (t : ByteArray) (ht : s.extract 0 n = t) (m : Nat) (htz : t.size = m + 1) (htn : (t.toList == []) = false) (hy : ∀ wx, Sem.run Tryd.prog (Instr.index 9 (.string t) (.int .i64 0)) wx = .ok (.int .u8 (at8 t 0)) wx) (hc : ((at8 t 0 : Int) == 45) = false) :
    Calls Tryd.prog 64 #[.string s] w fun e w' => e = .returned (parsedV (checkS s (2, digV t (six t)))) ∧ Kept w w' := by
  have HSZ := Lib.hid (show t.size = m + 1 from htz)
  have hk : Kept w w := Kept.refl w
  go_enter Tryd.func64, Tryd.ntmps64
  go_wp2_with fail
  refine code_boxes2 ?_
  intro X hX o x
  have hsz := hk.size
  replace hk := hk.trans hX
  clear hX
  go_loopw [7] (fun i wx => ∃ k : Nat, k ≤ six t ∧ i = .int .i64 k ∧ Kept w wx ∧ Own wx w.heap.size 23 #[.int .i64 0, .int .i64 0] ∧ Own wx (w.heap.size + 1) 23 #[.int .i64 2, .int .i64 (digV t k)]) (fun i _ => six t - (intOf i).toNat)
  case atStart => exact ⟨0, Nat.zero_le _, rfl, hk, o, x⟩
  case round =>
    clear hk o x
    obtain ⟨k, hk6, rfl, hk, o, x⟩ := hrel
    have hsz2 := hk.size
    have o_l := o.lt
    have x_l := x.lt
    by_cases hlt : k < six t
    · obtain ⟨h1, h2⟩ := six_lt hlt
      have b1 := digV_bd t k (by omega)
      have b2 := at8_bd t k
      rw [HSZ.out] at h1
      have hi1 : (k : Int) < ((m + 1 : Nat) : Int) := by omega
      have hi2 : (k : Int) < 6 := by omega
      have hz := fun wx => at8_run (s := t) (i := k) (by rw [HSZ.out]; exact h1) wx
      have HS := Lib.hid (show digV t (k + 1) = 10 * digV t k + at8 t k - 48 from rfl)
      obtain ⟨D2, hD2⟩ : ∃ z, digV t (k + 1) = z := ⟨_, rfl⟩
      rw [hD2] at HS
      replace hD2 := Lib.hid hD2
      generalize digV t k = D at *
      generalize at8 t k = c at *
      have w1 : IntKind.i64.wrap (10 * D) = 10 * D := by rw [IntKind.wrap_i64]; omega
      have w2 : IntKind.i64.wrap (10 * D + c) = 10 * D + c := by rw [IntKind.wrap_i64]; omega
      have w3 : IntKind.i64.wrap (10 * D + c - 48) = 10 * D + c - 48 := by rw [IntKind.wrap_i64]; omega
      have w4 : IntKind.i64.wrap c = c := by rw [IntKind.wrap_i64]; omega
      replace x_l := x.lt
      replace x_0 := x.at 0 _ rfl
      replace x_f0 := x.free 0
      replace x_1 := x.at 1 _ rfl
      replace x_f1 := x.free 1
      go_wp2_with fail
      go_region
      go_wp2
      exact ⟨⟨k + 1, by omega, by first | rfl | go_num, (hk.set (by first | omega | (simp; done) | (simp; omega)) _).drew, (o.other (by simp) _).drew, ((x.set 1 _).is (by rw [hD2.out, HS.out]; rfl)).drew⟩, by first | (simp [intOf]; done) | (simp [intOf]; omega)⟩
    · obtain rfl : k = six t := by omega
      have hsix := six_end (t := t)
      have b1 := digV_bd t (six t) hsix.1
      rw [HSZ.out] at hsix
      have hex : (((six t : Nat) : Int) < ((m + 1 : Nat) : Int) ∧ ¬ ((six t : Nat) : Int) < 6) ∨ ¬ ((six t : Nat) : Int) < ((m + 1 : Nat) : Int) := by omega
      clear hsix hlt hk6
      obtain ⟨D, hD⟩ : ∃ z, digV t (six t) = z := ⟨_, rfl⟩
      rw [hD] at b1 x
      have HV := Lib.hid (show digV t (six t) = D from by rw [hD])
      clear hD
      generalize six t = z at hex x
      have wn : IntKind.i64.wrap (-D) = -D := by rw [IntKind.wrap_i64]; omega
      clear b1
      obtain ⟨V, hV⟩ : ∃ V, D = V := ⟨_, rfl⟩
      have hsh := show3 s 2 V
      rw [← hV] at hsh
      rcases hsh with ⟨h1, h2⟩ | ⟨h1, h2, h3⟩ | ⟨h1, h2, h3⟩
      · skip
        have Hs := Lib.hid ((show checkS s (2, digV t (six t)) = checkS s (2, D) from by rw [HV.out]).trans h2)
        have HS := Lib.hid (fun wx => refShow_is 2 D _ _ wx h1)
        clear h1 h2
        clear hV
        rcases hex with ⟨hi1, hi2⟩ | hi1
        · skip
          replace x_l := x.lt
          replace x_0 := x.at 0 _ rfl
          replace x_f0 := x.free 0
          replace x_1 := x.at 1 _ rfl
          replace x_f1 := x.free 1
          go_wp2_with fail
          refine (HS.out _).mono ?_
          rintro e w1 ⟨rfl, hn⟩
          replace hk := hk.trans hn
          replace o := o.kept hn
          replace x := x.kept hn
          clear hn
          replace o_l := o.lt
          replace o_0 := o.at 0 _ rfl
          replace o_f0 := o.free 0
          replace o_1 := o.at 1 _ rfl
          replace o_f1 := o.free 1
          replace x_l := x.lt
          replace x_0 := x.at 0 _ rfl
          replace x_f0 := x.free 0
          replace x_1 := x.at 1 _ rfl
          replace x_f1 := x.free 1
          go_wp2
          exact bodyPost_ret (v := .tuple #[lenV 0 0, .int .i64 800]) (by simp [results, Tryd.results64, go_sem, o_0, o_1, x_0, x_1, o_l, x_l]) rfl ⟨by first | (rw [Hs.out]; done) | rfl, (by first | ((repeat (first | with_reducible exact hk | with_reducible refine Kept.alloc ?_ _ | with_reducible refine Kept.drew ?_ | with_reducible refine Kept.drewN ?_ _ | with_reducible refine Kept.set ?_ (by first | (simp; done) | (simp; omega) | omega) _)); done) | exact hk | exact (hk.alloc _) | exact ((hk.alloc _).alloc _) | exact (((hk.alloc _).alloc _).alloc _) | exact ((((hk.alloc _).alloc _).alloc _).alloc _) | exact (((((hk.alloc _).alloc _).alloc _).alloc _).alloc _) | exact ((((((hk.alloc _).alloc _).alloc _).alloc _).alloc _).alloc _) | (repeat (first | exact hk | refine Kept.alloc ?_ _ | refine Kept.drew ?_ | refine Kept.drewN ?_ _ | refine Kept.set ?_ (by first | (simp; done) | (simp; omega) | omega) _)))⟩
        · skip
          replace x_l := x.lt
          replace x_0 := x.at 0 _ rfl
          replace x_f0 := x.free 0
          replace x_1 := x.at 1 _ rfl
          replace x_f1 := x.free 1
          go_wp2_with fail
          refine (HS.out _).mono ?_
          rintro e w1 ⟨rfl, hn⟩
          replace hk := hk.trans hn
          replace o := o.kept hn
          replace x := x.kept hn
          clear hn
          replace o_l := o.lt
          replace o_0 := o.at 0 _ rfl
          replace o_f0 := o.free 0
          replace o_1 := o.at 1 _ rfl
          replace o_f1 := o.free 1
          replace x_l := x.lt
          replace x_0 := x.at 0 _ rfl
          replace x_f0 := x.free 0
          replace x_1 := x.at 1 _ rfl
          replace x_f1 := x.free 1
          go_wp2
          exact bodyPost_ret (v := .tuple #[lenV 0 0, .int .i64 800]) (by simp [results, Tryd.results64, go_sem, o_0, o_1, x_0, x_1, o_l, x_l]) rfl ⟨by first | (rw [Hs.out]; done) | rfl, (by first | ((repeat (first | with_reducible exact hk | with_reducible refine Kept.alloc ?_ _ | with_reducible refine Kept.drew ?_ | with_reducible refine Kept.drewN ?_ _ | with_reducible refine Kept.set ?_ (by first | (simp; done) | (simp; omega) | omega) _)); done) | exact hk | exact (hk.alloc _) | exact ((hk.alloc _).alloc _) | exact (((hk.alloc _).alloc _).alloc _) | exact ((((hk.alloc _).alloc _).alloc _).alloc _) | exact (((((hk.alloc _).alloc _).alloc _).alloc _).alloc _) | exact ((((((hk.alloc _).alloc _).alloc _).alloc _).alloc _).alloc _) | (repeat (first | exact hk | refine Kept.alloc ?_ _ | refine Kept.drew ?_ | refine Kept.drewN ?_ _ | refine Kept.set ?_ (by first | (simp; done) | (simp; omega) | omega) _)))⟩
      · skip
        generalize lenT 2 D = T at *
        have Hs := Lib.hid ((show checkS s (2, digV t (six t)) = checkS s (2, D) from by rw [HV.out]).trans h3)
        have HS := Lib.hid (fun wx => refShow_is 2 D _ _ wx h1)
        clear h1 h3
        clear hV
        rcases hex with ⟨hi1, hi2⟩ | hi1
        · skip
          replace x_l := x.lt
          replace x_0 := x.at 0 _ rfl
          replace x_f0 := x.free 0
          replace x_1 := x.at 1 _ rfl
          replace x_f1 := x.free 1
          go_wp2_with fail
          refine (HS.out _).mono ?_
          rintro e w1 ⟨rfl, hn⟩
          replace hk := hk.trans hn
          replace o := o.kept hn
          replace x := x.kept hn
          clear hn
          replace o_l := o.lt
          replace o_0 := o.at 0 _ rfl
          replace o_f0 := o.free 0
          replace o_1 := o.at 1 _ rfl
          replace o_f1 := o.free 1
          replace x_l := x.lt
          replace x_0 := x.at 0 _ rfl
          replace x_f0 := x.free 0
          replace x_1 := x.at 1 _ rfl
          replace x_f1 := x.free 1
          go_wp2
          exact bodyPost_ret (v := .tuple #[lenV 2 D, .int .i64 0]) (by simp [results, Tryd.results64, go_sem, o_0, o_1, x_0, x_1, o_l, x_l]) rfl ⟨by first | (rw [Hs.out]; done) | rfl, (by first | ((repeat (first | with_reducible exact hk | with_reducible refine Kept.alloc ?_ _ | with_reducible refine Kept.drew ?_ | with_reducible refine Kept.drewN ?_ _ | with_reducible refine Kept.set ?_ (by first | (simp; done) | (simp; omega) | omega) _)); done) | exact hk | exact (hk.alloc _) | exact ((hk.alloc _).alloc _) | exact (((hk.alloc _).alloc _).alloc _) | exact ((((hk.alloc _).alloc _).alloc _).alloc _) | exact (((((hk.alloc _).alloc _).alloc _).alloc _).alloc _) | exact ((((((hk.alloc _).alloc _).alloc _).alloc _).alloc _).alloc _) | (repeat (first | exact hk | refine Kept.alloc ?_ _ | refine Kept.drew ?_ | refine Kept.drewN ?_ _ | refine Kept.set ?_ (by first | (simp; done) | (simp; omega) | omega) _)))⟩
        · skip
          replace x_l := x.lt
          replace x_0 := x.at 0 _ rfl
          replace x_f0 := x.free 0
          replace x_1 := x.at 1 _ rfl
          replace x_f1 := x.free 1
          go_wp2_with fail
          refine (HS.out _).mono ?_
          rintro e w1 ⟨rfl, hn⟩
          replace hk := hk.trans hn
          replace o := o.kept hn
          replace x := x.kept hn
          clear hn
          replace o_l := o.lt
          replace o_0 := o.at 0 _ rfl
          replace o_f0 := o.free 0
          replace o_1 := o.at 1 _ rfl
          replace o_f1 := o.free 1
          replace x_l := x.lt
          replace x_0 := x.at 0 _ rfl
          replace x_f0 := x.free 0
          replace x_1 := x.at 1 _ rfl
          replace x_f1 := x.free 1
          go_wp2
          exact bodyPost_ret (v := .tuple #[lenV 2 D, .int .i64 0]) (by simp [results, Tryd.results64, go_sem, o_0, o_1, x_0, x_1, o_l, x_l]) rfl ⟨by first | (rw [Hs.out]; done) | rfl, (by first | ((repeat (first | with_reducible exact hk | with_reducible refine Kept.alloc ?_ _ | with_reducible refine Kept.drew ?_ | with_reducible refine Kept.drewN ?_ _ | with_reducible refine Kept.set ?_ (by first | (simp; done) | (simp; omega) | omega) _)); done) | exact hk | exact (hk.alloc _) | exact ((hk.alloc _).alloc _) | exact (((hk.alloc _).alloc _).alloc _) | exact ((((hk.alloc _).alloc _).alloc _).alloc _) | exact (((((hk.alloc _).alloc _).alloc _).alloc _).alloc _) | exact ((((((hk.alloc _).alloc _).alloc _).alloc _).alloc _).alloc _) | (repeat (first | exact hk | refine Kept.alloc ?_ _ | refine Kept.drew ?_ | refine Kept.drewN ?_ _ | refine Kept.set ?_ (by first | (simp; done) | (simp; omega) | omega) _)))⟩
      · skip
        generalize lenT 2 D = T at *
        have Hs := Lib.hid ((show checkS s (2, digV t (six t)) = checkS s (2, D) from by rw [HV.out]).trans h3)
        have HS := Lib.hid (fun wx => refShow_is 2 D _ _ wx h1)
        clear h1 h3
        clear hV
        rcases hex with ⟨hi1, hi2⟩ | hi1
        · skip
          replace x_l := x.lt
          replace x_0 := x.at 0 _ rfl
          replace x_f0 := x.free 0
          replace x_1 := x.at 1 _ rfl
          replace x_f1 := x.free 1
          go_wp2_with fail
          refine (HS.out _).mono ?_
          rintro e w1 ⟨rfl, hn⟩
          replace hk := hk.trans hn
          replace o := o.kept hn
          replace x := x.kept hn
          clear hn
          replace o_l := o.lt
          replace o_0 := o.at 0 _ rfl
          replace o_f0 := o.free 0
          replace o_1 := o.at 1 _ rfl
          replace o_f1 := o.free 1
          replace x_l := x.lt
          replace x_0 := x.at 0 _ rfl
          replace x_f0 := x.free 0
          replace x_1 := x.at 1 _ rfl
          replace x_f1 := x.free 1
          go_wp2
          exact bodyPost_ret (v := .tuple #[lenV 0 0, .int .i64 800]) (by simp [results, Tryd.results64, go_sem, o_0, o_1, x_0, x_1, o_l, x_l]) rfl ⟨by first | (rw [Hs.out]; done) | rfl, (by first | ((repeat (first | with_reducible exact hk | with_reducible refine Kept.alloc ?_ _ | with_reducible refine Kept.drew ?_ | with_reducible refine Kept.drewN ?_ _ | with_reducible refine Kept.set ?_ (by first | (simp; done) | (simp; omega) | omega) _)); done) | exact hk | exact (hk.alloc _) | exact ((hk.alloc _).alloc _) | exact (((hk.alloc _).alloc _).alloc _) | exact ((((hk.alloc _).alloc _).alloc _).alloc _) | exact (((((hk.alloc _).alloc _).alloc _).alloc _).alloc _) | exact ((((((hk.alloc _).alloc _).alloc _).alloc _).alloc _).alloc _) | (repeat (first | exact hk | refine Kept.alloc ?_ _ | refine Kept.drew ?_ | refine Kept.drewN ?_ _ | refine Kept.set ?_ (by first | (simp; done) | (simp; omega) | omega) _)))⟩
        · skip
          replace x_l := x.lt
          replace x_0 := x.at 0 _ rfl
          replace x_f0 := x.free 0
          replace x_1 := x.at 1 _ rfl
          replace x_f1 := x.free 1
          go_wp2_with fail
          refine (HS.out _).mono ?_
          rintro e w1 ⟨rfl, hn⟩
          replace hk := hk.trans hn
          replace o := o.kept hn
          replace x := x.kept hn
          clear hn
          replace o_l := o.lt
          replace o_0 := o.at 0 _ rfl
          replace o_f0 := o.free 0
          replace o_1 := o.at 1 _ rfl
          replace o_f1 := o.free 1
          replace x_l := x.lt
          replace x_0 := x.at 0 _ rfl
          replace x_f0 := x.free 0
          replace x_1 := x.at 1 _ rfl
          replace x_f1 := x.free 1
          go_wp2
          exact bodyPost_ret (v := .tuple #[lenV 0 0, .int .i64 800]) (by simp [results, Tryd.results64, go_sem, o_0, o_1, x_0, x_1, o_l, x_l]) rfl ⟨by first | (rw [Hs.out]; done) | rfl, (by first | ((repeat (first | with_reducible exact hk | with_reducible refine Kept.alloc ?_ _ | with_reducible refine Kept.drew ?_ | with_reducible refine Kept.drewN ?_ _ | with_reducible refine Kept.set ?_ (by first | (simp; done) | (simp; omega) | omega) _)); done) | exact hk | exact (hk.alloc _) | exact ((hk.alloc _).alloc _) | exact (((hk.alloc _).alloc _).alloc _) | exact ((((hk.alloc _).alloc _).alloc _).alloc _) | exact (((((hk.alloc _).alloc _).alloc _).alloc _).alloc _) | exact ((((((hk.alloc _).alloc _).alloc _).alloc _).alloc _).alloc _) | (repeat (first | exact hk | refine Kept.alloc ?_ _ | refine Kept.drew ?_ | refine Kept.drewN ?_ _ | refine Kept.set ?_ (by first | (simp; done) | (simp; omega) | omega) _)))⟩
theorem refParse_p1 (s : ByteArray) (w : World) (hb : s.size ≤ 140737488355328) (hs : (s.toList == [97, 117, 116, 111]) = false) (n : Nat) (hsz : s.size = n + 1) (hne : (s.toList == []) = false) (hx : ∀ wx, Sem.run Tryd.prog (Instr.index 9 (.string s) (.int .i64 (n : Int))) wx = .ok (.int .u8 (at8 s n)) wx) (hp : ((at8 s n : Int) == 37) = true) (t : ByteArray) (ht : s.extract 0 n = t) (m : Nat) (htz : t.size = m + 1) (htn : (t.toList == []) = false) (hy : ∀ wx, Sem.run Tryd.prog (Instr.index 9 (.string t) (.int .i64 0)) wx = .ok (.int .u8 (at8 t 0)) wx) (hc : ((at8 t 0 : Int) == 45) = true) (u : ByteArray) (hu : t.extract 1 (m + 1) = u) (huz : u.size = m) :
    Calls Tryd.prog 64 #[.string s] w fun e w' => e = .returned (parsedV (checkS s (2, -digV u (six u)))) ∧ Kept w w' := by
  have HSZ := Lib.hid (show u.size = m from huz)
  have hk : Kept w w := Kept.refl w
  go_enter Tryd.func64, Tryd.ntmps64
  go_wp2_with fail
  refine code_boxes2 ?_
  intro X hX o x
  have hsz := hk.size
  replace hk := hk.trans hX
  clear hX
  go_loopw [7] (fun i wx => ∃ k : Nat, k ≤ six u ∧ i = .int .i64 k ∧ Kept w wx ∧ Own wx w.heap.size 23 #[.int .i64 0, .int .i64 0] ∧ Own wx (w.heap.size + 1) 23 #[.int .i64 2, .int .i64 (digV u k)]) (fun i _ => six u - (intOf i).toNat)
  case atStart => exact ⟨0, Nat.zero_le _, rfl, hk, o, x⟩
  case round =>
    clear hk o x
    obtain ⟨k, hk6, rfl, hk, o, x⟩ := hrel
    have hsz2 := hk.size
    have o_l := o.lt
    have x_l := x.lt
    by_cases hlt : k < six u
    · obtain ⟨h1, h2⟩ := six_lt hlt
      have b1 := digV_bd u k (by omega)
      have b2 := at8_bd u k
      rw [HSZ.out] at h1
      have hi1 : (k : Int) < ((m : Nat) : Int) := by omega
      have hi2 : (k : Int) < 6 := by omega
      have hz := fun wx => at8_run (s := u) (i := k) (by rw [HSZ.out]; exact h1) wx
      have HS := Lib.hid (show digV u (k + 1) = 10 * digV u k + at8 u k - 48 from rfl)
      obtain ⟨D2, hD2⟩ : ∃ z, digV u (k + 1) = z := ⟨_, rfl⟩
      rw [hD2] at HS
      replace hD2 := Lib.hid hD2
      generalize digV u k = D at *
      generalize at8 u k = c at *
      have w1 : IntKind.i64.wrap (10 * D) = 10 * D := by rw [IntKind.wrap_i64]; omega
      have w2 : IntKind.i64.wrap (10 * D + c) = 10 * D + c := by rw [IntKind.wrap_i64]; omega
      have w3 : IntKind.i64.wrap (10 * D + c - 48) = 10 * D + c - 48 := by rw [IntKind.wrap_i64]; omega
      have w4 : IntKind.i64.wrap c = c := by rw [IntKind.wrap_i64]; omega
      replace x_l := x.lt
      replace x_0 := x.at 0 _ rfl
      replace x_f0 := x.free 0
      replace x_1 := x.at 1 _ rfl
      replace x_f1 := x.free 1
      go_wp2_with fail
      go_region
      go_wp2
      exact ⟨⟨k + 1, by omega, by first | rfl | go_num, (hk.set (by first | omega | (simp; done) | (simp; omega)) _).drew, (o.other (by simp) _).drew, ((x.set 1 _).is (by rw [hD2.out, HS.out]; rfl)).drew⟩, by first | (simp [intOf]; done) | (simp [intOf]; omega)⟩
    · obtain rfl : k = six u := by omega
      have hsix := six_end (t := u)
      have b1 := digV_bd u (six u) hsix.1
      rw [HSZ.out] at hsix
      have hex : (((six u : Nat) : Int) < ((m : Nat) : Int) ∧ ¬ ((six u : Nat) : Int) < 6) ∨ ¬ ((six u : Nat) : Int) < ((m : Nat) : Int) := by omega
      clear hsix hlt hk6
      obtain ⟨D, hD⟩ : ∃ z, digV u (six u) = z := ⟨_, rfl⟩
      rw [hD] at b1 x
      have HV := Lib.hid (show -digV u (six u) = (-D) from by rw [hD])
      clear hD
      generalize six u = z at hex x
      have wn : IntKind.i64.wrap (-D) = -D := by rw [IntKind.wrap_i64]; omega
      clear b1
      obtain ⟨V, hV⟩ : ∃ V, (-D) = V := ⟨_, rfl⟩
      have hsh := show3 s 2 V
      rw [← hV] at hsh
      rcases hsh with ⟨h1, h2⟩ | ⟨h1, h2, h3⟩ | ⟨h1, h2, h3⟩
      · skip
        have Hs := Lib.hid ((show checkS s (2, -digV u (six u)) = checkS s (2, (-D)) from by rw [HV.out]).trans h2)
        have HS := Lib.hid (fun wx => refShow_is 2 (-D) _ _ wx h1)
        clear h1 h2
        clear hV
        rcases hex with ⟨hi1, hi2⟩ | hi1
        · skip
          replace x_l := x.lt
          replace x_0 := x.at 0 _ rfl
          replace x_f0 := x.free 0
          replace x_1 := x.at 1 _ rfl
          replace x_f1 := x.free 1
          go_wp2_with fail
          refine with_eq ?_
          intro X eX
          have hsz := hk.size
          replace hk := (eX ▸ (by first | ((repeat (first | with_reducible exact hk | with_reducible refine Kept.alloc ?_ _ | with_reducible refine Kept.drew ?_ | with_reducible refine Kept.drewN ?_ _ | with_reducible refine Kept.set ?_ (by first | (simp; done) | (simp; omega) | omega) _)); done) | exact hk | exact (hk.alloc _) | exact ((hk.alloc _).alloc _) | exact (((hk.alloc _).alloc _).alloc _) | exact ((((hk.alloc _).alloc _).alloc _).alloc _) | exact (((((hk.alloc _).alloc _).alloc _).alloc _).alloc _) | exact ((((((hk.alloc _).alloc _).alloc _).alloc _).alloc _).alloc _) | (repeat (first | exact hk | refine Kept.alloc ?_ _ | refine Kept.drew ?_ | refine Kept.drewN ?_ _ | refine Kept.set ?_ (by first | (simp; done) | (simp; omega) | omega) _))) : Kept w X)
          replace o := o.same (X := X) (by rw [eX]; repeat (first | with_reducible rfl | with_reducible refine (Below.heap_setCell _ _ _ _ (by first | omega | (simp; done) | (simp; omega))).trans ?_ | with_reducible refine (heap_drew_ _ _).trans ?_ | with_reducible refine (heap_drewN_ _ _ _).trans ?_))
          replace x : Own X _ _ #[.int .i64 2, .int .i64 (-D)] := eX ▸ (((x.set 1 _)).is (by rfl))
          clear eX
          go_wp2_with fail
          refine (HS.out _).mono ?_
          rintro e w1 ⟨rfl, hn⟩
          replace hk := hk.trans hn
          replace o := o.kept hn
          replace x := x.kept hn
          clear hn
          replace o_l := o.lt
          replace o_0 := o.at 0 _ rfl
          replace o_f0 := o.free 0
          replace o_1 := o.at 1 _ rfl
          replace o_f1 := o.free 1
          replace x_l := x.lt
          replace x_0 := x.at 0 _ rfl
          replace x_f0 := x.free 0
          replace x_1 := x.at 1 _ rfl
          replace x_f1 := x.free 1
          go_wp2
          exact bodyPost_ret (v := .tuple #[lenV 0 0, .int .i64 800]) (by simp [results, Tryd.results64, go_sem, o_0, o_1, x_0, x_1, o_l, x_l]) rfl ⟨by first | (rw [Hs.out]; done) | rfl, (by first | ((repeat (first | with_reducible exact hk | with_reducible refine Kept.alloc ?_ _ | with_reducible refine Kept.drew ?_ | with_reducible refine Kept.drewN ?_ _ | with_reducible refine Kept.set ?_ (by first | (simp; done) | (simp; omega) | omega) _)); done) | exact hk | exact (hk.alloc _) | exact ((hk.alloc _).alloc _) | exact (((hk.alloc _).alloc _).alloc _) | exact ((((hk.alloc _).alloc _).alloc _).alloc _) | exact (((((hk.alloc _).alloc _).alloc _).alloc _).alloc _) | exact ((((((hk.alloc _).alloc _).alloc _).alloc _).alloc _).alloc _) | (repeat (first | exact hk | refine Kept.alloc ?_ _ | refine Kept.drew ?_ | refine Kept.drewN ?_ _ | refine Kept.set ?_ (by first | (simp; done) | (simp; omega) | omega) _)))⟩
        · skip
          replace x_l := x.lt
          replace x_0 := x.at 0 _ rfl
          replace x_f0 := x.free 0
          replace x_1 := x.at 1 _ rfl
          replace x_f1 := x.free 1
          go_wp2_with fail
          refine with_eq ?_
          intro X eX
          have hsz := hk.size
          replace hk := (eX ▸ (by first | ((repeat (first | with_reducible exact hk | with_reducible refine Kept.alloc ?_ _ | with_reducible refine Kept.drew ?_ | with_reducible refine Kept.drewN ?_ _ | with_reducible refine Kept.set ?_ (by first | (simp; done) | (simp; omega) | omega) _)); done) | exact hk | exact (hk.alloc _) | exact ((hk.alloc _).alloc _) | exact (((hk.alloc _).alloc _).alloc _) | exact ((((hk.alloc _).alloc _).alloc _).alloc _) | exact (((((hk.alloc _).alloc _).alloc _).alloc _).alloc _) | exact ((((((hk.alloc _).alloc _).alloc _).alloc _).alloc _).alloc _) | (repeat (first | exact hk | refine Kept.alloc ?_ _ | refine Kept.drew ?_ | refine Kept.drewN ?_ _ | refine Kept.set ?_ (by first | (simp; done) | (simp; omega) | omega) _))) : Kept w X)
          replace o := o.same (X := X) (by rw [eX]; repeat (first | with_reducible rfl | with_reducible refine (Below.heap_setCell _ _ _ _ (by first | omega | (simp; done) | (simp; omega))).trans ?_ | with_reducible refine (heap_drew_ _ _).trans ?_ | with_reducible refine (heap_drewN_ _ _ _).trans ?_))
          replace x : Own X _ _ #[.int .i64 2, .int .i64 (-D)] := eX ▸ (((x.set 1 _)).is (by rfl))
          clear eX
          go_wp2_with fail
          refine (HS.out _).mono ?_
          rintro e w1 ⟨rfl, hn⟩
          replace hk := hk.trans hn
          replace o := o.kept hn
          replace x := x.kept hn
          clear hn
          replace o_l := o.lt
          replace o_0 := o.at 0 _ rfl
          replace o_f0 := o.free 0
          replace o_1 := o.at 1 _ rfl
          replace o_f1 := o.free 1
          replace x_l := x.lt
          replace x_0 := x.at 0 _ rfl
          replace x_f0 := x.free 0
          replace x_1 := x.at 1 _ rfl
          replace x_f1 := x.free 1
          go_wp2
          exact bodyPost_ret (v := .tuple #[lenV 0 0, .int .i64 800]) (by simp [results, Tryd.results64, go_sem, o_0, o_1, x_0, x_1, o_l, x_l]) rfl ⟨by first | (rw [Hs.out]; done) | rfl, (by first | ((repeat (first | with_reducible exact hk | with_reducible refine Kept.alloc ?_ _ | with_reducible refine Kept.drew ?_ | with_reducible refine Kept.drewN ?_ _ | with_reducible refine Kept.set ?_ (by first | (simp; done) | (simp; omega) | omega) _)); done) | exact hk | exact (hk.alloc _) | exact ((hk.alloc _).alloc _) | exact (((hk.alloc _).alloc _).alloc _) | exact ((((hk.alloc _).alloc _).alloc _).alloc _) | exact (((((hk.alloc _).alloc _).alloc _).alloc _).alloc _) | exact ((((((hk.alloc _).alloc _).alloc _).alloc _).alloc _).alloc _) | (repeat (first | exact hk | refine Kept.alloc ?_ _ | refine Kept.drew ?_ | refine Kept.drewN ?_ _ | refine Kept.set ?_ (by first | (simp; done) | (simp; omega) | omega) _)))⟩
      · skip
        generalize lenT 2 (-D) = T at *
        have Hs := Lib.hid ((show checkS s (2, -digV u (six u)) = checkS s (2, (-D)) from by rw [HV.out]).trans h3)
        have HS := Lib.hid (fun wx => refShow_is 2 (-D) _ _ wx h1)
        clear h1 h3
        clear hV
        rcases hex with ⟨hi1, hi2⟩ | hi1
        · skip
          replace x_l := x.lt
          replace x_0 := x.at 0 _ rfl
          replace x_f0 := x.free 0
          replace x_1 := x.at 1 _ rfl
          replace x_f1 := x.free 1
          go_wp2_with fail
          refine with_eq ?_
          intro X eX
          have hsz := hk.size
          replace hk := (eX ▸ (by first | ((repeat (first | with_reducible exact hk | with_reducible refine Kept.alloc ?_ _ | with_reducible refine Kept.drew ?_ | with_reducible refine Kept.drewN ?_ _ | with_reducible refine Kept.set ?_ (by first | (simp; done) | (simp; omega) | omega) _)); done) | exact hk | exact (hk.alloc _) | exact ((hk.alloc _).alloc _) | exact (((hk.alloc _).alloc _).alloc _) | exact ((((hk.alloc _).alloc _).alloc _).alloc _) | exact (((((hk.alloc _).alloc _).alloc _).alloc _).alloc _) | exact ((((((hk.alloc _).alloc _).alloc _).alloc _).alloc _).alloc _) | (repeat (first | exact hk | refine Kept.alloc ?_ _ | refine Kept.drew ?_ | refine Kept.drewN ?_ _ | refine Kept.set ?_ (by first | (simp; done) | (simp; omega) | omega) _))) : Kept w X)
          replace o := o.same (X := X) (by rw [eX]; repeat (first | with_reducible rfl | with_reducible refine (Below.heap_setCell _ _ _ _ (by first | omega | (simp; done) | (simp; omega))).trans ?_ | with_reducible refine (heap_drew_ _ _).trans ?_ | with_reducible refine (heap_drewN_ _ _ _).trans ?_))
          replace x : Own X _ _ #[.int .i64 2, .int .i64 (-D)] := eX ▸ (((x.set 1 _)).is (by rfl))
          clear eX
          go_wp2_with fail
          refine (HS.out _).mono ?_
          rintro e w1 ⟨rfl, hn⟩
          replace hk := hk.trans hn
          replace o := o.kept hn
          replace x := x.kept hn
          clear hn
          replace o_l := o.lt
          replace o_0 := o.at 0 _ rfl
          replace o_f0 := o.free 0
          replace o_1 := o.at 1 _ rfl
          replace o_f1 := o.free 1
          replace x_l := x.lt
          replace x_0 := x.at 0 _ rfl
          replace x_f0 := x.free 0
          replace x_1 := x.at 1 _ rfl
          replace x_f1 := x.free 1
          go_wp2
          exact bodyPost_ret (v := .tuple #[lenV 2 (-D), .int .i64 0]) (by simp [results, Tryd.results64, go_sem, o_0, o_1, x_0, x_1, o_l, x_l]) rfl ⟨by first | (rw [Hs.out]; done) | rfl, (by first | ((repeat (first | with_reducible exact hk | with_reducible refine Kept.alloc ?_ _ | with_reducible refine Kept.drew ?_ | with_reducible refine Kept.drewN ?_ _ | with_reducible refine Kept.set ?_ (by first | (simp; done) | (simp; omega) | omega) _)); done) | exact hk | exact (hk.alloc _) | exact ((hk.alloc _).alloc _) | exact (((hk.alloc _).alloc _).alloc _) | exact ((((hk.alloc _).alloc _).alloc _).alloc _) | exact (((((hk.alloc _).alloc _).alloc _).alloc _).alloc _) | exact ((((((hk.alloc _).alloc _).alloc _).alloc _).alloc _).alloc _) | (repeat (first | exact hk | refine Kept.alloc ?_ _ | refine Kept.drew ?_ | refine Kept.drewN ?_ _ | refine Kept.set ?_ (by first | (simp; done) | (simp; omega) | omega) _)))⟩
        · skip
          replace x_l := x.lt
          replace x_0 := x.at 0 _ rfl
          replace x_f0 := x.free 0
          replace x_1 := x.at 1 _ rfl
          replace x_f1 := x.free 1
          go_wp2_with fail
          refine with_eq ?_
          intro X eX
          have hsz := hk.size
          replace hk := (eX ▸ (by first | ((repeat (first | with_reducible exact hk | with_reducible refine Kept.alloc ?_ _ | with_reducible refine Kept.drew ?_ | with_reducible refine Kept.drewN ?_ _ | with_reducible refine Kept.set ?_ (by first | (simp; done) | (simp; omega) | omega) _)); done) | exact hk | exact (hk.alloc _) | exact ((hk.alloc _).alloc _) | exact (((hk.alloc _).alloc _).alloc _) | exact ((((hk.alloc _).alloc _).alloc _).alloc _) | exact (((((hk.alloc _).alloc _).alloc _).alloc _).alloc _) | exact ((((((hk.alloc _).alloc _).alloc _).alloc _).alloc _).alloc _) | (repeat (first | exact hk | refine Kept.alloc ?_ _ | refine Kept.drew ?_ | refine Kept.drewN ?_ _ | refine Kept.set ?_ (by first | (simp; done) | (simp; omega) | omega) _))) : Kept w X)
          replace o := o.same (X := X) (by rw [eX]; repeat (first | with_reducible rfl | with_reducible refine (Below.heap_setCell _ _ _ _ (by first | omega | (simp; done) | (simp; omega))).trans ?_ | with_reducible refine (heap_drew_ _ _).trans ?_ | with_reducible refine (heap_drewN_ _ _ _).trans ?_))
          replace x : Own X _ _ #[.int .i64 2, .int .i64 (-D)] := eX ▸ (((x.set 1 _)).is (by rfl))
          clear eX
          go_wp2_with fail
          refine (HS.out _).mono ?_
          rintro e w1 ⟨rfl, hn⟩
          replace hk := hk.trans hn
          replace o := o.kept hn
          replace x := x.kept hn
          clear hn
          replace o_l := o.lt
          replace o_0 := o.at 0 _ rfl
          replace o_f0 := o.free 0
          replace o_1 := o.at 1 _ rfl
          replace o_f1 := o.free 1
          replace x_l := x.lt
          replace x_0 := x.at 0 _ rfl
          replace x_f0 := x.free 0
          replace x_1 := x.at 1 _ rfl
          replace x_f1 := x.free 1
          go_wp2
          exact bodyPost_ret (v := .tuple #[lenV 2 (-D), .int .i64 0]) (by simp [results, Tryd.results64, go_sem, o_0, o_1, x_0, x_1, o_l, x_l]) rfl ⟨by first | (rw [Hs.out]; done) | rfl, (by first | ((repeat (first | with_reducible exact hk | with_reducible refine Kept.alloc ?_ _ | with_reducible refine Kept.drew ?_ | with_reducible refine Kept.drewN ?_ _ | with_reducible refine Kept.set ?_ (by first | (simp; done) | (simp; omega) | omega) _)); done) | exact hk | exact (hk.alloc _) | exact ((hk.alloc _).alloc _) | exact (((hk.alloc _).alloc _).alloc _) | exact ((((hk.alloc _).alloc _).alloc _).alloc _) | exact (((((hk.alloc _).alloc _).alloc _).alloc _).alloc _) | exact ((((((hk.alloc _).alloc _).alloc _).alloc _).alloc _).alloc _) | (repeat (first | exact hk | refine Kept.alloc ?_ _ | refine Kept.drew ?_ | refine Kept.drewN ?_ _ | refine Kept.set ?_ (by first | (simp; done) | (simp; omega) | omega) _)))⟩
      · skip
        generalize lenT 2 (-D) = T at *
        have Hs := Lib.hid ((show checkS s (2, -digV u (six u)) = checkS s (2, (-D)) from by rw [HV.out]).trans h3)
        have HS := Lib.hid (fun wx => refShow_is 2 (-D) _ _ wx h1)
        clear h1 h3
        clear hV
        rcases hex with ⟨hi1, hi2⟩ | hi1
        · skip
          replace x_l := x.lt
          replace x_0 := x.at 0 _ rfl
          replace x_f0 := x.free 0
          replace x_1 := x.at 1 _ rfl
          replace x_f1 := x.free 1
          go_wp2_with fail
          refine with_eq ?_
          intro X eX
          have hsz := hk.size
          replace hk := (eX ▸ (by first | ((repeat (first | with_reducible exact hk | with_reducible refine Kept.alloc ?_ _ | with_reducible refine Kept.drew ?_ | with_reducible refine Kept.drewN ?_ _ | with_reducible refine Kept.set ?_ (by first | (simp; done) | (simp; omega) | omega) _)); done) | exact hk | exact (hk.alloc _) | exact ((hk.alloc _).alloc _) | exact (((hk.alloc _).alloc _).alloc _) | exact ((((hk.alloc _).alloc _).alloc _).alloc _) | exact (((((hk.alloc _).alloc _).alloc _).alloc _).alloc _) | exact ((((((hk.alloc _).alloc _).alloc _).alloc _).alloc _).alloc _) | (repeat (first | exact hk | refine Kept.alloc ?_ _ | refine Kept.drew ?_ | refine Kept.drewN ?_ _ | refine Kept.set ?_ (by first | (simp; done) | (simp; omega) | omega) _))) : Kept w X)
          replace o := o.same (X := X) (by rw [eX]; repeat (first | with_reducible rfl | with_reducible refine (Below.heap_setCell _ _ _ _ (by first | omega | (simp; done) | (simp; omega))).trans ?_ | with_reducible refine (heap_drew_ _ _).trans ?_ | with_reducible refine (heap_drewN_ _ _ _).trans ?_))
          replace x : Own X _ _ #[.int .i64 2, .int .i64 (-D)] := eX ▸ (((x.set 1 _)).is (by rfl))
          clear eX
          go_wp2_with fail
          refine (HS.out _).mono ?_
          rintro e w1 ⟨rfl, hn⟩
          replace hk := hk.trans hn
          replace o := o.kept hn
          replace x := x.kept hn
          clear hn
          replace o_l := o.lt
          replace o_0 := o.at 0 _ rfl
          replace o_f0 := o.free 0
          replace o_1 := o.at 1 _ rfl
          replace o_f1 := o.free 1
          replace x_l := x.lt
          replace x_0 := x.at 0 _ rfl
          replace x_f0 := x.free 0
          replace x_1 := x.at 1 _ rfl
          replace x_f1 := x.free 1
          go_wp2
          exact bodyPost_ret (v := .tuple #[lenV 0 0, .int .i64 800]) (by simp [results, Tryd.results64, go_sem, o_0, o_1, x_0, x_1, o_l, x_l]) rfl ⟨by first | (rw [Hs.out]; done) | rfl, (by first | ((repeat (first | with_reducible exact hk | with_reducible refine Kept.alloc ?_ _ | with_reducible refine Kept.drew ?_ | with_reducible refine Kept.drewN ?_ _ | with_reducible refine Kept.set ?_ (by first | (simp; done) | (simp; omega) | omega) _)); done) | exact hk | exact (hk.alloc _) | exact ((hk.alloc _).alloc _) | exact (((hk.alloc _).alloc _).alloc _) | exact ((((hk.alloc _).alloc _).alloc _).alloc _) | exact (((((hk.alloc _).alloc _).alloc _).alloc _).alloc _) | exact ((((((hk.alloc _).alloc _).alloc _).alloc _).alloc _).alloc _) | (repeat (first | exact hk | refine Kept.alloc ?_ _ | refine Kept.drew ?_ | refine Kept.drewN ?_ _ | refine Kept.set ?_ (by first | (simp; done) | (simp; omega) | omega) _)))⟩
        · skip
          replace x_l := x.lt
          replace x_0 := x.at 0 _ rfl
          replace x_f0 := x.free 0
          replace x_1 := x.at 1 _ rfl
          replace x_f1 := x.free 1
          go_wp2_with fail
          refine with_eq ?_
          intro X eX
          have hsz := hk.size
          replace hk := (eX ▸ (by first | ((repeat (first | with_reducible exact hk | with_reducible refine Kept.alloc ?_ _ | with_reducible refine Kept.drew ?_ | with_reducible refine Kept.drewN ?_ _ | with_reducible refine Kept.set ?_ (by first | (simp; done) | (simp; omega) | omega) _)); done) | exact hk | exact (hk.alloc _) | exact ((hk.alloc _).alloc _) | exact (((hk.alloc _).alloc _).alloc _) | exact ((((hk.alloc _).alloc _).alloc _).alloc _) | exact (((((hk.alloc _).alloc _).alloc _).alloc _).alloc _) | exact ((((((hk.alloc _).alloc _).alloc _).alloc _).alloc _).alloc _) | (repeat (first | exact hk | refine Kept.alloc ?_ _ | refine Kept.drew ?_ | refine Kept.drewN ?_ _ | refine Kept.set ?_ (by first | (simp; done) | (simp; omega) | omega) _))) : Kept w X)
          replace o := o.same (X := X) (by rw [eX]; repeat (first | with_reducible rfl | with_reducible refine (Below.heap_setCell _ _ _ _ (by first | omega | (simp; done) | (simp; omega))).trans ?_ | with_reducible refine (heap_drew_ _ _).trans ?_ | with_reducible refine (heap_drewN_ _ _ _).trans ?_))
          replace x : Own X _ _ #[.int .i64 2, .int .i64 (-D)] := eX ▸ (((x.set 1 _)).is (by rfl))
          clear eX
          go_wp2_with fail
          refine (HS.out _).mono ?_
          rintro e w1 ⟨rfl, hn⟩
          replace hk := hk.trans hn
          replace o := o.kept hn
          replace x := x.kept hn
          clear hn
          replace o_l := o.lt
          replace o_0 := o.at 0 _ rfl
          replace o_f0 := o.free 0
          replace o_1 := o.at 1 _ rfl
          replace o_f1 := o.free 1
          replace x_l := x.lt
          replace x_0 := x.at 0 _ rfl
          replace x_f0 := x.free 0
          replace x_1 := x.at 1 _ rfl
          replace x_f1 := x.free 1
          go_wp2
          exact bodyPost_ret (v := .tuple #[lenV 0 0, .int .i64 800]) (by simp [results, Tryd.results64, go_sem, o_0, o_1, x_0, x_1, o_l, x_l]) rfl ⟨by first | (rw [Hs.out]; done) | rfl, (by first | ((repeat (first | with_reducible exact hk | with_reducible refine Kept.alloc ?_ _ | with_reducible refine Kept.drew ?_ | with_reducible refine Kept.drewN ?_ _ | with_reducible refine Kept.set ?_ (by first | (simp; done) | (simp; omega) | omega) _)); done) | exact hk | exact (hk.alloc _) | exact ((hk.alloc _).alloc _) | exact (((hk.alloc _).alloc _).alloc _) | exact ((((hk.alloc _).alloc _).alloc _).alloc _) | exact (((((hk.alloc _).alloc _).alloc _).alloc _).alloc _) | exact ((((((hk.alloc _).alloc _).alloc _).alloc _).alloc _).alloc _) | (repeat (first | exact hk | refine Kept.alloc ?_ _ | refine Kept.drew ?_ | refine Kept.drewN ?_ _ | refine Kept.set ?_ (by first | (simp; done) | (simp; omega) | omega) _)))⟩
end Go.Proofs.YtnbagilcbngdcaaDoor
