/- Layer 8: the document's ParseLength, any text. -/
import Derived.Test.YtnbagilcbngdcaaDoorRefParse2
namespace Go.Proofs.YtnbagilcbngdcaaDoor
open Go.RowKit
set_option linter.unusedSimpArgs false
set_option linter.unusedVariables false
set_option maxHeartbeats 2000000
theorem refParse_auto (s : ByteArray) (w : World) (hs : (s.toList == [97, 117, 116, 111]) = true) :
    Calls Tryd.prog 64 #[.string s] w fun e w' => e = .returned (.tuple #[lenV 0 0, .int .i64 0]) ∧ Kept w w' := by
  have HS := Lib.hid (fun wx => refShow_is 0 0 ⟨#[97, 117, 116, 111]⟩ 0 wx rfl)
  have h1 : (s.toList = [97, 117, 116, 111]) := by simpa using hs
  have hT : (([97, 117, 116, 111] : List UInt8) == s.toList) = true := by rw [h1]; rfl
  have Hs := Lib.hid (rfl : s = s)
  clear h1
  have hk : Kept w w := Kept.refl w
  go_enter Tryd.func64, Tryd.ntmps64
  go_wp2_with fail
  refine with_boxes2 ?_
  intro X hX o x
  have hsz := hk.size
  replace hk := hk.trans hX
  clear hX
  refine (HS.out _).mono ?_
  rintro e w1 ⟨rfl, hn⟩
  replace hk := hk.trans hn
  replace o := o.kept hn
  replace x := x.kept hn
  clear hn
  replace o_l := o.lt
  replace o_0 := o.at 0 _ rfl
  replace o_f0 := o.free 0
  replace o_1 := o.at 1 _ rfl
  replace o_f1 := o.free 1
  replace x_l := x.lt
  replace x_0 := x.at 0 _ rfl
  replace x_f0 := x.free 0
  replace x_1 := x.at 1 _ rfl
  replace x_f1 := x.free 1
  go_wp2
  exact bodyPost_ret (v := .tuple #[lenV 0 0, .int .i64 0]) (by simp [results, Tryd.results64, go_sem, o_0, o_1, x_0, x_1, o_l, x_l]) rfl ⟨by first | (rw [Hs.out]; done) | rfl, (by first | ((repeat (first | with_reducible exact hk | with_reducible refine Kept.alloc ?_ _ | with_reducible refine Kept.drew ?_ | with_reducible refine Kept.drewN ?_ _ | with_reducible refine Kept.set ?_ (by first | (simp; done) | (simp; omega) | omega) _)); done) | exact hk | exact (hk.alloc _) | exact ((hk.alloc _).alloc _) | exact (((hk.alloc _).alloc _).alloc _) | exact ((((hk.alloc _).alloc _).alloc _).alloc _) | exact (((((hk.alloc _).alloc _).alloc _).alloc _).alloc _) | exact ((((((hk.alloc _).alloc _).alloc _).alloc _).alloc _).alloc _) | (repeat (first | exact hk | refine Kept.alloc ?_ _ | refine Kept.drew ?_ | refine Kept.drewN ?_ _ | refine Kept.set ?_ (by first | (simp; done) | (simp; omega) | omega) _)))⟩
theorem pct_at {s : ByteArray} {n : Nat} (h : s.size = n + 1) : pctB s = ((at8 s n : Int) == 37) := by
  unfold pctB
  rw [decide_eq_true (by omega), Bool.true_and, h, Nat.add_sub_cancel]
  have hl : s.data.toList.length = n + 1 := by rw [Array.length_toList]; exact h
  have e : (s.extract n (n + 1)).toList = [s[n]'(by omega)] := by
    rw [ByteArray.toList_eq, Lib.extract_data]
    have hd : s.data.toList.drop n = [s[n]'(by omega)] := by
      rw [List.drop_eq_getElem_cons (by omega), List.drop_of_length_le (by omega)]
      rfl
    rw [hd, show n + 1 - n = 1 by omega]
    rfl
  rw [e, at8_get (by omega)]
  generalize (s[n]'(by omega)) = c
  cases hc : (([c] : List UInt8) == [37]) with
  | true =>
    have : c = 37 := by simpa using hc
    subst this
    rfl
  | false =>
    symm
    have : c ≠ 37 := by simpa using hc
    have hn : c.toNat ≠ 37 := fun h => this (by apply UInt8.toNat_inj.1; exact h)
    simp
    omega
theorem refParse_any (s : ByteArray) (w : World) (hb : s.size ≤ 140737488355328) :
    Calls Tryd.prog 64 #[.string s] w fun e w' => e = .returned (parsedV (parseS s)) ∧ Kept w w' := by
  cases ha : autoB s with
  | true =>
    have h1 : (s.toList = [97, 117, 116, 111]) := by unfold autoB at ha; simpa using ha
    have e : parseS s = ((0, 0), 0) := by
      unfold parseS candS
      rw [if_pos ha]
      exact if_pos ⟨rfl, by rw [h1]; decide +kernel⟩
    rw [e]
    exact refParse_auto s w ha
  | false =>
    have hne : ∀ {t : ByteArray} {m : Nat}, t.size = m + 1 → (t.toList == []) = false := by
      intro t m h
      cases hl : t.toList with
      | nil =>
        rw [ByteArray.toList_eq] at hl
        have : t.data.toList.length = m + 1 := by rw [Array.length_toList]; exact h
        rw [hl] at this
        cases this
      | cons => rfl
    have hem : ∀ {t : ByteArray}, t.size = 0 → t.toList = [] := by
      intro t h
      rw [ByteArray.toList_eq]
      apply List.eq_nil_of_length_eq_zero
      rw [Array.length_toList]
      exact h
    rw [← rcheck]
    unfold rcandS
    rw [if_neg (by rw [ha]; decide)]
    rcases Nat.eq_zero_or_pos s.size with h0 | h0
    · have hp : pctB s = false := by unfold pctB; rw [h0]; rfl
      have hc : cutS s = s := if_neg (by rw [hp]; decide)
      have hm : minB s = false := by unfold minB; rw [h0]; rfl
      have ht : tailS s = s := if_neg (by rw [hm]; decide)
      rw [hc, hp, hm, ht, if_neg (by decide), if_neg (by decide)]
      exact refParse_e s w hb ha (hem h0) h0
    · obtain ⟨n, hn⟩ : ∃ n, s.size = n + 1 := ⟨s.size - 1, by omega⟩
      have hx := fun wx => at8_run (s := s) (i := n) (by omega) wx
      cases hp : pctB s with
      | false =>
        have hc : cutS s = s := if_neg (by rw [hp]; decide)
        have hy := fun wx => at8_run (s := s) (i := 0) (by omega) wx
        rw [hc, if_neg (by decide)]
        cases hm : minB s with
        | false =>
          have ht : tailS s = s := if_neg (by rw [hm]; decide)
          rw [ht, if_neg (by decide)]
          exact refParse_s0 s w hb ha n hn (hne hn) hx (by rw [← pct_at hn]; exact hp) hy (by unfold minB at hm; rw [decide_eq_true h0, Bool.true_and] at hm; exact hm)
        | true =>
          have ht : tailS s = s.extract 1 (n + 1) := by rw [show tailS s = _ from if_pos hm, hn]
          rw [ht, if_pos rfl]
          exact refParse_s1 s w hb ha n hn (hne hn) hx (by rw [← pct_at hn]; exact hp) hy (by unfold minB at hm; rw [decide_eq_true h0, Bool.true_and] at hm; exact hm) _ rfl (by rw [ByteArray.size_extract]; omega)
      | true =>
        have hc : cutS s = s.extract 0 n := by rw [show cutS s = _ from if_pos hp, hn]; rfl
        have hsz : (s.extract 0 n).size = n := by rw [ByteArray.size_extract]; omega
        rw [hc, if_pos rfl]
        rcases Nat.eq_zero_or_pos n with h1 | h1
        · have hz : (s.extract 0 n).size = 0 := by omega
          have hm : minB (s.extract 0 n) = false := by unfold minB; rw [hz]; rfl
          have ht : tailS (s.extract 0 n) = s.extract 0 n := if_neg (by rw [hm]; decide)
          rw [hm, ht, if_neg (by decide)]
          exact refParse_p s w hb ha n hn (hne hn) hx (by rw [← pct_at hn]; exact hp) _ rfl (hem hz) hz
        · obtain ⟨m, hm1⟩ : ∃ m, n = m + 1 := ⟨n - 1, by omega⟩
          have hz : (s.extract 0 n).size = m + 1 := by omega
          have hy := fun wx => at8_run (s := s.extract 0 n) (i := 0) (by omega) wx
          cases hm : minB (s.extract 0 n) with
          | false =>
            have ht : tailS (s.extract 0 n) = s.extract 0 n := if_neg (by rw [hm]; decide)
            rw [ht, if_neg (by decide)]
            exact refParse_p0 s w hb ha n hn (hne hn) hx (by rw [← pct_at hn]; exact hp) _ rfl m hz (hne hz) hy (by unfold minB at hm; rw [decide_eq_true (by omega), Bool.true_and] at hm; exact hm)
          | true =>
            have ht : tailS (s.extract 0 n) = (s.extract 0 n).extract 1 (m + 1) := by rw [show tailS (s.extract 0 n) = _ from if_pos hm, hz]
            rw [ht, if_pos rfl]
            exact refParse_p1 s w hb ha n hn (hne hn) hx (by rw [← pct_at hn]; exact hp) _ rfl m hz (hne hz) hy (by unfold minB at hm; rw [decide_eq_true (by omega), Bool.true_and] at hm; exact hm) _ rfl (by rw [ByteArray.size_extract]; omega)
end Go.Proofs.YtnbagilcbngdcaaDoor
