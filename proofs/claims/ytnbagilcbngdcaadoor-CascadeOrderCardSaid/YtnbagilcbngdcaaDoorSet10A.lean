/- Layer 10: numbers, aligns, and where a style holds a length. -/
import Derived.Test.YtnbagilcbngdcaaDoorSet10S
import Derived.Deep.QuietTactic
import Derived.BigQuiet
namespace Go.Proofs.YtnbagilcbngdcaaDoor
open Go.RowKit
set_option linter.unusedSimpArgs false
set_option linter.unusedVariables false
set_option maxHeartbeats 2000000
theorem parse10_is (s : ByteArray) (k v e0 : Int) (w : World) (hn : s.size ≤ 140737488355328) (hp : Pow w) (h : parseS s = ((k, v), e0)) :
    Calls Tryd.prog 14 #[.string s] w fun e w' => e = .returned (.tuple #[lenV k v, .int .i64 e0]) ∧ Kept w w' := by
  have := lenParse_any s w hn hp
  rwa [h] at this
theorem factor_is (v : ByteArray) (k x E : Int) (b : Bool) (w : World) (hn : v.size ≤ 140737488355328) (hp : Pow w) (h : parseS v = ((k, x), E)) (hb : (E == 0 && k == 1) = b) :
    Calls Tryd.prog 57 #[.string v] w fun e w' => e = .returned (.tuple #[.int .i64 x, .bool b]) ∧ Kept w w' := by
  have H := Lib.hid (fun wx (hx : Pow wx) => parse10_is v k x E wx hn hx h)
  clear h
  cases hE : (E == 0) with
  | false =>
    obtain rfl : b = false := by rw [← hb, hE]; rfl
    clear hb
    have hk : Kept w w := Kept.refl w
    go_enter Tryd.func57, Tryd.ntmps57
    go_wp2_with fail
    refine (H.out _ (hp.kept hk)).mono ?_
    rintro e w1 ⟨rfl, hn⟩
    replace hk := hk.trans hn
    clear hn
    go_wp2_with fail
    refine code_boxes1 ?_
    intro X hX y
    have hsz := hk.size
    replace hk := hk.trans hX
    clear hX
    replace y_l := y.lt
    replace y_0 := y.at 0 _ rfl
    replace y_1 := y.at 1 _ rfl
    go_quiet (fail)
    go_wp2
    go_ret2
    exact ⟨rfl, hk.drewN _⟩
  | true =>
    cases hk1 : (k == 1) with
    | false =>
      obtain rfl : b = false := by rw [← hb, hE, hk1]; rfl
      clear hb
      have hk : Kept w w := Kept.refl w
      go_enter Tryd.func57, Tryd.ntmps57
      go_wp2_with fail
      refine (H.out _ (hp.kept hk)).mono ?_
      rintro e w1 ⟨rfl, hn⟩
      replace hk := hk.trans hn
      clear hn
      go_wp2_with fail
      refine code_boxes1 ?_
      intro X hX y
      have hsz := hk.size
      replace hk := hk.trans hX
      clear hX
      replace y_l := y.lt
      replace y_0 := y.at 0 _ rfl
      replace y_1 := y.at 1 _ rfl
      go_quiet (fail)
      go_wp2
      go_ret2
      exact ⟨rfl, hk.drewN _⟩
    | true =>
      obtain rfl : b = true := by rw [← hb, hE, hk1]; rfl
      clear hb
      have hk : Kept w w := Kept.refl w
      go_enter Tryd.func57, Tryd.ntmps57
      go_wp2_with fail
      refine (H.out _ (hp.kept hk)).mono ?_
      rintro e w1 ⟨rfl, hn⟩
      replace hk := hk.trans hn
      clear hn
      go_wp2_with fail
      refine code_boxes1 ?_
      intro X hX y
      have hsz := hk.size
      replace hk := hk.trans hX
      clear hX
      replace y_l := y.lt
      replace y_0 := y.at 0 _ rfl
      replace y_1 := y.at 1 _ rfl
      go_quiet (fail)
      go_wp2
      go_ret2
      exact ⟨rfl, hk.drewN _⟩
theorem cascadeWord_is (v : ByteArray) (b n c : Nat) (S : Nat → ByteArray) (m : Int) (ok : Bool) (w : World) (h : StrsAt w b n S) (hn : n ≤ 1000) (h1 : max 0 (idxW v S n) = m) (h2 : decide (0 ≤ idxW v S n) = ok) :
    Calls Tryd.prog 59 #[.string v, .slice (some ⟨b, 0, none⟩) n c] w fun e w' => e = .returned (.tuple #[.int .i64 m, .bool ok]) ∧ w = w' := by
  subst h1 h2
  exact cascadeWord_any v b n c S w h hn
theorem textAlign_any (wr di : Int) (v : ByteArray) (w : World) :
    Calls Tryd.prog 58 #[modeV wr di, .string v] w fun e w' => e = .returned (.tuple #[.int .i64 (max 0 (alignS di v)), .bool (decide (0 ≤ alignS di v))]) ∧ Kept w w' := by
  by_cases h : 0 ≤ idxW v (wordsS textW) 4
  · have e : alignS di v = idxW v (wordsS textW) 4 := if_pos h
    rw [e, show decide (0 ≤ idxW v (wordsS textW) 4) = true from decide_eq_true h]
    have H := Lib.hid (fun wx b (hx : StrsAt wx b 4 (wordsS textW)) => cascadeWord_is v b 4 4 (wordsS textW) _ true wx hx (by decide) rfl (decide_eq_true h))
    clear h e
    generalize max 0 (idxW v (wordsS textW) 4) = m at *
    have hk : Kept w w := Kept.refl w
    go_enter Tryd.func58, Tryd.ntmps58
    go_wp2_with fail
    refine with_boxes2 ?_
    intro X hX m t
    have hsz := hk.size
    replace hk := hk.trans hX
    clear hX
    replace m_l := m.lt
    replace m_0 := m.at 0 _ rfl
    replace m_1 := m.at 1 _ rfl
    refine (H.out _ _ (strs_own t textW rfl)).mono ?_
    rintro e w1 ⟨rfl, rfl⟩
    go_wp2
    go_ret2
    exact ⟨rfl, hk⟩
  · have H := Lib.hid (fun wx b (hx : StrsAt wx b 4 (wordsS textW)) => cascadeWord_is v b 4 4 (wordsS textW) _ false wx hx (by decide) rfl (decide_eq_false h))
    generalize max 0 (idxW v (wordsS textW) 4) = z at *
    cases hd : (di == 1) with
    | true =>
      have e : alignS di v = idxW v (wordsS rlW) 2 := by unfold alignS; rw [if_neg h, if_pos (by simpa using hd)]
      rw [e]
      have H2 := Lib.hid (fun wx b (hx : StrsAt wx b 2 (wordsS rlW)) => cascadeWord_is v b 2 2 (wordsS rlW) _ _ wx hx (by decide) rfl rfl)
      clear h e
      generalize max 0 (idxW v (wordsS rlW) 2) = x at *
      generalize decide (0 ≤ idxW v (wordsS rlW) 2) = y at *
      have hk : Kept w w := Kept.refl w
      go_enter Tryd.func58, Tryd.ntmps58
      go_wp2_with fail
      refine with_boxes2 ?_
      intro X hX m t
      have hsz := hk.size
      replace hk := hk.trans hX
      clear hX
      replace m_l := m.lt
      replace m_0 := m.at 0 _ rfl
      replace m_1 := m.at 1 _ rfl
      refine (H.out _ _ (strs_own t textW rfl)).mono ?_
      rintro e w1 ⟨rfl, rfl⟩
      go_wp2_with fail
      refine with_boxes1 ?_
      intro X hX u
      have hsz := hk.size
      replace hk := hk.trans hX
      replace m := m.kept hX
      replace t := t.kept hX
      clear hX
      replace m_l := m.lt
      replace m_0 := m.at 0 _ rfl
      replace m_1 := m.at 1 _ rfl
      refine (H2.out _ _ (strs_own u rlW rfl)).mono ?_
      rintro e w1 ⟨rfl, rfl⟩
      go_wp2
      go_ret2
      exact ⟨rfl, hk⟩
    | false =>
      have e : alignS di v = idxW v (wordsS lrW) 2 := by unfold alignS; rw [if_neg h, if_neg (by simpa using hd)]
      rw [e]
      have H2 := Lib.hid (fun wx b (hx : StrsAt wx b 2 (wordsS lrW)) => cascadeWord_is v b 2 2 (wordsS lrW) _ _ wx hx (by decide) rfl rfl)
      clear h e
      generalize max 0 (idxW v (wordsS lrW) 2) = x at *
      generalize decide (0 ≤ idxW v (wordsS lrW) 2) = y at *
      have hk : Kept w w := Kept.refl w
      go_enter Tryd.func58, Tryd.ntmps58
      go_wp2_with fail
      refine with_boxes2 ?_
      intro X hX m t
      have hsz := hk.size
      replace hk := hk.trans hX
      clear hX
      replace m_l := m.lt
      replace m_0 := m.at 0 _ rfl
      replace m_1 := m.at 1 _ rfl
      refine (H.out _ _ (strs_own t textW rfl)).mono ?_
      rintro e w1 ⟨rfl, rfl⟩
      go_wp2_with fail
      refine with_boxes1 ?_
      intro X hX u
      have hsz := hk.size
      replace hk := hk.trans hX
      replace m := m.kept hX
      replace t := t.kept hX
      clear hX
      replace m_l := m.lt
      replace m_0 := m.at 0 _ rfl
      replace m_1 := m.at 1 _ rfl
      refine (H2.out _ _ (strs_own u lrW rfl)).mono ?_
      rintro e w1 ⟨rfl, rfl⟩
      go_wp2
      go_ret2
      exact ⟨rfl, hk⟩
end Go.Proofs.YtnbagilcbngdcaaDoor
