/- Layer 8: awake. -/
import Derived.Test.YtnbagilcbngdcaaDoorLenBack2
import Derived.Test.YtnbagilcbngdcaaDoorLenUsed2
namespace Go.Proofs.YtnbagilcbngdcaaDoor
open Go.RowKit Go.Lib
set_option linter.unusedSimpArgs false
set_option linter.unusedVariables false
set_option maxHeartbeats 1000000
theorem t12 : lenT 1 (-12) = ⟨#[45, 49, 50]⟩ := by
  show (⟨(Lib.itoa (-12)).toArray⟩ : ByteArray) = _
  rw [show Lib.itoa (-12) = 45 :: Lib.decDigits 12 from rfl, Lib.decDigits_two (by decide) (by decide)]
  rfl
theorem t50 : lenT 2 50 = ⟨#[53, 48, 37]⟩ := by
  show (⟨(Lib.itoa 50).toArray⟩ : ByteArray) ++ ⟨#[37]⟩ = _
  rw [show Lib.itoa 50 = Lib.decDigits 50 from rfl, Lib.decDigits_two (by decide) (by decide)]
  exact text_join _ _
theorem t3 : lenT 2 (-3) = ⟨#[45, 51, 37]⟩ := by
  show (⟨(Lib.itoa (-3)).toArray⟩ : ByteArray) ++ ⟨#[37]⟩ = _
  rw [show Lib.itoa (-3) = 45 :: Lib.decDigits 3 from rfl, Lib.decDigits_one (by decide)]
  exact text_join _ _
theorem p12 : parseS ⟨#[45, 49, 50]⟩ = ((1, -12), 0) := t12 ▸ parse_back (k := 1) (v := -12) (by decide)
theorem p50 : parseS ⟨#[53, 48, 37]⟩ = ((2, 50), 0) := t50 ▸ parse_back (k := 2) (v := 50) (by decide)
/-- a text whose candidate is shown otherwise -/
theorem parse_other {s : ByteArray} {x : Int × Int} (hc : candS s = x) (h : lenB x.1 x.2 = true → lenT x.1 x.2 ≠ s) : parseS s = ((0, 0), 800) := by
  unfold parseS
  rw [hc]
  exact if_neg fun hx => h hx.1 (by have := eq_of_beq hx.2; rw [ByteArray.toList_eq, ByteArray.toList_eq] at this; apply ByteArray.ext; exact Array.ext' this)
theorem p01 : parseS ⟨#[48, 49]⟩ = ((0, 0), 800) := by
  have hn : numS ⟨#[48, 49]⟩ = 1 := by
    unfold numS
    show numGo ⟨#[48, 49]⟩ 2 0 1 0 = 1
    rw [numGo_list ⟨#[48, 49]⟩ [48, 49] 2 0 1 0 rfl (by decide) (by decide)]
    decide
  have hp : pctB ⟨#[48, 49]⟩ = false := pct_list [48] 49
  have hc : candS ⟨#[48, 49]⟩ = (1, 1) := by
    unfold candS
    rw [if_neg (by rw [show autoB ⟨#[48, 49]⟩ = false from auto_list 48 [49] (by decide)]; decide), hp, show cutS ⟨#[48, 49]⟩ = ⟨#[48, 49]⟩ from if_neg (by rw [hp]; decide), hn]
    rfl
  refine parse_other hc fun _ h => ?_
  have e : lenT 1 1 = ⟨#[49]⟩ := by
    show (⟨(Lib.itoa 1).toArray⟩ : ByteArray) = _
    rw [show Lib.itoa 1 = Lib.decDigits 1 from rfl, Lib.decDigits_one (by decide)]
    rfl
  have h2 : lenT 1 1 = ⟨#[48, 49]⟩ := h
  rw [e] at h2
  have := congrArg ByteArray.size h2
  exact absurd this (by decide)
theorem parse_is (s : ByteArray) (k v e0 : Int) (w : World) (hn : s.size ≤ 140737488355328) (hp : Pow w) (h : parseS s = ((k, v), e0)) :
    Calls Tryd.prog 14 #[.string s] w fun e w' => e = .returned (.tuple #[lenV k v, .int .i64 e0]) ∧ Kept w w' := by
  have := lenParse_any s w hn hp
  rwa [h] at this
theorem show_is (k v : Int) (t : ByteArray) (e0 : Int) (w : World) (hp : Pow w) (h : showS k v = (t, e0)) :
    Calls Tryd.prog 12 #[lenV k v] w fun e w' => e = .returned (.tuple #[.string t, .int .i64 e0]) ∧ Kept w w' := by
  have := lenShow_any k v w hp
  rwa [h] at this
theorem used_is (k v o a x e0 : Int) (w : World) (h : used8S k v o a = (x, e0)) :
    Calls Tryd.prog 16 #[lenV k v, .int .i64 o, .int .i64 a] w fun e w' => e = .returned (.tuple #[.int .i64 x, .int .i64 e0]) ∧ Kept w w' := by
  have := lenUsed_any k v o a w
  rwa [h] at this
theorem awake8_any (w : World) (hp : Pow w) :
    Calls Tryd.prog 11 #[] w fun e w' => e = .returned (.bool true) ∧ Kept w w' := by
  have H1 := Lib.hid (fun wx (hx : Pow wx) => parse_is _ _ _ _ wx (by decide) hx p12)
  have H2 := Lib.hid (fun wx (hx : Pow wx) => parse_is _ _ _ _ wx (by decide) hx p50)
  have H3 := Lib.hid (fun wx (hx : Pow wx) => show_is 2 (-3) ⟨#[45, 51, 37]⟩ 0 wx hx (by rw [← t3]; exact if_pos (by decide)))
  have H4 := Lib.hid (fun wx (hx : Pow wx) => parse_is _ _ _ _ wx (by decide) hx p01)
  have H5 := Lib.hid (fun wx => used_is 2 50 7 99 3 0 wx (by decide))
  have H6 := Lib.hid (fun wx => used_is 0 0 7 99 99 0 wx (by decide))
  have H7 := Lib.hid (fun wx => used_is 0 1 7 99 0 800 wx (by decide))
  have H8 := Lib.hid (fun wx => lenMay_is 1 (-12) true wx (by decide))
  have hk : Kept w w := Kept.refl w
  go_enter Tryd.func11, Tryd.ntmps11
  go_wp2_with fail
  refine (H1.out _ (hp.kept hk)).mono ?_
  rintro e w1 ⟨rfl, hn⟩
  replace hk := hk.trans hn
  clear hn
  go_wp2_with fail
  refine with_boxes1 ?_
  intro X hX a
  have hsz := hk.size
  replace hk := hk.trans hX
  clear hX
  replace a_l := a.lt
  replace a_0 := a.at 0 _ rfl
  replace a_1 := a.at 1 _ rfl
  refine (H2.out _ (hp.kept hk)).mono ?_
  rintro e w1 ⟨rfl, hn⟩
  replace hk := hk.trans hn
  replace a := a.kept hn
  clear hn
  replace a_l := a.lt
  replace a_0 := a.at 0 _ rfl
  replace a_1 := a.at 1 _ rfl
  go_wp2_with fail
  refine with_boxes1 ?_
  intro X hX b
  have hsz := hk.size
  replace hk := hk.trans hX
  replace a := a.kept hX
  clear hX
  replace a_l := a.lt
  replace a_0 := a.at 0 _ rfl
  replace a_1 := a.at 1 _ rfl
  replace b_l := b.lt
  replace b_0 := b.at 0 _ rfl
  replace b_1 := b.at 1 _ rfl
  refine (H3.out _ (hp.kept hk)).mono ?_
  rintro e w1 ⟨rfl, hn⟩
  replace hk := hk.trans hn
  replace a := a.kept hn
  replace b := b.kept hn
  clear hn
  replace a_l := a.lt
  replace a_0 := a.at 0 _ rfl
  replace a_1 := a.at 1 _ rfl
  replace b_l := b.lt
  replace b_0 := b.at 0 _ rfl
  replace b_1 := b.at 1 _ rfl
  go_wp2_with fail
  refine (H4.out _ (hp.kept hk)).mono ?_
  rintro e w1 ⟨rfl, hn⟩
  replace hk := hk.trans hn
  replace a := a.kept hn
  replace b := b.kept hn
  clear hn
  replace a_l := a.lt
  replace a_0 := a.at 0 _ rfl
  replace a_1 := a.at 1 _ rfl
  replace b_l := b.lt
  replace b_0 := b.at 0 _ rfl
  replace b_1 := b.at 1 _ rfl
  go_wp2_with fail
  refine with_boxes1 ?_
  intro X hX c
  have hsz := hk.size
  replace hk := hk.trans hX
  replace a := a.kept hX
  replace b := b.kept hX
  clear hX
  replace a_l := a.lt
  replace a_0 := a.at 0 _ rfl
  replace a_1 := a.at 1 _ rfl
  replace b_l := b.lt
  replace b_0 := b.at 0 _ rfl
  replace b_1 := b.at 1 _ rfl
  replace c_l := c.lt
  replace c_0 := c.at 0 _ rfl
  replace c_1 := c.at 1 _ rfl
  refine (H5.out _).mono ?_
  rintro e w1 ⟨rfl, hn⟩
  replace hk := hk.trans hn
  replace a := a.kept hn
  replace b := b.kept hn
  replace c := c.kept hn
  clear hn
  replace a_l := a.lt
  replace a_0 := a.at 0 _ rfl
  replace a_1 := a.at 1 _ rfl
  replace b_l := b.lt
  replace b_0 := b.at 0 _ rfl
  replace b_1 := b.at 1 _ rfl
  replace c_l := c.lt
  replace c_0 := c.at 0 _ rfl
  replace c_1 := c.at 1 _ rfl
  go_wp2_with fail
  refine (H6.out _).mono ?_
  rintro e w1 ⟨rfl, hn⟩
  replace hk := hk.trans hn
  replace a := a.kept hn
  replace b := b.kept hn
  replace c := c.kept hn
  clear hn
  replace a_l := a.lt
  replace a_0 := a.at 0 _ rfl
  replace a_1 := a.at 1 _ rfl
  replace b_l := b.lt
  replace b_0 := b.at 0 _ rfl
  replace b_1 := b.at 1 _ rfl
  replace c_l := c.lt
  replace c_0 := c.at 0 _ rfl
  replace c_1 := c.at 1 _ rfl
  go_wp2_with fail
  refine (H7.out _).mono ?_
  rintro e w1 ⟨rfl, hn⟩
  replace hk := hk.trans hn
  replace a := a.kept hn
  replace b := b.kept hn
  replace c := c.kept hn
  clear hn
  replace a_l := a.lt
  replace a_0 := a.at 0 _ rfl
  replace a_1 := a.at 1 _ rfl
  replace b_l := b.lt
  replace b_0 := b.at 0 _ rfl
  replace b_1 := b.at 1 _ rfl
  replace c_l := c.lt
  replace c_0 := c.at 0 _ rfl
  replace c_1 := c.at 1 _ rfl
  go_wp2_with fail
  refine (num_any _ _).mono ?_
  rintro e w1 ⟨rfl, rfl⟩
  go_wp2_with fail
  refine (num_any _ _).mono ?_
  rintro e w1 ⟨rfl, rfl⟩
  go_wp2_with fail
  refine (num_any _ _).mono ?_
  rintro e w1 ⟨rfl, rfl⟩
  go_wp2_with fail
  refine (num_any _ _).mono ?_
  rintro e w1 ⟨rfl, rfl⟩
  go_wp2_with fail
  refine (num_any _ _).mono ?_
  rintro e w1 ⟨rfl, rfl⟩
  go_wp2_with fail
  refine (num_any _ _).mono ?_
  rintro e w1 ⟨rfl, rfl⟩
  go_wp2_with fail
  refine (num_any _ _).mono ?_
  rintro e w1 ⟨rfl, rfl⟩
  go_wp2_with fail
  refine (H8.out _).mono ?_
  rintro e w1 ⟨rfl, hn⟩
  replace hk := hk.trans hn
  replace a := a.kept hn
  replace b := b.kept hn
  replace c := c.kept hn
  clear hn
  replace a_l := a.lt
  replace a_0 := a.at 0 _ rfl
  replace a_1 := a.at 1 _ rfl
  replace b_l := b.lt
  replace b_0 := b.at 0 _ rfl
  replace b_1 := b.at 1 _ rfl
  replace c_l := c.lt
  replace c_0 := c.at 0 _ rfl
  replace c_1 := c.at 1 _ rfl
  go_wp2
  go_ret
  exact ⟨rfl, hk⟩
end Go.Proofs.YtnbagilcbngdcaaDoor
