/- Layer 8: lengths: which may be, how they are shown. -/
import Derived.Test.YtnbagilcbngdcaaDoorMg1
import Derived.Lib.ItoaLen
namespace Go.Proofs.YtnbagilcbngdcaaDoor
open Go.RowKit
set_option linter.unusedSimpArgs false
set_option linter.unusedVariables false
theorem Pow.kept {w w' : World} (h : Pow w) (k : Kept w w') : Pow w' :=
  Lib.tabBelow_of_tabIs h w' k.below
def lenT (k v : Int) : ByteArray := if k = 1 then ⟨(Lib.itoa v).toArray⟩ else if k = 2 then ⟨(Lib.itoa v).toArray⟩ ++ ⟨#[37]⟩ else ⟨#[97, 117, 116, 111]⟩
theorem lenMay_any (k v : Int) (w : World) :
    Calls Tryd.prog 15 #[lenV k v] w fun e w' => e = .returned (.bool (lenB k v)) ∧ Kept w w' := by
  by_cases h0 : k = 0
  · subst h0
    have Hs := Lib.hid (show lenB 0 v = (v == 0) from rfl)
    have hk : Kept w w := Kept.refl w
    go_enter Tryd.func15, Tryd.ntmps15
    go_wp2
    go_ret
    exact ⟨ret_bool (by rw [Hs.out]), (Kept.refl w).alloc _⟩
  by_cases h1 : k = 1
  · subst h1
    have Hs := Lib.hid (show lenB 1 v = inB (-8191) 8191 v from rfl)
    clear h0
    have hk : Kept w w := Kept.refl w
    go_enter Tryd.func15, Tryd.ntmps15
    go_wp2_with fail
    refine with_boxes2 ?_
    intro X hX x l
    have hsz := hk.size
    replace hk := hk.trans hX
    clear hX
    replace x_l := x.lt
    replace x_0 := x.at 0 _ rfl
    replace x_1 := x.at 1 _ rfl
    replace l_l := l.lt
    replace l_0 := l.at 0 _ rfl
    refine (each1_any _ _ _ _ _ l_0).mono ?_
    rintro e w1 ⟨rfl, rfl⟩
    go_wp2
    go_ret
    exact ⟨ret_bool (by rw [Hs.out]), hk⟩
  by_cases h2 : k = 2
  · subst h2
    have Hs := Lib.hid (show lenB 2 v = inB (-100) 100 v from rfl)
    clear h0 h1
    have hk : Kept w w := Kept.refl w
    go_enter Tryd.func15, Tryd.ntmps15
    go_wp2_with fail
    refine with_boxes2 ?_
    intro X hX x l
    have hsz := hk.size
    replace hk := hk.trans hX
    clear hX
    replace x_l := x.lt
    replace x_0 := x.at 0 _ rfl
    replace x_1 := x.at 1 _ rfl
    replace l_l := l.lt
    replace l_0 := l.at 0 _ rfl
    refine (each1_any _ _ _ _ _ l_0).mono ?_
    rintro e w1 ⟨rfl, rfl⟩
    go_wp2
    go_ret
    exact ⟨ret_bool (by rw [Hs.out]), hk⟩
  · have Hs := Lib.hid (show lenB k v = false from by unfold lenB; rw [if_neg h0, if_neg h1, if_neg h2])
    have b0 : (k == 0) = false := by simp [h0]
    have b1 : (k == 1) = false := by simp [h1]
    have b2 : (k == 2) = false := by simp [h2]
    clear h0 h1 h2
    have hk : Kept w w := Kept.refl w
    go_enter Tryd.func15, Tryd.ntmps15
    go_wp2
    go_ret
    exact ⟨ret_bool (by rw [Hs.out]), (Kept.refl w).alloc _⟩
theorem lenB_kinds {k v : Int} (h : lenB k v = true) : (k = 0 ∧ v = 0) ∨ (k = 1 ∧ -8191 ≤ v ∧ v ≤ 8191) ∨ (k = 2 ∧ -100 ≤ v ∧ v ≤ 100) := by
  unfold lenB at h
  by_cases h0 : k = 0
  · rw [if_pos h0] at h; exact .inl ⟨h0, by simpa using h⟩
  · rw [if_neg h0] at h
    by_cases h1 : k = 1
    · rw [if_pos h1] at h; exact .inr (.inl ⟨h1, inB_true.1 h⟩)
    · rw [if_neg h1] at h
      by_cases h2 : k = 2
      · rw [if_pos h2] at h; exact .inr (.inr ⟨h2, inB_true.1 h⟩)
      · rw [if_neg h2] at h; cases h
def showS (k v : Int) : ByteArray × Int := if lenB k v = true then (lenT k v, 0) else (⟨#[]⟩, 800)
theorem lenMay_is (k v : Int) (b : Bool) (w : World) (h : lenB k v = b) :
    Calls Tryd.prog 15 #[lenV k v] w fun e w' => e = .returned (.bool b) ∧ Kept w w' := h ▸ lenMay_any k v w
theorem lenShow_any (k v : Int) (w : World) (hp : Pow w) :
    Calls Tryd.prog 12 #[lenV k v] w fun e w' => e = .returned (.tuple #[.string (showS k v).1, .int .i64 (showS k v).2]) ∧ Kept w w' := by
  cases hb : lenB k v with
  | false =>
    have HB := Lib.hid hb
    rw [show showS k v = (⟨#[]⟩, 800) from if_neg (by rw [hb]; decide)]
    clear hb
    have hk : Kept w w := Kept.refl w
    go_enter Tryd.func12, Tryd.ntmps12
    go_wp2_with fail
    refine with_boxes1 ?_
    intro X hX x
    have hsz := hk.size
    replace hk := hk.trans hX
    clear hX
    replace x_l := x.lt
    replace x_0 := x.at 0 _ rfl
    replace x_1 := x.at 1 _ rfl
    refine (lenMay_is _ _ _ _ HB.out).mono ?_
    rintro e w1 ⟨rfl, hn⟩
    replace hk := hk.trans hn
    replace x := x.kept hn
    clear hn
    replace x_l := x.lt
    replace x_0 := x.at 0 _ rfl
    replace x_1 := x.at 1 _ rfl
    go_wp2
    go_ret2
    exact ⟨rfl, hk⟩
  | true =>
    have HB := Lib.hid hb
    rw [show showS k v = (lenT k v, 0) from if_pos hb]
    rcases lenB_kinds hb with ⟨rfl, rfl⟩ | ⟨rfl, v1, v2⟩ | ⟨rfl, v1, v2⟩
    · rw [show lenT 0 0 = ⟨#[97, 117, 116, 111]⟩ from rfl]
      clear hb
      have hk : Kept w w := Kept.refl w
      go_enter Tryd.func12, Tryd.ntmps12
      go_wp2_with fail
      refine with_boxes1 ?_
      intro X hX x
      have hsz := hk.size
      replace hk := hk.trans hX
      clear hX
      replace x_l := x.lt
      replace x_0 := x.at 0 _ rfl
      replace x_1 := x.at 1 _ rfl
      refine (lenMay_is _ _ _ _ HB.out).mono ?_
      rintro e w1 ⟨rfl, hn⟩
      replace hk := hk.trans hn
      replace x := x.kept hn
      clear hn
      replace x_l := x.lt
      replace x_0 := x.at 0 _ rfl
      replace x_1 := x.at 1 _ rfl
      go_wp2
      go_ret2
      exact ⟨rfl, hk⟩
    · rw [show lenT 1 v = ⟨(Lib.itoa v).toArray⟩ from rfl]
      clear hb
      have hk : Kept w w := Kept.refl w
      go_enter Tryd.func12, Tryd.ntmps12
      go_wp2_with fail
      refine with_boxes1 ?_
      intro X hX x
      have hsz := hk.size
      replace hk := hk.trans hX
      clear hX
      replace x_l := x.lt
      replace x_0 := x.at 0 _ rfl
      replace x_1 := x.at 1 _ rfl
      refine (lenMay_is _ _ _ _ HB.out).mono ?_
      rintro e w1 ⟨rfl, hn⟩
      replace hk := hk.trans hn
      replace x := x.kept hn
      clear hn
      replace x_l := x.lt
      replace x_0 := x.at 0 _ rfl
      replace x_1 := x.at 1 _ rfl
      go_wp2_with fail
      refine (itoa_any v (by omega) (by omega) _ (hp.kept hk)).mono ?_
      rintro e w1 ⟨rfl, hn⟩
      replace hk := hk.trans hn
      replace x := x.kept hn
      clear hn
      replace x_l := x.lt
      replace x_0 := x.at 0 _ rfl
      replace x_1 := x.at 1 _ rfl
      go_wp2
      go_ret2
      exact ⟨rfl, hk⟩
    · rw [show lenT 2 v = ⟨(Lib.itoa v).toArray⟩ ++ ⟨#[37]⟩ from rfl]
      have hsz : (⟨(Lib.itoa v).toArray⟩ : ByteArray).size ≤ 21 := by
        have := Lib.itoa_length_le v (by omega) (by omega)
        show (Lib.itoa v).toArray.size ≤ 21
        simpa using this
      clear hb
      have HI := Lib.hid (fun wx (hx : Pow wx) => itoa_any v (by omega) (by omega) wx hx)
      generalize (⟨(Lib.itoa v).toArray⟩ : ByteArray) = T at *
      have hk : Kept w w := Kept.refl w
      go_enter Tryd.func12, Tryd.ntmps12
      go_wp2_with fail
      refine with_boxes1 ?_
      intro X hX x
      have hsz := hk.size
      replace hk := hk.trans hX
      clear hX
      replace x_l := x.lt
      replace x_0 := x.at 0 _ rfl
      replace x_1 := x.at 1 _ rfl
      refine (lenMay_is _ _ _ _ HB.out).mono ?_
      rintro e w1 ⟨rfl, hn⟩
      replace hk := hk.trans hn
      replace x := x.kept hn
      clear hn
      replace x_l := x.lt
      replace x_0 := x.at 0 _ rfl
      replace x_1 := x.at 1 _ rfl
      go_wp2_with fail
      refine (HI.out _ (hp.kept hk)).mono ?_
      rintro e w1 ⟨rfl, hn⟩
      replace hk := hk.trans hn
      replace x := x.kept hn
      clear hn
      replace x_l := x.lt
      replace x_0 := x.at 0 _ rfl
      replace x_1 := x.at 1 _ rfl
      go_wp2
      go_ret2
      exact ⟨rfl, hk⟩
end Go.Proofs.YtnbagilcbngdcaaDoor
