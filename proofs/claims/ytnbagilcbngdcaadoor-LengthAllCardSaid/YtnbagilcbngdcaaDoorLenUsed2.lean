/- Layer 8: length.Used and the document's. -/
import Derived.Test.YtnbagilcbngdcaaDoorLenUsed
namespace Go.Proofs.YtnbagilcbngdcaaDoor
open Go.RowKit
set_option linter.unusedSimpArgs false
set_option linter.unusedVariables false
set_option maxHeartbeats 2000000
def used8S (k v o a : Int) : Int × Int := if (lenB k v && (mayB o && mayB a)) = true then (if k = 1 then (v, 0) else if k = 2 then percentS v o else (a, 0)) else (0, 800)
theorem unitMay_is (x : Int) (b : Bool) (w : World) (h : mayB x = b) : Calls Tryd.prog 31 #[.int .i64 x] w fun e w' => e = .returned (.bool b) ∧ Kept w w' := h ▸ unitMay_any x w
theorem lenUsed_any (k v o a : Int) (w : World) :
    Calls Tryd.prog 16 #[lenV k v, .int .i64 o, .int .i64 a] w fun e w' => e = .returned (.tuple #[.int .i64 (used8S k v o a).1, .int .i64 (used8S k v o a).2]) ∧ Kept w w' := by
  cases hb : lenB k v with
  | false =>
    have HB := Lib.hid hb
    rw [show used8S k v o a = (0, 800) from if_neg (by rw [hb]; simp)]
    clear hb
    have hk : Kept w w := Kept.refl w
    go_enter Tryd.func16, Tryd.ntmps16
    go_wp2_with fail
    refine with_boxes1 ?_
    intro X hX x
    have hsz := hk.size
    replace hk := hk.trans hX
    clear hX
    replace x_l := x.lt
    replace x_0 := x.at 0 _ rfl
    replace x_1 := x.at 1 _ rfl
    refine (lenMay_is _ _ _ _ HB.out).mono ?_
    rintro e w1 ⟨rfl, hn⟩
    replace hk := hk.trans hn
    replace x := x.kept hn
    clear hn
    replace x_l := x.lt
    replace x_0 := x.at 0 _ rfl
    replace x_1 := x.at 1 _ rfl
    go_wp2
    go_ret2
    exact ⟨rfl, hk⟩
  | true =>
    have HB := Lib.hid hb
    cases ho : mayB o with
    | false =>
      have HO := Lib.hid ho
      rw [show used8S k v o a = (0, 800) from if_neg (by rw [ho]; simp)]
      clear hb ho
      have hk : Kept w w := Kept.refl w
      go_enter Tryd.func16, Tryd.ntmps16
      go_wp2_with fail
      refine with_boxes1 ?_
      intro X hX x
      have hsz := hk.size
      replace hk := hk.trans hX
      clear hX
      replace x_l := x.lt
      replace x_0 := x.at 0 _ rfl
      replace x_1 := x.at 1 _ rfl
      refine (lenMay_is _ _ _ _ HB.out).mono ?_
      rintro e w1 ⟨rfl, hn⟩
      replace hk := hk.trans hn
      replace x := x.kept hn
      clear hn
      replace x_l := x.lt
      replace x_0 := x.at 0 _ rfl
      replace x_1 := x.at 1 _ rfl
      go_wp2_with fail
      refine (unitMay_is _ _ _ HO.out).mono ?_
      rintro e w1 ⟨rfl, hn⟩
      replace hk := hk.trans hn
      replace x := x.kept hn
      clear hn
      replace x_l := x.lt
      replace x_0 := x.at 0 _ rfl
      replace x_1 := x.at 1 _ rfl
      go_wp2
      go_ret2
      exact ⟨rfl, hk⟩
    | true =>
      have HO := Lib.hid ho
      cases ha : mayB a with
      | false =>
        have HA := Lib.hid ha
        rw [show used8S k v o a = (0, 800) from if_neg (by rw [ha]; simp)]
        clear hb ho ha
        have hk : Kept w w := Kept.refl w
        go_enter Tryd.func16, Tryd.ntmps16
        go_wp2_with fail
        refine with_boxes1 ?_
        intro X hX x
        have hsz := hk.size
        replace hk := hk.trans hX
        clear hX
        replace x_l := x.lt
        replace x_0 := x.at 0 _ rfl
        replace x_1 := x.at 1 _ rfl
        refine (lenMay_is _ _ _ _ HB.out).mono ?_
        rintro e w1 ⟨rfl, hn⟩
        replace hk := hk.trans hn
        replace x := x.kept hn
        clear hn
        replace x_l := x.lt
        replace x_0 := x.at 0 _ rfl
        replace x_1 := x.at 1 _ rfl
        go_wp2_with fail
        refine (unitMay_is _ _ _ HO.out).mono ?_
        rintro e w1 ⟨rfl, hn⟩
        replace hk := hk.trans hn
        replace x := x.kept hn
        clear hn
        replace x_l := x.lt
        replace x_0 := x.at 0 _ rfl
        replace x_1 := x.at 1 _ rfl
        go_wp2_with fail
        refine (unitMay_is _ _ _ HA.out).mono ?_
        rintro e w1 ⟨rfl, hn⟩
        replace hk := hk.trans hn
        replace x := x.kept hn
        clear hn
        replace x_l := x.lt
        replace x_0 := x.at 0 _ rfl
        replace x_1 := x.at 1 _ rfl
        go_wp2
        go_ret2
        exact ⟨rfl, hk⟩
      | true =>
        have HA := Lib.hid ha
        rw [show used8S k v o a = _ from if_pos (by rw [hb, ho, ha]; rfl)]
        rcases lenB_kinds hb with ⟨rfl, rfl⟩ | ⟨rfl, v1, v2⟩ | ⟨rfl, v1, v2⟩
        · rw [if_neg (by decide), if_neg (by decide)]
          clear hb ho ha
          have hk : Kept w w := Kept.refl w
          go_enter Tryd.func16, Tryd.ntmps16
          go_wp2_with fail
          refine with_boxes1 ?_
          intro X hX x
          have hsz := hk.size
          replace hk := hk.trans hX
          clear hX
          replace x_l := x.lt
          replace x_0 := x.at 0 _ rfl
          replace x_1 := x.at 1 _ rfl
          refine (lenMay_is _ _ _ _ HB.out).mono ?_
          rintro e w1 ⟨rfl, hn⟩
          replace hk := hk.trans hn
          replace x := x.kept hn
          clear hn
          replace x_l := x.lt
          replace x_0 := x.at 0 _ rfl
          replace x_1 := x.at 1 _ rfl
          go_wp2_with fail
          refine (unitMay_is _ _ _ HO.out).mono ?_
          rintro e w1 ⟨rfl, hn⟩
          replace hk := hk.trans hn
          replace x := x.kept hn
          clear hn
          replace x_l := x.lt
          replace x_0 := x.at 0 _ rfl
          replace x_1 := x.at 1 _ rfl
          go_wp2_with fail
          refine (unitMay_is _ _ _ HA.out).mono ?_
          rintro e w1 ⟨rfl, hn⟩
          replace hk := hk.trans hn
          replace x := x.kept hn
          clear hn
          replace x_l := x.lt
          replace x_0 := x.at 0 _ rfl
          replace x_1 := x.at 1 _ rfl
          go_wp2
          go_ret2
          exact ⟨rfl, hk⟩
        · rw [if_pos rfl]
          clear hb ho ha
          have hk : Kept w w := Kept.refl w
          go_enter Tryd.func16, Tryd.ntmps16
          go_wp2_with fail
          refine with_boxes1 ?_
          intro X hX x
          have hsz := hk.size
          replace hk := hk.trans hX
          clear hX
          replace x_l := x.lt
          replace x_0 := x.at 0 _ rfl
          replace x_1 := x.at 1 _ rfl
          refine (lenMay_is _ _ _ _ HB.out).mono ?_
          rintro e w1 ⟨rfl, hn⟩
          replace hk := hk.trans hn
          replace x := x.kept hn
          clear hn
          replace x_l := x.lt
          replace x_0 := x.at 0 _ rfl
          replace x_1 := x.at 1 _ rfl
          go_wp2_with fail
          refine (unitMay_is _ _ _ HO.out).mono ?_
          rintro e w1 ⟨rfl, hn⟩
          replace hk := hk.trans hn
          replace x := x.kept hn
          clear hn
          replace x_l := x.lt
          replace x_0 := x.at 0 _ rfl
          replace x_1 := x.at 1 _ rfl
          go_wp2_with fail
          refine (unitMay_is _ _ _ HA.out).mono ?_
          rintro e w1 ⟨rfl, hn⟩
          replace hk := hk.trans hn
          replace x := x.kept hn
          clear hn
          replace x_l := x.lt
          replace x_0 := x.at 0 _ rfl
          replace x_1 := x.at 1 _ rfl
          go_wp2
          go_ret2
          exact ⟨rfl, hk⟩
        · rw [if_neg (by decide), if_pos rfl]
          clear hb ho ha
          have hk : Kept w w := Kept.refl w
          go_enter Tryd.func16, Tryd.ntmps16
          go_wp2_with fail
          refine with_boxes1 ?_
          intro X hX x
          have hsz := hk.size
          replace hk := hk.trans hX
          clear hX
          replace x_l := x.lt
          replace x_0 := x.at 0 _ rfl
          replace x_1 := x.at 1 _ rfl
          refine (lenMay_is _ _ _ _ HB.out).mono ?_
          rintro e w1 ⟨rfl, hn⟩
          replace hk := hk.trans hn
          replace x := x.kept hn
          clear hn
          replace x_l := x.lt
          replace x_0 := x.at 0 _ rfl
          replace x_1 := x.at 1 _ rfl
          go_wp2_with fail
          refine (unitMay_is _ _ _ HO.out).mono ?_
          rintro e w1 ⟨rfl, hn⟩
          replace hk := hk.trans hn
          replace x := x.kept hn
          clear hn
          replace x_l := x.lt
          replace x_0 := x.at 0 _ rfl
          replace x_1 := x.at 1 _ rfl
          go_wp2_with fail
          refine (unitMay_is _ _ _ HA.out).mono ?_
          rintro e w1 ⟨rfl, hn⟩
          replace hk := hk.trans hn
          replace x := x.kept hn
          clear hn
          replace x_l := x.lt
          replace x_0 := x.at 0 _ rfl
          replace x_1 := x.at 1 _ rfl
          go_wp2_with fail
          refine (unitPercent_any _ _ _).mono ?_
          rintro e w1 ⟨rfl, hn⟩
          replace hk := hk.trans hn
          replace x := x.kept hn
          clear hn
          replace x_l := x.lt
          replace x_0 := x.at 0 _ rfl
          replace x_1 := x.at 1 _ rfl
          go_wp2
          go_ret2
          exact ⟨rfl, hk⟩
end Go.Proofs.YtnbagilcbngdcaaDoor
