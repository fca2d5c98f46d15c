/- Layer 8: the document's ShowLength. -/
import Derived.Test.YtnbagilcbngdcaaDoorLenUsed
import Derived.Test.YtnbagilcbngdcaaDoorDecimal
namespace Go.Proofs.YtnbagilcbngdcaaDoor
open Go.RowKit
set_option linter.unusedSimpArgs false
set_option linter.unusedVariables false
set_option maxHeartbeats 400000
theorem text_join (a b : List UInt8) : (⟨a.toArray⟩ : ByteArray) ++ ⟨b.toArray⟩ = ⟨(a ++ b).toArray⟩ := by
  apply ByteArray.ext
  simp
theorem itoa_pos (n : Nat) : Lib.itoa (n : Int) = Lib.decDigits n := by unfold Lib.itoa; rw [if_neg (by omega)]; simp
theorem itoa_neg (n : Nat) (h : 0 < n) : Lib.itoa (-(n : Int)) = 45 :: Lib.decDigits n := by unfold Lib.itoa; rw [if_pos (by omega)]; simp
theorem dec_size (n : Nat) (h : n ≤ 100000) : (⟨(Lib.decDigits n).toArray⟩ : ByteArray).size ≤ 21 := by
  have := Lib.itoa_length_le (n : Int) (by omega) (by omega)
  rw [itoa_pos] at this
  show (Lib.decDigits n).toArray.size ≤ 21
  simpa using this
theorem minus_text (n : Nat) (h : 0 < n) : (⟨(Lib.itoa (-(n : Int))).toArray⟩ : ByteArray) = ⟨#[45]⟩ ++ ⟨(Lib.decDigits n).toArray⟩ := by
  rw [itoa_neg n h]
  exact (text_join [45] (Lib.decDigits n)).symm
theorem refShow_no (k v : Int) (w : World) (hb : lenB k v = false) :
    Calls Tryd.prog 76 #[lenV k v] w fun e w' => e = .returned (.tuple #[.string (showS k v).1, .int .i64 (showS k v).2]) ∧ Kept w w' := by
  have HB := Lib.hid hb
  rw [show showS k v = (⟨#[]⟩, 800) from if_neg (by rw [hb]; decide)]
  clear hb
  have hk : Kept w w := Kept.refl w
  go_enter Tryd.func76, Tryd.ntmps76
  go_wp2_with fail
  refine with_boxes1 ?_
  intro X hX x
  have hsz := hk.size
  replace hk := hk.trans hX
  clear hX
  replace x_l := x.lt
  replace x_0 := x.at 0 _ rfl
  replace x_1 := x.at 1 _ rfl
  refine (refLenMay_is _ _ _ _ HB.out).mono ?_
  rintro e w1 ⟨rfl, hn⟩
  replace hk := hk.trans hn
  replace x := x.kept hn
  clear hn
  replace x_l := x.lt
  replace x_0 := x.at 0 _ rfl
  replace x_1 := x.at 1 _ rfl
  go_wp2
  go_ret2
  exact ⟨rfl, hk⟩
theorem refShow_auto (w : World) :
    Calls Tryd.prog 76 #[lenV 0 0] w fun e w' => e = .returned (.tuple #[.string (showS 0 0).1, .int .i64 (showS 0 0).2]) ∧ Kept w w' := by
  have HB := Lib.hid (show lenB 0 0 = true from rfl)
  rw [show showS 0 0 = (⟨#[97, 117, 116, 111]⟩, 0) from rfl]
  have hk : Kept w w := Kept.refl w
  go_enter Tryd.func76, Tryd.ntmps76
  go_wp2_with fail
  refine with_boxes1 ?_
  intro X hX x
  have hsz := hk.size
  replace hk := hk.trans hX
  clear hX
  replace x_l := x.lt
  replace x_0 := x.at 0 _ rfl
  replace x_1 := x.at 1 _ rfl
  refine (refLenMay_is _ _ _ _ HB.out).mono ?_
  rintro e w1 ⟨rfl, hn⟩
  replace hk := hk.trans hn
  replace x := x.kept hn
  clear hn
  replace x_l := x.lt
  replace x_0 := x.at 0 _ rfl
  replace x_1 := x.at 1 _ rfl
  go_wp2
  go_ret2
  exact ⟨rfl, hk⟩
theorem refShow_1pos (x y : Int) (hw : IntKind.i64.wrap (-x) = y) (hmx : max x y = x) (hng : ¬ x < 0) (T : ByteArray) (hsz : T.size ≤ 21) (w : World) (HB : Hid (lenB 1 x = true))
    (HD : Hid (∀ wx, Calls Tryd.prog 26 #[.int .i64 x] wx fun e w' => e = .returned (.string T) ∧ Kept wx w')) :
    Calls Tryd.prog 76 #[lenV 1 x] w fun e w' => e = .returned (.tuple #[.string (T), .int .i64 0]) ∧ Kept w w' := by
  have hk : Kept w w := Kept.refl w
  go_enter Tryd.func76, Tryd.ntmps76
  go_wp2_with fail
  refine with_boxes1 ?_
  intro X hX x_
  have hsz := hk.size
  replace hk := hk.trans hX
  clear hX
  replace x__l := x_.lt
  replace x__0 := x_.at 0 _ rfl
  replace x__1 := x_.at 1 _ rfl
  refine (refLenMay_is _ _ _ _ HB.out).mono ?_
  rintro e w1 ⟨rfl, hn⟩
  replace hk := hk.trans hn
  replace x_ := x_.kept hn
  clear hn
  replace x__l := x_.lt
  replace x__0 := x_.at 0 _ rfl
  replace x__1 := x_.at 1 _ rfl
  go_wp2_with fail
  refine (HD.out _).mono ?_
  rintro e w1 ⟨rfl, hn⟩
  replace hk := hk.trans hn
  replace x_ := x_.kept hn
  clear hn
  replace x__l := x_.lt
  replace x__0 := x_.at 0 _ rfl
  replace x__1 := x_.at 1 _ rfl
  go_wp2
  go_ret2
  exact ⟨rfl, hk⟩
theorem refShow_1zero (T : ByteArray) (hsz : T.size ≤ 21) (w : World) (HB : Hid (lenB 1 0 = true))
    (HD : Hid (∀ wx, Calls Tryd.prog 26 #[.int .i64 0] wx fun e w' => e = .returned (.string T) ∧ Kept wx w')) :
    Calls Tryd.prog 76 #[lenV 1 0] w fun e w' => e = .returned (.tuple #[.string (T), .int .i64 0]) ∧ Kept w w' := by
  have hk : Kept w w := Kept.refl w
  go_enter Tryd.func76, Tryd.ntmps76
  go_wp2_with fail
  refine with_boxes1 ?_
  intro X hX x_
  have hsz := hk.size
  replace hk := hk.trans hX
  clear hX
  replace x__l := x_.lt
  replace x__0 := x_.at 0 _ rfl
  replace x__1 := x_.at 1 _ rfl
  refine (refLenMay_is _ _ _ _ HB.out).mono ?_
  rintro e w1 ⟨rfl, hn⟩
  replace hk := hk.trans hn
  replace x_ := x_.kept hn
  clear hn
  replace x__l := x_.lt
  replace x__0 := x_.at 0 _ rfl
  replace x__1 := x_.at 1 _ rfl
  go_wp2_with fail
  refine (HD.out _).mono ?_
  rintro e w1 ⟨rfl, hn⟩
  replace hk := hk.trans hn
  replace x_ := x_.kept hn
  clear hn
  replace x__l := x_.lt
  replace x__0 := x_.at 0 _ rfl
  replace x__1 := x_.at 1 _ rfl
  go_wp2
  go_ret2
  exact ⟨rfl, hk⟩
theorem refShow_1neg (x y : Int) (hw : IntKind.i64.wrap (-y) = x) (hmx : max y x = x) (hng : y < 0) (T : ByteArray) (hsz : T.size ≤ 21) (w : World) (HB : Hid (lenB 1 y = true))
    (HD : Hid (∀ wx, Calls Tryd.prog 26 #[.int .i64 x] wx fun e w' => e = .returned (.string T) ∧ Kept wx w')) :
    Calls Tryd.prog 76 #[lenV 1 y] w fun e w' => e = .returned (.tuple #[.string ((⟨#[45]⟩ ++ T)), .int .i64 0]) ∧ Kept w w' := by
  have hk : Kept w w := Kept.refl w
  go_enter Tryd.func76, Tryd.ntmps76
  go_wp2_with fail
  refine with_boxes1 ?_
  intro X hX x_
  have hsz := hk.size
  replace hk := hk.trans hX
  clear hX
  replace x__l := x_.lt
  replace x__0 := x_.at 0 _ rfl
  replace x__1 := x_.at 1 _ rfl
  refine (refLenMay_is _ _ _ _ HB.out).mono ?_
  rintro e w1 ⟨rfl, hn⟩
  replace hk := hk.trans hn
  replace x_ := x_.kept hn
  clear hn
  replace x__l := x_.lt
  replace x__0 := x_.at 0 _ rfl
  replace x__1 := x_.at 1 _ rfl
  go_wp2_with fail
  refine (HD.out _).mono ?_
  rintro e w1 ⟨rfl, hn⟩
  replace hk := hk.trans hn
  replace x_ := x_.kept hn
  clear hn
  replace x__l := x_.lt
  replace x__0 := x_.at 0 _ rfl
  replace x__1 := x_.at 1 _ rfl
  go_wp2
  go_ret2
  exact ⟨rfl, hk⟩
theorem refShow_2pos (x y : Int) (hw : IntKind.i64.wrap (-x) = y) (hmx : max x y = x) (hng : ¬ x < 0) (T : ByteArray) (hsz : T.size ≤ 21) (w : World) (HB : Hid (lenB 2 x = true))
    (HD : Hid (∀ wx, Calls Tryd.prog 26 #[.int .i64 x] wx fun e w' => e = .returned (.string T) ∧ Kept wx w')) :
    Calls Tryd.prog 76 #[lenV 2 x] w fun e w' => e = .returned (.tuple #[.string (T ++ ⟨#[37]⟩), .int .i64 0]) ∧ Kept w w' := by
  have hk : Kept w w := Kept.refl w
  go_enter Tryd.func76, Tryd.ntmps76
  go_wp2_with fail
  refine with_boxes1 ?_
  intro X hX x_
  have hsz := hk.size
  replace hk := hk.trans hX
  clear hX
  replace x__l := x_.lt
  replace x__0 := x_.at 0 _ rfl
  replace x__1 := x_.at 1 _ rfl
  refine (refLenMay_is _ _ _ _ HB.out).mono ?_
  rintro e w1 ⟨rfl, hn⟩
  replace hk := hk.trans hn
  replace x_ := x_.kept hn
  clear hn
  replace x__l := x_.lt
  replace x__0 := x_.at 0 _ rfl
  replace x__1 := x_.at 1 _ rfl
  go_wp2_with fail
  refine (HD.out _).mono ?_
  rintro e w1 ⟨rfl, hn⟩
  replace hk := hk.trans hn
  replace x_ := x_.kept hn
  clear hn
  replace x__l := x_.lt
  replace x__0 := x_.at 0 _ rfl
  replace x__1 := x_.at 1 _ rfl
  go_wp2
  go_ret2
  exact ⟨rfl, hk⟩
theorem refShow_2zero (T : ByteArray) (hsz : T.size ≤ 21) (w : World) (HB : Hid (lenB 2 0 = true))
    (HD : Hid (∀ wx, Calls Tryd.prog 26 #[.int .i64 0] wx fun e w' => e = .returned (.string T) ∧ Kept wx w')) :
    Calls Tryd.prog 76 #[lenV 2 0] w fun e w' => e = .returned (.tuple #[.string (T ++ ⟨#[37]⟩), .int .i64 0]) ∧ Kept w w' := by
  have hk : Kept w w := Kept.refl w
  go_enter Tryd.func76, Tryd.ntmps76
  go_wp2_with fail
  refine with_boxes1 ?_
  intro X hX x_
  have hsz := hk.size
  replace hk := hk.trans hX
  clear hX
  replace x__l := x_.lt
  replace x__0 := x_.at 0 _ rfl
  replace x__1 := x_.at 1 _ rfl
  refine (refLenMay_is _ _ _ _ HB.out).mono ?_
  rintro e w1 ⟨rfl, hn⟩
  replace hk := hk.trans hn
  replace x_ := x_.kept hn
  clear hn
  replace x__l := x_.lt
  replace x__0 := x_.at 0 _ rfl
  replace x__1 := x_.at 1 _ rfl
  go_wp2_with fail
  refine (HD.out _).mono ?_
  rintro e w1 ⟨rfl, hn⟩
  replace hk := hk.trans hn
  replace x_ := x_.kept hn
  clear hn
  replace x__l := x_.lt
  replace x__0 := x_.at 0 _ rfl
  replace x__1 := x_.at 1 _ rfl
  go_wp2
  go_ret2
  exact ⟨rfl, hk⟩
theorem refShow_2neg (x y : Int) (hw : IntKind.i64.wrap (-y) = x) (hmx : max y x = x) (hng : y < 0) (T : ByteArray) (hsz : T.size ≤ 21) (w : World) (HB : Hid (lenB 2 y = true))
    (HD : Hid (∀ wx, Calls Tryd.prog 26 #[.int .i64 x] wx fun e w' => e = .returned (.string T) ∧ Kept wx w')) :
    Calls Tryd.prog 76 #[lenV 2 y] w fun e w' => e = .returned (.tuple #[.string ((⟨#[45]⟩ ++ T) ++ ⟨#[37]⟩), .int .i64 0]) ∧ Kept w w' := by
  have hk : Kept w w := Kept.refl w
  go_enter Tryd.func76, Tryd.ntmps76
  go_wp2_with fail
  refine with_boxes1 ?_
  intro X hX x_
  have hsz := hk.size
  replace hk := hk.trans hX
  clear hX
  replace x__l := x_.lt
  replace x__0 := x_.at 0 _ rfl
  replace x__1 := x_.at 1 _ rfl
  refine (refLenMay_is _ _ _ _ HB.out).mono ?_
  rintro e w1 ⟨rfl, hn⟩
  replace hk := hk.trans hn
  replace x_ := x_.kept hn
  clear hn
  replace x__l := x_.lt
  replace x__0 := x_.at 0 _ rfl
  replace x__1 := x_.at 1 _ rfl
  go_wp2_with fail
  refine (HD.out _).mono ?_
  rintro e w1 ⟨rfl, hn⟩
  replace hk := hk.trans hn
  replace x_ := x_.kept hn
  clear hn
  replace x__l := x_.lt
  replace x__0 := x_.at 0 _ rfl
  replace x__1 := x_.at 1 _ rfl
  go_wp2
  go_ret2
  exact ⟨rfl, hk⟩
theorem refShow_any (k v : Int) (w : World) :
    Calls Tryd.prog 76 #[lenV k v] w fun e w' => e = .returned (.tuple #[.string (showS k v).1, .int .i64 (showS k v).2]) ∧ Kept w w' := by
  cases hb : lenB k v with
  | false => exact refShow_no k v w hb
  | true =>
    have hs : showS k v = (lenT k v, 0) := if_pos hb
    rcases lenB_kinds hb with ⟨rfl, rfl⟩ | ⟨rfl, v1, v2⟩ | ⟨rfl, v1, v2⟩
    · exact refShow_auto w
    · rcases (by omega : v = 0 ∨ 0 < v ∨ v < 0) with rfl | h | h
      · rw [hs, show lenT 1 0 = ⟨(Lib.decDigits 0).toArray⟩ from by unfold lenT; simp [show Lib.itoa 0 = Lib.decDigits 0 from itoa_pos 0]]
        exact refShow_1zero _ (dec_size 0 (by omega)) w (Lib.hid hb) (Lib.hid fun wx => decimal_any 0 (by omega) wx)
      · obtain ⟨n, rfl⟩ := Int.eq_ofNat_of_zero_le (show 0 ≤ v by omega)
        rw [hs, show lenT 1 (n : Int) = ⟨(Lib.decDigits n).toArray⟩ from by unfold lenT; simp [itoa_pos]]
        exact refShow_1pos _ (-(n : Int)) (by rw [IntKind.wrap_i64]; omega) (by omega) (by omega) _ (dec_size n (by omega)) w (Lib.hid hb) (Lib.hid fun wx => decimal_any n (by omega) wx)
      · obtain ⟨n, hn⟩ := Int.eq_ofNat_of_zero_le (show 0 ≤ -v by omega)
        obtain rfl : v = -(n : Int) := by omega
        rw [hs, show lenT 1 (-(n : Int)) = (⟨#[45]⟩ ++ ⟨(Lib.decDigits n).toArray⟩) from by unfold lenT; rw [minus_text n (by omega)]; simp]
        exact refShow_1neg (n : Int) _ (by rw [IntKind.wrap_i64]; omega) (by omega) (by omega) _ (dec_size n (by omega)) w (Lib.hid hb) (Lib.hid fun wx => decimal_any n (by omega) wx)
    · rcases (by omega : v = 0 ∨ 0 < v ∨ v < 0) with rfl | h | h
      · rw [hs, show lenT 2 0 = ⟨(Lib.decDigits 0).toArray⟩ ++ ⟨#[37]⟩ from by unfold lenT; simp [show Lib.itoa 0 = Lib.decDigits 0 from itoa_pos 0]]
        exact refShow_2zero _ (dec_size 0 (by omega)) w (Lib.hid hb) (Lib.hid fun wx => decimal_any 0 (by omega) wx)
      · obtain ⟨n, rfl⟩ := Int.eq_ofNat_of_zero_le (show 0 ≤ v by omega)
        rw [hs, show lenT 2 (n : Int) = ⟨(Lib.decDigits n).toArray⟩ ++ ⟨#[37]⟩ from by unfold lenT; simp [itoa_pos]]
        exact refShow_2pos _ (-(n : Int)) (by rw [IntKind.wrap_i64]; omega) (by omega) (by omega) _ (dec_size n (by omega)) w (Lib.hid hb) (Lib.hid fun wx => decimal_any n (by omega) wx)
      · obtain ⟨n, hn⟩ := Int.eq_ofNat_of_zero_le (show 0 ≤ -v by omega)
        obtain rfl : v = -(n : Int) := by omega
        rw [hs, show lenT 2 (-(n : Int)) = (⟨#[45]⟩ ++ ⟨(Lib.decDigits n).toArray⟩) ++ ⟨#[37]⟩ from by unfold lenT; rw [minus_text n (by omega)]; simp]
        exact refShow_2neg (n : Int) _ (by rw [IntKind.wrap_i64]; omega) (by omega) (by omega) _ (dec_size n (by omega)) w (Lib.hid hb) (Lib.hid fun wx => decimal_any n (by omega) wx)
end Go.Proofs.YtnbagilcbngdcaaDoor
