/- Layer 8: what is shown is read back, and a text that is one is shown as it stood. -/
import Derived.Test.YtnbagilcbngdcaaDoorAwake8
namespace Go.Proofs.YtnbagilcbngdcaaDoor
open Go.RowKit Go.Lib
set_option linter.unusedSimpArgs false
set_option linter.unusedVariables false
set_option maxHeartbeats 1000000
theorem lenBack_00 (k v : Int) (s T : ByteArray) (w : World) (hp : Pow w)
    (HS : Hid (∀ wx, Pow wx → Calls Tryd.prog 12 #[lenV k v] wx fun e w' => e = .returned (.tuple #[.string T, .int .i64 800]) ∧ Kept wx w'))
    (HZ : Hid (∀ wx, Pow wx → Calls Tryd.prog 14 #[.string s] wx fun e w' => e = .returned (.tuple #[lenV 0 0, .int .i64 800]) ∧ Kept wx w')) :
    Calls Tryd.prog 3 #[lenV k v, .string s] w fun e w' => e = .returned (.bool true) ∧ Kept w w' := by
  have hk : Kept w w := Kept.refl w
  go_enter Tryd.func3, Tryd.ntmps3
  go_wp2_with fail
  refine with_boxes1 ?_
  intro X hX x
  have hsz := hk.size
  replace hk := hk.trans hX
  clear hX
  replace x_l := x.lt
  replace x_0 := x.at 0 _ rfl
  replace x_1 := x.at 1 _ rfl
  refine (awake8_any _ (hp.kept hk)).mono ?_
  rintro e w1 ⟨rfl, hn⟩
  replace hk := hk.trans hn
  replace x := x.kept hn
  clear hn
  replace x_l := x.lt
  replace x_0 := x.at 0 _ rfl
  replace x_1 := x.at 1 _ rfl
  go_wp2_with fail
  refine (HS.out _ (hp.kept hk)).mono ?_
  rintro e w1 ⟨rfl, hn⟩
  replace hk := hk.trans hn
  replace x := x.kept hn
  clear hn
  replace x_l := x.lt
  replace x_0 := x.at 0 _ rfl
  replace x_1 := x.at 1 _ rfl
  go_wp2_with fail
  refine (num_any _ _).mono ?_
  rintro e w1 ⟨rfl, rfl⟩
  go_wp2_with fail
  refine (HZ.out _ (hp.kept hk)).mono ?_
  rintro e w1 ⟨rfl, hn⟩
  replace hk := hk.trans hn
  replace x := x.kept hn
  clear hn
  replace x_l := x.lt
  replace x_0 := x.at 0 _ rfl
  replace x_1 := x.at 1 _ rfl
  go_wp2_with fail
  refine with_boxes1 ?_
  intro X hX z
  have hsz := hk.size
  replace hk := hk.trans hX
  replace x := x.kept hX
  clear hX
  replace x_l := x.lt
  replace x_0 := x.at 0 _ rfl
  replace x_1 := x.at 1 _ rfl
  replace z_l := z.lt
  replace z_0 := z.at 0 _ rfl
  replace z_1 := z.at 1 _ rfl
  refine (num_any _ _).mono ?_
  rintro e w1 ⟨rfl, rfl⟩
  go_wp2
  go_ret
  exact ⟨rfl, hk⟩
theorem lenBack_01 (k v zk zv : Int) (s T : ByteArray) (w : World) (hp : Pow w)
    (HS : Hid (∀ wx, Pow wx → Calls Tryd.prog 12 #[lenV k v] wx fun e w' => e = .returned (.tuple #[.string T, .int .i64 800]) ∧ Kept wx w'))
    (HZ : Hid (∀ wx, Pow wx → Calls Tryd.prog 14 #[.string s] wx fun e w' => e = .returned (.tuple #[lenV zk zv, .int .i64 0]) ∧ Kept wx w'))
    (HU : Hid (∀ wx, Pow wx → Calls Tryd.prog 12 #[lenV zk zv] wx fun e w' => e = .returned (.tuple #[.string s, .int .i64 0]) ∧ Kept wx w'))
    (HM : Hid (∀ wx, Calls Tryd.prog 15 #[lenV zk zv] wx fun e w' => e = .returned (.bool true) ∧ Kept wx w')) :
    Calls Tryd.prog 3 #[lenV k v, .string s] w fun e w' => e = .returned (.bool true) ∧ Kept w w' := by
  have hk : Kept w w := Kept.refl w
  go_enter Tryd.func3, Tryd.ntmps3
  go_wp2_with fail
  refine with_boxes1 ?_
  intro X hX x
  have hsz := hk.size
  replace hk := hk.trans hX
  clear hX
  replace x_l := x.lt
  replace x_0 := x.at 0 _ rfl
  replace x_1 := x.at 1 _ rfl
  refine (awake8_any _ (hp.kept hk)).mono ?_
  rintro e w1 ⟨rfl, hn⟩
  replace hk := hk.trans hn
  replace x := x.kept hn
  clear hn
  replace x_l := x.lt
  replace x_0 := x.at 0 _ rfl
  replace x_1 := x.at 1 _ rfl
  go_wp2_with fail
  refine (HS.out _ (hp.kept hk)).mono ?_
  rintro e w1 ⟨rfl, hn⟩
  replace hk := hk.trans hn
  replace x := x.kept hn
  clear hn
  replace x_l := x.lt
  replace x_0 := x.at 0 _ rfl
  replace x_1 := x.at 1 _ rfl
  go_wp2_with fail
  refine (num_any _ _).mono ?_
  rintro e w1 ⟨rfl, rfl⟩
  go_wp2_with fail
  refine (HZ.out _ (hp.kept hk)).mono ?_
  rintro e w1 ⟨rfl, hn⟩
  replace hk := hk.trans hn
  replace x := x.kept hn
  clear hn
  replace x_l := x.lt
  replace x_0 := x.at 0 _ rfl
  replace x_1 := x.at 1 _ rfl
  go_wp2_with fail
  refine with_boxes1 ?_
  intro X hX z
  have hsz := hk.size
  replace hk := hk.trans hX
  replace x := x.kept hX
  clear hX
  replace x_l := x.lt
  replace x_0 := x.at 0 _ rfl
  replace x_1 := x.at 1 _ rfl
  replace z_l := z.lt
  replace z_0 := z.at 0 _ rfl
  replace z_1 := z.at 1 _ rfl
  refine (num_any _ _).mono ?_
  rintro e w1 ⟨rfl, rfl⟩
  go_wp2_with fail
  refine (HU.out _ (hp.kept hk)).mono ?_
  rintro e w1 ⟨rfl, hn⟩
  replace hk := hk.trans hn
  replace x := x.kept hn
  replace z := z.kept hn
  clear hn
  replace x_l := x.lt
  replace x_0 := x.at 0 _ rfl
  replace x_1 := x.at 1 _ rfl
  replace z_l := z.lt
  replace z_0 := z.at 0 _ rfl
  replace z_1 := z.at 1 _ rfl
  go_wp2_with fail
  refine (num_any _ _).mono ?_
  rintro e w1 ⟨rfl, rfl⟩
  go_wp2_with fail
  refine (HM.out _).mono ?_
  rintro e w1 ⟨rfl, hn⟩
  replace hk := hk.trans hn
  replace x := x.kept hn
  replace z := z.kept hn
  clear hn
  replace x_l := x.lt
  replace x_0 := x.at 0 _ rfl
  replace x_1 := x.at 1 _ rfl
  replace z_l := z.lt
  replace z_0 := z.at 0 _ rfl
  replace z_1 := z.at 1 _ rfl
  go_wp2
  go_ret
  exact ⟨rfl, hk⟩
theorem lenBack_10 (k v : Int) (s T : ByteArray) (w : World) (hp : Pow w)
    (HS : Hid (∀ wx, Pow wx → Calls Tryd.prog 12 #[lenV k v] wx fun e w' => e = .returned (.tuple #[.string T, .int .i64 0]) ∧ Kept wx w'))
    (HP : Hid (∀ wx, Pow wx → Calls Tryd.prog 14 #[.string T] wx fun e w' => e = .returned (.tuple #[lenV k v, .int .i64 0]) ∧ Kept wx w'))
    (HZ : Hid (∀ wx, Pow wx → Calls Tryd.prog 14 #[.string s] wx fun e w' => e = .returned (.tuple #[lenV 0 0, .int .i64 800]) ∧ Kept wx w')) :
    Calls Tryd.prog 3 #[lenV k v, .string s] w fun e w' => e = .returned (.bool true) ∧ Kept w w' := by
  have hk : Kept w w := Kept.refl w
  go_enter Tryd.func3, Tryd.ntmps3
  go_wp2_with fail
  refine with_boxes1 ?_
  intro X hX x
  have hsz := hk.size
  replace hk := hk.trans hX
  clear hX
  replace x_l := x.lt
  replace x_0 := x.at 0 _ rfl
  replace x_1 := x.at 1 _ rfl
  refine (awake8_any _ (hp.kept hk)).mono ?_
  rintro e w1 ⟨rfl, hn⟩
  replace hk := hk.trans hn
  replace x := x.kept hn
  clear hn
  replace x_l := x.lt
  replace x_0 := x.at 0 _ rfl
  replace x_1 := x.at 1 _ rfl
  go_wp2_with fail
  refine (HS.out _ (hp.kept hk)).mono ?_
  rintro e w1 ⟨rfl, hn⟩
  replace hk := hk.trans hn
  replace x := x.kept hn
  clear hn
  replace x_l := x.lt
  replace x_0 := x.at 0 _ rfl
  replace x_1 := x.at 1 _ rfl
  go_wp2_with fail
  refine (num_any _ _).mono ?_
  rintro e w1 ⟨rfl, rfl⟩
  go_wp2_with fail
  refine (HP.out _ (hp.kept hk)).mono ?_
  rintro e w1 ⟨rfl, hn⟩
  replace hk := hk.trans hn
  replace x := x.kept hn
  clear hn
  replace x_l := x.lt
  replace x_0 := x.at 0 _ rfl
  replace x_1 := x.at 1 _ rfl
  go_wp2_with fail
  refine with_boxes1 ?_
  intro X hX y
  have hsz := hk.size
  replace hk := hk.trans hX
  replace x := x.kept hX
  clear hX
  replace x_l := x.lt
  replace x_0 := x.at 0 _ rfl
  replace x_1 := x.at 1 _ rfl
  replace y_l := y.lt
  replace y_0 := y.at 0 _ rfl
  replace y_1 := y.at 1 _ rfl
  refine (num_any _ _).mono ?_
  rintro e w1 ⟨rfl, rfl⟩
  go_wp2_with fail
  refine (HZ.out _ (hp.kept hk)).mono ?_
  rintro e w1 ⟨rfl, hn⟩
  replace hk := hk.trans hn
  replace x := x.kept hn
  replace y := y.kept hn
  clear hn
  replace x_l := x.lt
  replace x_0 := x.at 0 _ rfl
  replace x_1 := x.at 1 _ rfl
  replace y_l := y.lt
  replace y_0 := y.at 0 _ rfl
  replace y_1 := y.at 1 _ rfl
  go_wp2_with fail
  refine with_boxes1 ?_
  intro X hX z
  have hsz := hk.size
  replace hk := hk.trans hX
  replace x := x.kept hX
  replace y := y.kept hX
  clear hX
  replace x_l := x.lt
  replace x_0 := x.at 0 _ rfl
  replace x_1 := x.at 1 _ rfl
  replace y_l := y.lt
  replace y_0 := y.at 0 _ rfl
  replace y_1 := y.at 1 _ rfl
  replace z_l := z.lt
  replace z_0 := z.at 0 _ rfl
  replace z_1 := z.at 1 _ rfl
  refine (num_any _ _).mono ?_
  rintro e w1 ⟨rfl, rfl⟩
  go_wp2
  go_ret
  exact ⟨rfl, hk⟩
theorem lenBack_11 (k v zk zv : Int) (s T : ByteArray) (w : World) (hp : Pow w)
    (HS : Hid (∀ wx, Pow wx → Calls Tryd.prog 12 #[lenV k v] wx fun e w' => e = .returned (.tuple #[.string T, .int .i64 0]) ∧ Kept wx w'))
    (HP : Hid (∀ wx, Pow wx → Calls Tryd.prog 14 #[.string T] wx fun e w' => e = .returned (.tuple #[lenV k v, .int .i64 0]) ∧ Kept wx w'))
    (HZ : Hid (∀ wx, Pow wx → Calls Tryd.prog 14 #[.string s] wx fun e w' => e = .returned (.tuple #[lenV zk zv, .int .i64 0]) ∧ Kept wx w'))
    (HU : Hid (∀ wx, Pow wx → Calls Tryd.prog 12 #[lenV zk zv] wx fun e w' => e = .returned (.tuple #[.string s, .int .i64 0]) ∧ Kept wx w'))
    (HM : Hid (∀ wx, Calls Tryd.prog 15 #[lenV zk zv] wx fun e w' => e = .returned (.bool true) ∧ Kept wx w')) :
    Calls Tryd.prog 3 #[lenV k v, .string s] w fun e w' => e = .returned (.bool true) ∧ Kept w w' := by
  have hk : Kept w w := Kept.refl w
  go_enter Tryd.func3, Tryd.ntmps3
  go_wp2_with fail
  refine with_boxes1 ?_
  intro X hX x
  have hsz := hk.size
  replace hk := hk.trans hX
  clear hX
  replace x_l := x.lt
  replace x_0 := x.at 0 _ rfl
  replace x_1 := x.at 1 _ rfl
  refine (awake8_any _ (hp.kept hk)).mono ?_
  rintro e w1 ⟨rfl, hn⟩
  replace hk := hk.trans hn
  replace x := x.kept hn
  clear hn
  replace x_l := x.lt
  replace x_0 := x.at 0 _ rfl
  replace x_1 := x.at 1 _ rfl
  go_wp2_with fail
  refine (HS.out _ (hp.kept hk)).mono ?_
  rintro e w1 ⟨rfl, hn⟩
  replace hk := hk.trans hn
  replace x := x.kept hn
  clear hn
  replace x_l := x.lt
  replace x_0 := x.at 0 _ rfl
  replace x_1 := x.at 1 _ rfl
  go_wp2_with fail
  refine (num_any _ _).mono ?_
  rintro e w1 ⟨rfl, rfl⟩
  go_wp2_with fail
  refine (HP.out _ (hp.kept hk)).mono ?_
  rintro e w1 ⟨rfl, hn⟩
  replace hk := hk.trans hn
  replace x := x.kept hn
  clear hn
  replace x_l := x.lt
  replace x_0 := x.at 0 _ rfl
  replace x_1 := x.at 1 _ rfl
  go_wp2_with fail
  refine with_boxes1 ?_
  intro X hX y
  have hsz := hk.size
  replace hk := hk.trans hX
  replace x := x.kept hX
  clear hX
  replace x_l := x.lt
  replace x_0 := x.at 0 _ rfl
  replace x_1 := x.at 1 _ rfl
  replace y_l := y.lt
  replace y_0 := y.at 0 _ rfl
  replace y_1 := y.at 1 _ rfl
  refine (num_any _ _).mono ?_
  rintro e w1 ⟨rfl, rfl⟩
  go_wp2_with fail
  refine (HZ.out _ (hp.kept hk)).mono ?_
  rintro e w1 ⟨rfl, hn⟩
  replace hk := hk.trans hn
  replace x := x.kept hn
  replace y := y.kept hn
  clear hn
  replace x_l := x.lt
  replace x_0 := x.at 0 _ rfl
  replace x_1 := x.at 1 _ rfl
  replace y_l := y.lt
  replace y_0 := y.at 0 _ rfl
  replace y_1 := y.at 1 _ rfl
  go_wp2_with fail
  refine with_boxes1 ?_
  intro X hX z
  have hsz := hk.size
  replace hk := hk.trans hX
  replace x := x.kept hX
  replace y := y.kept hX
  clear hX
  replace x_l := x.lt
  replace x_0 := x.at 0 _ rfl
  replace x_1 := x.at 1 _ rfl
  replace y_l := y.lt
  replace y_0 := y.at 0 _ rfl
  replace y_1 := y.at 1 _ rfl
  replace z_l := z.lt
  replace z_0 := z.at 0 _ rfl
  replace z_1 := z.at 1 _ rfl
  refine (num_any _ _).mono ?_
  rintro e w1 ⟨rfl, rfl⟩
  go_wp2_with fail
  refine (HU.out _ (hp.kept hk)).mono ?_
  rintro e w1 ⟨rfl, hn⟩
  replace hk := hk.trans hn
  replace x := x.kept hn
  replace y := y.kept hn
  replace z := z.kept hn
  clear hn
  replace x_l := x.lt
  replace x_0 := x.at 0 _ rfl
  replace x_1 := x.at 1 _ rfl
  replace y_l := y.lt
  replace y_0 := y.at 0 _ rfl
  replace y_1 := y.at 1 _ rfl
  replace z_l := z.lt
  replace z_0 := z.at 0 _ rfl
  replace z_1 := z.at 1 _ rfl
  go_wp2_with fail
  refine (num_any _ _).mono ?_
  rintro e w1 ⟨rfl, rfl⟩
  go_wp2_with fail
  refine (HM.out _).mono ?_
  rintro e w1 ⟨rfl, hn⟩
  replace hk := hk.trans hn
  replace x := x.kept hn
  replace y := y.kept hn
  replace z := z.kept hn
  clear hn
  replace x_l := x.lt
  replace x_0 := x.at 0 _ rfl
  replace x_1 := x.at 1 _ rfl
  replace y_l := y.lt
  replace y_0 := y.at 0 _ rfl
  replace y_1 := y.at 1 _ rfl
  replace z_l := z.lt
  replace z_0 := z.at 0 _ rfl
  replace z_1 := z.at 1 _ rfl
  go_wp2
  go_ret
  exact ⟨rfl, hk⟩
theorem lenT_size {k v : Int} (h : lenB k v = true) : (lenT k v).size ≤ 140737488355328 := by
  rcases lenB_kinds h with ⟨rfl, rfl⟩ | ⟨rfl, v1, v2⟩ | ⟨rfl, v1, v2⟩
  · exact by decide
  · have := Lib.itoa_length_le v (by omega) (by omega)
    show (⟨(Lib.itoa v).toArray⟩ : ByteArray).size ≤ _
    rw [size_list]
    omega
  · have := Lib.itoa_length_le v (by omega) (by omega)
    show ((⟨(Lib.itoa v).toArray⟩ : ByteArray) ++ ⟨#[37]⟩).size ≤ _
    rw [show (⟨(Lib.itoa v).toArray⟩ : ByteArray) ++ ⟨#[37]⟩ = ⟨(Lib.itoa v ++ [37]).toArray⟩ from text_join (Lib.itoa v) [37], size_list, List.length_append]
    show _ + 1 ≤ _
    omega
theorem parse_two (s : ByteArray) : parseS s = ((0, 0), 800) ∨ ∃ k v, lenB k v = true ∧ lenT k v = s ∧ parseS s = ((k, v), 0) := by
  by_cases h : ∃ k v, lenB k v = true ∧ lenT k v = s
  · obtain ⟨k, v, h1, h2⟩ := h
    exact .inr ⟨k, v, h1, h2, h2 ▸ parse_back h1⟩
  · exact .inl (check_no (fun k v h1 h2 => h ⟨k, v, h1, h2⟩) _)
theorem lenBack_walk (k v : Int) (s : ByteArray) (hs : s.size ≤ 140737488351232) (w : World) (hp : Pow w) :
    Calls Tryd.prog 3 #[lenV k v, .string s] w fun e w' => e = .returned (.bool true) ∧ Kept w w' := by
  have hz := parse_two s
  cases hb : lenB k v with
  | false =>
    have HS := Lib.hid (fun wx (hx : Pow wx) => show_is k v ⟨#[]⟩ 800 wx hx (if_neg (by rw [hb]; decide)))
    rcases hz with hz | ⟨zk, zv, h1, h2, hz⟩
    · exact lenBack_00 k v s _ w hp HS (Lib.hid fun wx hx => parse_is s 0 0 800 wx (by omega) hx hz)
    · exact lenBack_01 k v zk zv s _ w hp HS (Lib.hid fun wx hx => parse_is s zk zv 0 wx (by omega) hx hz) (Lib.hid fun wx hx => show_is zk zv s 0 wx hx (by rw [← h2]; exact if_pos h1)) (Lib.hid fun wx => lenMay_is zk zv true wx h1)
  | true =>
    have HS := Lib.hid (fun wx (hx : Pow wx) => show_is k v (lenT k v) 0 wx hx (if_pos hb))
    have HP := Lib.hid (fun wx (hx : Pow wx) => parse_is (lenT k v) k v 0 wx (lenT_size hb) hx (parse_back hb))
    rcases hz with hz | ⟨zk, zv, h1, h2, hz⟩
    · exact lenBack_10 k v s _ w hp HS HP (Lib.hid fun wx hx => parse_is s 0 0 800 wx (by omega) hx hz)
    · exact lenBack_11 k v zk zv s _ w hp HS HP (Lib.hid fun wx hx => parse_is s zk zv 0 wx (by omega) hx hz) (Lib.hid fun wx hx => show_is zk zv s 0 wx hx (by rw [← h2]; exact if_pos h1)) (Lib.hid fun wx => lenMay_is zk zv true wx h1)
end Go.Proofs.YtnbagilcbngdcaaDoor
