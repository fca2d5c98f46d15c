/- Layer 9: any property, text, mode: every call. -/
import Derived.Test.YtgofhpalceopiaaDoorRefProp
import Derived.Test.YtgofhpalceopiaaDoorAwake9
namespace Go.Proofs.YtgofhpalceopiaaDoor
open Go.RowKit
set_option linter.unusedSimpArgs false
set_option linter.unusedVariables false
theorem names_both (p : Int) : ∃ (x : ByteArray) (z : Int), (∀ w, TabN w → Calls Tryd.prog 8 #[.int .i64 p] w fun e w' => e = .returned (.tuple #[.string x, .int .i64 z]) ∧ Kept w w') ∧
    (∀ w, Calls Tryd.prog 9 #[.int .i64 p] w fun e w' => e = .returned (.tuple #[.string x, .int .i64 z]) ∧ Kept w w') := by
  cases h : inB 0 28 p with
  | false => exact ⟨_, _, fun w _ => propName_no p h w, fun w => refPropName_no p h w⟩
  | true =>
    obtain ⟨h1, h2⟩ := inB_true.1 h
    obtain ⟨k, rfl⟩ : ∃ k : Nat, p = (k : Int) := ⟨p.toNat, by omega⟩
    exact ⟨_, _, fun w ht => propName_at k (by omega) w ht, fun w => refPropName_at k (by omega) w⟩
set_option maxHeartbeats 2000000 in
theorem props_walk (p : Int) (s : ByteArray) (wm di : Int) (w : World) (ht : TabN w) :
    Calls Tryd.prog 3 #[.int .i64 p, .string s, modeV wm di] w fun e w' => e = .returned (.bool true) ∧ Kept w w' := by
  obtain ⟨x, z, H1, H2⟩ := names_both p
  replace H1 := Lib.hid H1
  replace H2 := Lib.hid H2
  have hk : Kept w w := Kept.refl w
  go_enter Tryd.func3, Tryd.ntmps3
  go_wp2_with fail
  refine with_boxes1 ?_
  intro X hX m
  have hsz := hk.size
  replace hk := hk.trans hX
  clear hX
  replace m_l := m.lt
  replace m_0 := m.at 0 _ rfl
  replace m_1 := m.at 1 _ rfl
  refine (H1.out _ (ht.kept hk)).mono ?_
  rintro e w1 ⟨rfl, hn⟩
  replace hk := hk.trans hn
  replace m := m.kept hn
  clear hn
  replace m_l := m.lt
  replace m_0 := m.at 0 _ rfl
  replace m_1 := m.at 1 _ rfl
  go_wp2_with fail
  refine (H2.out _).mono ?_
  rintro e w1 ⟨rfl, hn⟩
  replace hk := hk.trans hn
  replace m := m.kept hn
  clear hn
  replace m_l := m.lt
  replace m_0 := m.at 0 _ rfl
  replace m_1 := m.at 1 _ rfl
  go_wp2_with fail
  refine (propParse_any _ _ (ht.kept hk)).mono ?_
  rintro e w1 ⟨rfl, hn⟩
  replace hk := hk.trans hn
  replace m := m.kept hn
  clear hn
  replace m_l := m.lt
  replace m_0 := m.at 0 _ rfl
  replace m_1 := m.at 1 _ rfl
  go_wp2_with fail
  refine (refPropOf_any _ _).mono ?_
  rintro e w1 ⟨rfl, hn⟩
  replace hk := hk.trans hn
  replace m := m.kept hn
  clear hn
  replace m_l := m.lt
  replace m_0 := m.at 0 _ rfl
  replace m_1 := m.at 1 _ rfl
  go_wp2_with fail
  refine (propMap_any _ _ _ _ (ht.kept hk).tab).mono ?_
  rintro e w1 ⟨rfl, hn⟩
  replace hk := hk.trans hn
  replace m := m.kept hn
  clear hn
  replace m_l := m.lt
  replace m_0 := m.at 0 _ rfl
  replace m_1 := m.at 1 _ rfl
  go_wp2_with fail
  refine (refMapProp_any _ _ _ _).mono ?_
  rintro e w1 ⟨rfl, hn⟩
  replace hk := hk.trans hn
  replace m := m.kept hn
  clear hn
  replace m_l := m.lt
  replace m_0 := m.at 0 _ rfl
  replace m_1 := m.at 1 _ rfl
  generalize mapS wm di p = M at *
  generalize propOf s = O at *
  go_wp2_with fail
  refine (num_any _ _).mono ?_
  rintro e w1 ⟨rfl, rfl⟩
  go_wp2_with fail
  refine (num_any _ _).mono ?_
  rintro e w1 ⟨rfl, rfl⟩
  go_wp2_with fail
  refine (num_any _ _).mono ?_
  rintro e w1 ⟨rfl, rfl⟩
  go_wp2_with fail
  refine (awake9_any _ (ht.kept hk)).mono ?_
  rintro e w1 ⟨rfl, hn⟩
  replace hk := hk.trans hn
  replace m := m.kept hn
  clear hn
  replace m_l := m.lt
  replace m_0 := m.at 0 _ rfl
  replace m_1 := m.at 1 _ rfl
  go_wp2
  go_ret
  exact ⟨rfl, hk⟩
end Go.Proofs.YtgofhpalceopiaaDoor
