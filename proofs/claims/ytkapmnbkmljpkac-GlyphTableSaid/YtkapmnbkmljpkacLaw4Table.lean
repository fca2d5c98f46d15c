/- Layer 4: runes at the edges of their kinds. -/
import Derived.Test.YtkapmnbkmljpkacGlyph
import Derived.Test.YtkapmnbkmljpkacMask
import Derived.Deep.QuietTactic
import Derived.BigQuiet
namespace Go.Proofs.Ytkapmnbkmljpkac
open Go.RowKit
set_option linter.unusedSimpArgs false
set_option linter.unusedVariables false
def tabR : List Int := [32, 105, 108, 46, 44, 97, 73, 767, 768, 879, 880, 4351, 4352, 55295, 55296, 57343, 65533, 1114111, 1114112, -1, 0, 9, 160]
def tabW : List Int := [256, 192, 192, 192, 192, 512, 512, 512, 0, 0, 512, 512, 1024, 1024, 1024, 1024, 1024, 1024, 1024, 1024, 512, 512, 512]
theorem tab_ok : ∀ i : Nat, i < 23 → advS (tabR.getD i 0) = tabW.getD i 0 ∧ (tabR.getD i 0 == 32) = ((i : Int) == 0) := by decide
set_option maxRecDepth 100000 in
set_option maxHeartbeats 2000000 in
theorem glyphTable_walk (a : Int) (w : World) :
    Calls Try.prog 3 #[.int .i64 a] w fun e w' => e = .returned (.bool true) ∧ Kept w w' := by
  obtain ⟨i, hi, i1, i2⟩ := urest a 23 (by decide) (by decide)
  obtain ⟨i, rfl⟩ := Int.eq_ofNat_of_zero_le i1
  have hlt : i < 23 := by omega
  obtain ⟨t1, t2⟩ := tab_ok i hlt
  have hk : Kept w w := Kept.refl w
  go_enter Try.func3, Try.ntmps3
  go_wp2_with fail
  refine (awake4_any _).mono ?_
  rintro e w1 ⟨rfl, hn⟩
  replace hk := hk.trans hn
  clear hn
  go_wp2_with fail
  refine code_boxes2 ?_
  intro X hX p q
  replace hk := hk.trans hX
  clear hX
  have p_l := p.lt
  have q_l := q.lt
  have p_i := p.at i (.int .i32 (tabR.getD i 0)) (by
    have h : ∀ i : Nat, i < 23 → (tabR.map (Value.int .i32))[i]? = some (.int .i32 (tabR.getD i 0)) := fun j hj => by simp [List.getD_eq_getElem?_getD, show j < tabR.length from hj]
    exact h i hlt)
  have q_i := q.at i (.int .i64 (tabW.getD i 0)) (by
    have h : ∀ i : Nat, i < 23 → (tabW.map (Value.int .i64))[i]? = some (.int .i64 (tabW.getD i 0)) := fun j hj => by simp [List.getD_eq_getElem?_getD, show j < tabW.length from hj]
    exact h i hlt)
  clear p q
  generalize tabR.getD i 0 = r at *
  generalize tabW.getD i 0 = v at *
  have i3 : (i : Int) < (23 : Int) := i2
  go_quiet (first
    | (go_at_call 10; exact Calls.quiet_of_same ((num_any _ _).mono fun _ _ h => ⟨h.1, h.2.symm⟩))
    | (go_at_call 12; exact Calls.quiet_of_same ((glyphSpace_any _ _).mono fun _ _ h => ⟨h.1, h.2.symm⟩))
    | (go_at_call 11; exact Calls.quiet_of_same ((glyphAdvance_any _ _).mono fun _ _ h => ⟨h.1, h.2.symm⟩)))
  go_wp2
  go_ret
  exact ⟨ret_bool (by simp), (by first | ((repeat (first | with_reducible exact hk | with_reducible refine Kept.alloc ?_ _ | with_reducible refine Kept.drew ?_ | with_reducible refine Kept.drewN ?_ _ | with_reducible refine Kept.set ?_ (by first | (simp; done) | (simp; omega) | omega) _)); done) | exact hk | exact (hk.alloc _) | exact ((hk.alloc _).alloc _) | exact (((hk.alloc _).alloc _).alloc _) | exact ((((hk.alloc _).alloc _).alloc _).alloc _) | exact (((((hk.alloc _).alloc _).alloc _).alloc _).alloc _) | exact ((((((hk.alloc _).alloc _).alloc _).alloc _).alloc _).alloc _) | (repeat (first | exact hk | refine Kept.alloc ?_ _ | refine Kept.drew ?_ | refine Kept.drewN ?_ _ | refine Kept.set ?_ (by first | (simp; done) | (simp; omega) | omega) _)))⟩
end Go.Proofs.Ytkapmnbkmljpkac
