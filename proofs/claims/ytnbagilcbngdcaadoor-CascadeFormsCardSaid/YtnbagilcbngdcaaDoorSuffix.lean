/- strings.CutSuffix at "%". -/
import Derived.Test.YtnbagilcbngdcaaDoorMg1
namespace Go.Proofs.YtnbagilcbngdcaaDoor
open Go.RowKit
set_option linter.unusedSimpArgs false
set_option linter.unusedVariables false
def pct : ByteArray := ⟨#[37]⟩
theorem hasSuffix_no (s : ByteArray) (hs : s.size = 0) (w : World) :
    Calls Tryd.prog 68 #[.string s, .string ⟨#[37]⟩] w fun e w' => e = .returned (.bool false) ∧ w = w' := by
  go_enter Tryd.func68, Tryd.ntmps68
  go_wp2
  go_ret
  exact ⟨rfl, rfl⟩
theorem hasSuffix_some (s : ByteArray) (n : Nat) (hs : s.size = n + 1) (hn : n + 1 ≤ 140737488355328) (w : World) :
    Calls Tryd.prog 68 #[.string s, .string ⟨#[37]⟩] w fun e w' => e = .returned (.bool ((s.extract n (n + 1)).toList == [37])) ∧ w = w' := by
  go_enter Tryd.func68, Tryd.ntmps68
  go_wp2
  go_ret
  exact ⟨rfl, rfl⟩
def pctB (s : ByteArray) : Bool := decide (0 < s.size) && (s.extract (s.size - 1) s.size).toList == [37]
def cutS (s : ByteArray) : ByteArray := if pctB s = true then s.extract 0 (s.size - 1) else s
theorem hasSuffix_any (s : ByteArray) (hn : s.size ≤ 140737488355328) (w : World) :
    Calls Tryd.prog 68 #[.string s, .string ⟨#[37]⟩] w fun e w' => e = .returned (.bool (pctB s)) ∧ w = w' := by
  rcases Nat.eq_zero_or_pos s.size with h | h
  · rw [show pctB s = false from by unfold pctB; rw [h]; rfl]
    exact hasSuffix_no s h w
  · obtain ⟨n, hs⟩ : ∃ n, s.size = n + 1 := ⟨s.size - 1, by omega⟩
    rw [show pctB s = ((s.extract n (n + 1)).toList == [37]) from by unfold pctB; rw [hs, decide_eq_true (by omega)]; simp]
    exact hasSuffix_some s n hs (by omega) w
theorem hasSuffix_is (s : ByteArray) (hn : s.size ≤ 140737488355328) (b : Bool) (h : pctB s = b) (w : World) :
    Calls Tryd.prog 68 #[.string s, .string ⟨#[37]⟩] w fun e w' => e = .returned (.bool b) ∧ w = w' := h ▸ hasSuffix_any s hn w
theorem cutLite_any (s : ByteArray) (hn : s.size ≤ 140737488355328) (w : World) :
    Calls Tryd.prog 51 #[.string s, .string ⟨#[37]⟩] w fun e w' => e = .returned (.tuple #[.string (cutS s), .bool (pctB s)]) ∧ w = w' := by
  cases hb : pctB s with
  | false =>
    have HB := Lib.hid hb
    rw [show cutS s = s from if_neg (by rw [hb]; decide)]
    clear hb
    go_enter Tryd.func51, Tryd.ntmps51
    go_wp2_with (first
      | (go_at_call 68; refine (hasSuffix_is _ hn _ HB.out _).mono ?_; rintro e w1 ⟨rfl, rfl⟩)
      | fail)
    go_ret2
    exact ⟨rfl, rfl⟩
  | true =>
    have HB := Lib.hid hb
    have h0 : 0 < s.size := by unfold pctB at hb; rw [Bool.and_eq_true] at hb; exact of_decide_eq_true hb.1
    rw [show cutS s = s.extract 0 (s.size - 1) from if_pos hb]
    obtain ⟨n, hs⟩ : ∃ n, s.size = n + 1 := ⟨s.size - 1, by omega⟩
    rw [show s.size - 1 = n by omega]
    have HP := Lib.hid (fun wx => hasSuffix_is s hn _ hb wx)
    rw [hs] at hn
    clear hb h0 HB
    go_enter Tryd.func51, Tryd.ntmps51
    go_wp2_with (first
      | (go_at_call 68; refine (HP.out _).mono ?_; rintro e w1 ⟨rfl, rfl⟩)
      | fail)
    go_ret2
    exact ⟨rfl, rfl⟩
theorem cutSuffix_any (s : ByteArray) (hn : s.size ≤ 140737488355328) (w : World) :
    Calls Tryd.prog 28 #[.string s, .string ⟨#[37]⟩] w fun e w' => e = .returned (.tuple #[.string (cutS s), .bool (pctB s)]) ∧ w = w' := by
  have HP := Lib.hid (fun wx => cutLite_any s hn wx)
  generalize cutS s = t at *
  generalize pctB s = b at *
  go_enter Tryd.func28, Tryd.ntmps28
  go_wp2_with (first
    | (go_at_call 51; refine (HP.out _).mono ?_; rintro e w1 ⟨rfl, rfl⟩)
    | fail)
  go_ret2
  exact ⟨rfl, rfl⟩
end Go.Proofs.YtnbagilcbngdcaaDoor
