/- Layer 4: advances. -/
import Derived.Test.YtkonpnaedniceaaBoxes
import Derived.Test.YtkonpnaedniceaaNum
import Derived.Laws.RangeString
import Derived.Laws.RangeAny
import Derived.KernelRfl
namespace Go.Proofs.Ytkonpnaedniceaa
open Go.RowKit
set_option linter.unusedSimpArgs false
set_option linter.unusedVariables false
def advS (r : Int) : Int :=
  if r = 32 then 256 else if r = 105 ∨ r = 108 ∨ r = 46 ∨ r = 44 then 192 else if 768 ≤ r ∧ r ≤ 879 then 0 else if r < 0 ∨ 4352 ≤ r then 1024 else 512
theorem glyphSpace_any (r : Int) (w : World) :
    Calls Try.prog 23 #[.int .i32 r] w fun e w' => e = .returned (.bool (r == 32)) ∧ w = w' := by
  go_enter Try.func23, Try.ntmps23
  go_wp2
  go_ret
  exact ⟨rfl, rfl⟩
set_option maxHeartbeats 1000000 in
theorem glyphAdvance_any (r : Int) (w : World) :
    Calls Try.prog 17 #[.int .i32 r] w fun e w' => e = .returned (.int .i64 (advS r)) ∧ w = w' := by
  by_cases c32 : r = 32
  · subst c32
    have Hs := Lib.hid (show advS 32 = 256 by decide)
    go_enter Try.func17, Try.ntmps17
    go_wp2_with (first
      | (go_at_call 23; refine (glyphSpace_any _ _).mono ?_; rintro e w1 ⟨rfl, rfl⟩)
      | fail)
    go_ret
    exact ⟨ret_int (by rw [Hs.out]), rfl⟩
  by_cases c105 : r = 105
  · subst c105
    have Hs := Lib.hid (show advS 105 = 192 by decide)
    go_enter Try.func17, Try.ntmps17
    go_wp2_with (first
      | (go_at_call 23; refine (glyphSpace_any _ _).mono ?_; rintro e w1 ⟨rfl, rfl⟩)
      | fail)
    go_ret
    exact ⟨ret_int (by rw [Hs.out]), rfl⟩
  by_cases c108 : r = 108
  · subst c108
    have Hs := Lib.hid (show advS 108 = 192 by decide)
    go_enter Try.func17, Try.ntmps17
    go_wp2_with (first
      | (go_at_call 23; refine (glyphSpace_any _ _).mono ?_; rintro e w1 ⟨rfl, rfl⟩)
      | fail)
    go_ret
    exact ⟨ret_int (by rw [Hs.out]), rfl⟩
  by_cases c46 : r = 46
  · subst c46
    have Hs := Lib.hid (show advS 46 = 192 by decide)
    go_enter Try.func17, Try.ntmps17
    go_wp2_with (first
      | (go_at_call 23; refine (glyphSpace_any _ _).mono ?_; rintro e w1 ⟨rfl, rfl⟩)
      | fail)
    go_ret
    exact ⟨ret_int (by rw [Hs.out]), rfl⟩
  by_cases c44 : r = 44
  · subst c44
    have Hs := Lib.hid (show advS 44 = 192 by decide)
    go_enter Try.func17, Try.ntmps17
    go_wp2_with (first
      | (go_at_call 23; refine (glyphSpace_any _ _).mono ?_; rintro e w1 ⟨rfl, rfl⟩)
      | fail)
    go_ret
    exact ⟨ret_int (by rw [Hs.out]), rfl⟩
  have n32 : (r == 32) = false := by simp; omega
  have n105 : (r == 105) = false := by simp; omega
  have n108 : (r == 108) = false := by simp; omega
  have n46 : (r == 46) = false := by simp; omega
  have n44 : (r == 44) = false := by simp; omega
  by_cases ha : r < 0
  · have hs : advS r = 1024 := by unfold advS; (repeat' split) <;> omega
    have Hs := Lib.hid hs
    clear hs c32 c105 c108 c46 c44
    go_enter Try.func17, Try.ntmps17
    go_wp2_with (first
      | (go_at_call 23; refine (glyphSpace_any _ _).mono ?_; rintro e w1 ⟨rfl, rfl⟩)
      | fail)
    go_ret
    exact ⟨ret_int (by rw [Hs.out]), rfl⟩
  by_cases hb : 0 ≤ r ∧ r < 768
  · have hs : advS r = 512 := by unfold advS; (repeat' split) <;> omega
    have Hs := Lib.hid hs
    clear hs c32 c105 c108 c46 c44
    obtain ⟨h1, h2⟩ := hb
    go_enter Try.func17, Try.ntmps17
    go_wp2_with (first
      | (go_at_call 23; refine (glyphSpace_any _ _).mono ?_; rintro e w1 ⟨rfl, rfl⟩)
      | fail)
    go_ret
    exact ⟨ret_int (by rw [Hs.out]), rfl⟩
  by_cases hc : 768 ≤ r ∧ r ≤ 879
  · have hs : advS r = 0 := by unfold advS; (repeat' split) <;> omega
    have Hs := Lib.hid hs
    clear hs c32 c105 c108 c46 c44
    obtain ⟨h1, h2⟩ := hc
    go_enter Try.func17, Try.ntmps17
    go_wp2_with (first
      | (go_at_call 23; refine (glyphSpace_any _ _).mono ?_; rintro e w1 ⟨rfl, rfl⟩)
      | fail)
    go_ret
    exact ⟨ret_int (by rw [Hs.out]), rfl⟩
  by_cases hd : 879 < r ∧ r < 4352
  · have hs : advS r = 512 := by unfold advS; (repeat' split) <;> omega
    have Hs := Lib.hid hs
    clear hs c32 c105 c108 c46 c44
    obtain ⟨h1, h2⟩ := hd
    go_enter Try.func17, Try.ntmps17
    go_wp2_with (first
      | (go_at_call 23; refine (glyphSpace_any _ _).mono ?_; rintro e w1 ⟨rfl, rfl⟩)
      | fail)
    go_ret
    exact ⟨ret_int (by rw [Hs.out]), rfl⟩
  have h1 : 4352 ≤ r := by omega
  have hs : advS r = 1024 := by unfold advS; (repeat' split) <;> omega
  have Hs := Lib.hid hs
  clear hs c32 c105 c108 c46 c44 ha hb hc hd
  go_enter Try.func17, Try.ntmps17
  go_wp2_with (first
    | (go_at_call 23; refine (glyphSpace_any _ _).mono ?_; rintro e w1 ⟨rfl, rfl⟩)
    | fail)
  go_ret
  exact ⟨ret_int (by rw [Hs.out]), rfl⟩
set_option maxHeartbeats 1000000 in
theorem refAdvance_any (r : Int) (w : World) :
    Calls Try.prog 37 #[.int .i32 r] w fun e w' => e = .returned (.int .i64 (advS r)) ∧ w = w' := by
  by_cases c32 : r = 32
  · subst c32
    have Hs := Lib.hid (show advS 32 = 256 by decide)
    go_enter Try.func37, Try.ntmps37
    go_wp2
    go_ret
    exact ⟨ret_int (by rw [Hs.out]), rfl⟩
  by_cases c105 : r = 105
  · subst c105
    have Hs := Lib.hid (show advS 105 = 192 by decide)
    go_enter Try.func37, Try.ntmps37
    go_wp2
    go_ret
    exact ⟨ret_int (by rw [Hs.out]), rfl⟩
  by_cases c108 : r = 108
  · subst c108
    have Hs := Lib.hid (show advS 108 = 192 by decide)
    go_enter Try.func37, Try.ntmps37
    go_wp2
    go_ret
    exact ⟨ret_int (by rw [Hs.out]), rfl⟩
  by_cases c46 : r = 46
  · subst c46
    have Hs := Lib.hid (show advS 46 = 192 by decide)
    go_enter Try.func37, Try.ntmps37
    go_wp2
    go_ret
    exact ⟨ret_int (by rw [Hs.out]), rfl⟩
  by_cases c44 : r = 44
  · subst c44
    have Hs := Lib.hid (show advS 44 = 192 by decide)
    go_enter Try.func37, Try.ntmps37
    go_wp2
    go_ret
    exact ⟨ret_int (by rw [Hs.out]), rfl⟩
  have n32 : (r == 32) = false := by simp; omega
  have n105 : (r == 105) = false := by simp; omega
  have n108 : (r == 108) = false := by simp; omega
  have n46 : (r == 46) = false := by simp; omega
  have n44 : (r == 44) = false := by simp; omega
  by_cases ha : r < 0
  · have hs : advS r = 1024 := by unfold advS; (repeat' split) <;> omega
    have Hs := Lib.hid hs
    clear hs c32 c105 c108 c46 c44
    go_enter Try.func37, Try.ntmps37
    go_wp2
    go_ret
    exact ⟨ret_int (by rw [Hs.out]), rfl⟩
  by_cases hb : 0 ≤ r ∧ r < 768
  · have hs : advS r = 512 := by unfold advS; (repeat' split) <;> omega
    have Hs := Lib.hid hs
    clear hs c32 c105 c108 c46 c44
    obtain ⟨h1, h2⟩ := hb
    go_enter Try.func37, Try.ntmps37
    go_wp2
    go_ret
    exact ⟨ret_int (by rw [Hs.out]), rfl⟩
  by_cases hc : 768 ≤ r ∧ r ≤ 879
  · have hs : advS r = 0 := by unfold advS; (repeat' split) <;> omega
    have Hs := Lib.hid hs
    clear hs c32 c105 c108 c46 c44
    obtain ⟨h1, h2⟩ := hc
    go_enter Try.func37, Try.ntmps37
    go_wp2
    go_ret
    exact ⟨ret_int (by rw [Hs.out]), rfl⟩
  by_cases hd : 879 < r ∧ r < 4352
  · have hs : advS r = 512 := by unfold advS; (repeat' split) <;> omega
    have Hs := Lib.hid hs
    clear hs c32 c105 c108 c46 c44
    obtain ⟨h1, h2⟩ := hd
    go_enter Try.func37, Try.ntmps37
    go_wp2
    go_ret
    exact ⟨ret_int (by rw [Hs.out]), rfl⟩
  have h1 : 4352 ≤ r := by omega
  have hs : advS r = 1024 := by unfold advS; (repeat' split) <;> omega
  have Hs := Lib.hid hs
  clear hs c32 c105 c108 c46 c44 ha hb hc hd
  go_enter Try.func37, Try.ntmps37
  go_wp2
  go_ret
  exact ⟨ret_int (by rw [Hs.out]), rfl⟩
def widthF (s : ByteArray) : Nat → Nat → Int → Int
  | 0, _, acc => acc
  | b + 1, pos, acc => if pos < s.size then widthF s b (pos + (Utf8.decode s pos).2) (wrap64 (acc + advS (Utf8.decode s pos).1)) else acc
/-- how wide a text is -/
def widthS (s : ByteArray) : Int := widthF s s.size 0 0
theorem width_pos (s : ByteArray) (pos : Nat) (h : pos < s.size) : 1 ≤ (Utf8.decode s pos).2 := by
  by_cases ha : (s[pos]'h).toNat < 128
  · rw [decode_ascii s pos h ha]
    exact Nat.le_refl _
  · exact (decode_high s pos h (by omega)).2
theorem width_end (s : ByteArray) (b pos : Nat) (acc : Int) (h : ¬ pos < s.size) : widthF s b pos acc = acc := by
  cases b with
  | zero => rfl
  | succ b => simp [widthF, h]
set_option maxRecDepth 1000000 in
set_option maxHeartbeats 1000000 in
theorem refWidth_any (s : ByteArray) (w : World) :
    Calls Try.prog 30 #[.string s] w fun e w' => e = .returned (.int .i64 (widthS s)) ∧ Kept w w' := by
  go_enter Try.func30, Try.ntmps30
  go_wp2
  go_loopw [3] (fun n w' => ∃ (pos b : Nat) (acc : Int), w' = w.iter s pos ∧ n = .int .i64 acc ∧ widthF s b pos acc = widthS s ∧ s.size ≤ pos + b) (fun _ w' => s.size - w'.iterPos w.heap.size)
  case atStart => exact ⟨0, s.size, 0, rfl, rfl, rfl, by omega⟩
  case round =>
    obtain ⟨pos, b, acc, rfl, rfl, hc, hb⟩ := hrel
    have Hc := Lib.hid hc
    clear hc
    by_cases hp : pos < s.size
    · have hnx : ∀ ty, (Instr.next (.pointer (some ⟨w.heap.size, 0, none⟩)) true ty).run Try.prog (w.iter s pos) = _ := fun ty => run_next_any w s pos ty hp
      go_wp2_with (first
        | (go_at_call 37; refine (refAdvance_any _ _).mono ?_; rintro e w1 ⟨rfl, rfl⟩)
        | fail)
      have hwd := width_pos s pos hp
      go_roundw
      case rel =>
        cases b with
        | zero => omega
        | succ b =>
          refine ⟨pos + (Utf8.decode s pos).2, b, _, rfl, rfl, ?_, by omega⟩
          rw [← Hc.out]
          simp [widthF, hp]
      case measure =>
        simp
        omega
    · have hnx : ∀ ty, (Instr.next (.pointer (some ⟨w.heap.size, 0, none⟩)) true ty).run Try.prog (w.iter s pos) = _ := fun ty => run_next_end w s pos ty hp
      go_wp2
      go_ret
      exact ⟨ret_int (by rw [← Hc.out, width_end s b pos acc hp]), (Kept.refl w).alloc _⟩
end Go.Proofs.Ytkonpnaedniceaa
