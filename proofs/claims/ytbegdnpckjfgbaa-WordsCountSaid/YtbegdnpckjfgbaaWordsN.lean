/- Layer 5: the longest word; all words in one line. -/
import Derived.Test.YtbegdnpckjfgbaaLend
import Derived.Test.YtbegdnpckjfgbaaGlyph
namespace Go.Proofs.Ytbegdnpckjfgbaa
open Go.RowKit
set_option linter.unusedSimpArgs false
set_option linter.unusedVariables false
def longS (A : Nat → Int) : Nat → Int
  | 0 => 0
  | n + 1 => max (longS A n) (A n)
def totS (A : Nat → Int) : Nat → Int
  | 0 => 0
  | n + 1 => wrap64 (totS A n + (if n = 0 then 0 else 256) + A n)
theorem wordsLongest_none (o : Option Addr) (cap : Nat) (A : Nat → Int) (w : World) :
    Calls Try.prog 20 #[.slice o 0 cap] w fun e w' => e = .returned (.int .i64 (longS A 0)) ∧ Kept w w' := by
  go_enter Try.func20, Try.ntmps20
  go_wp2
  refine wp_loop_rounds 1 ?_
  rw [rounds_succ]
  go_wp2
  go_ret
  exact ⟨rfl, Kept.refl _⟩
set_option maxHeartbeats 2000000 in
theorem wordsLongest_some (b off n cap : Nat) (S : Nat → ByteArray) (A G : Nat → Int) (w : World) (hw : WordsAt w b off n S A G) (hn : n ≤ 4398046510976) :
    Calls Try.prog 20 #[.slice (some ⟨b, off, none⟩) n cap] w fun e w' => e = .returned (.int .i64 (longS A n)) ∧ Kept w w' := by
  have e32 : advS 32 = 256 := by decide
  go_enter Try.func20, Try.ntmps20
  go_wp2
  go_loopw [3, 5, 8] (fun t _ i wx => ∃ k : Nat, k ≤ n ∧ i = .int .i64 k ∧ t = .int .i64 (longS A k) ∧ Kept w wx) (fun _ _ i _ => n - (intOf i).toNat)
  case atStart => exact ⟨0, Nat.zero_le _, rfl, rfl, Kept.refl _⟩
  case round =>
    obtain ⟨k, hk4, rfl, rfl, hk⟩ := hrel
    by_cases hlt : k < n
    · have hi0 : (0 : Int) ≤ (k : Int) := Int.natCast_nonneg _
      have hi1 : (k : Int) < (n : Int) := by omega
      have c0 := (hw.kept hk).text k hlt
      have c1 := (hw.kept hk).adv k hlt
      have c2 := (hw.kept hk).gap k hlt
      have hstep : longS A (k + 1) = max (longS A k) (A k) := rfl
      have HS := Lib.hid hstep
      clear hstep
      generalize longS A k = p at *
      generalize A k = x at *
      rcases (by omega : p < x ∨ (p ≤ x ∧ x ≤ p) ∨ x < p) with h1 | h1 | h1
      all_goals
        go_wp2
        go_roundw
        case rel => exact ⟨k + 1, by omega, by go_num, by rw [HS.out]; congr 1; omega, (hk.alloc _)⟩
        case measure => simp [intOf]; omega
    · obtain rfl : k = n := by omega
      go_wp2
      go_ret
      exact ⟨rfl, hk⟩
theorem wordsLongest_any (v : Value) (n : Nat) (S : Nat → ByteArray) (A G : Nat → Int) (w : World) (h : WV w v n S A G) (hn : n ≤ 4398046510976) :
    Calls Try.prog 20 #[v] w fun e w' => e = .returned (.int .i64 (longS A n)) ∧ Kept w w' := by
  rcases h with ⟨rfl, o, cap, rfl⟩ | ⟨b, off, cap, rfl, h2, h3, hw⟩
  · exact wordsLongest_none o cap A w
  · exact wordsLongest_some b off n cap S A G w hw hn
theorem refLongest_none (o : Option Addr) (cap : Nat) (A : Nat → Int) (w : World) :
    Calls Try.prog 21 #[.slice o 0 cap] w fun e w' => e = .returned (.int .i64 (longS A 0)) ∧ Kept w w' := by
  go_enter Try.func21, Try.ntmps21
  go_wp2
  refine wp_loop_rounds 1 ?_
  rw [rounds_succ]
  go_wp2
  go_ret
  exact ⟨rfl, Kept.refl _⟩
set_option maxHeartbeats 2000000 in
theorem refLongest_some (b off n cap : Nat) (S : Nat → ByteArray) (A G : Nat → Int) (w : World) (hw : WordsAt w b off n S A G) (hn : n ≤ 4398046510976) :
    Calls Try.prog 21 #[.slice (some ⟨b, off, none⟩) n cap] w fun e w' => e = .returned (.int .i64 (longS A n)) ∧ Kept w w' := by
  have e32 : advS 32 = 256 := by decide
  go_enter Try.func21, Try.ntmps21
  go_wp2
  go_loopw [3, 4] (fun t i wx => ∃ k : Nat, k ≤ n ∧ i = .int .i64 k ∧ t = .int .i64 (longS A k) ∧ Kept w wx) (fun _ i _ => n - (intOf i).toNat)
  case atStart => exact ⟨0, Nat.zero_le _, rfl, rfl, Kept.refl _⟩
  case round =>
    obtain ⟨k, hk4, rfl, rfl, hk⟩ := hrel
    by_cases hlt : k < n
    · have hi0 : (0 : Int) ≤ (k : Int) := Int.natCast_nonneg _
      have hi1 : (k : Int) < (n : Int) := by omega
      have c0 := (hw.kept hk).text k hlt
      have c1 := (hw.kept hk).adv k hlt
      have c2 := (hw.kept hk).gap k hlt
      have hstep : longS A (k + 1) = max (longS A k) (A k) := rfl
      have HS := Lib.hid hstep
      clear hstep
      generalize longS A k = p at *
      generalize A k = x at *
      rcases (by omega : p < x ∨ (p ≤ x ∧ x ≤ p) ∨ x < p) with h1 | h1 | h1
      all_goals
        go_wp2
        go_roundw
        case rel => exact ⟨k + 1, by omega, by go_num, by rw [HS.out]; congr 1; omega, hk⟩
        case measure => simp [intOf]; omega
    · obtain rfl : k = n := by omega
      go_wp2
      go_ret
      exact ⟨rfl, hk⟩
theorem refLongest_any (v : Value) (n : Nat) (S : Nat → ByteArray) (A G : Nat → Int) (w : World) (h : WV w v n S A G) (hn : n ≤ 4398046510976) :
    Calls Try.prog 21 #[v] w fun e w' => e = .returned (.int .i64 (longS A n)) ∧ Kept w w' := by
  rcases h with ⟨rfl, o, cap, rfl⟩ | ⟨b, off, cap, rfl, h2, h3, hw⟩
  · exact refLongest_none o cap A w
  · exact refLongest_some b off n cap S A G w hw hn
theorem wordsTotal_none (o : Option Addr) (cap : Nat) (A : Nat → Int) (w : World) :
    Calls Try.prog 22 #[.slice o 0 cap] w fun e w' => e = .returned (.int .i64 (totS A 0)) ∧ Kept w w' := by
  go_enter Try.func22, Try.ntmps22
  go_wp2
  refine wp_loop_rounds 1 ?_
  rw [rounds_succ]
  go_wp2
  go_ret
  exact ⟨rfl, Kept.refl _⟩
set_option maxHeartbeats 2000000 in
theorem wordsTotal_some (b off n cap : Nat) (S : Nat → ByteArray) (A G : Nat → Int) (w : World) (hw : WordsAt w b off n S A G) (hn : n ≤ 4398046510976) :
    Calls Try.prog 22 #[.slice (some ⟨b, off, none⟩) n cap] w fun e w' => e = .returned (.int .i64 (totS A n)) ∧ Kept w w' := by
  have e32 : advS 32 = 256 := by decide
  go_enter Try.func22, Try.ntmps22
  go_wp2
  go_loopw [3, 4, 5, 8] (fun t _ _ i wx => ∃ k : Nat, k ≤ n ∧ i = .int .i64 k ∧ t = .int .i64 (totS A k) ∧ Kept w wx) (fun _ _ _ i _ => n - (intOf i).toNat)
  case atStart => exact ⟨0, Nat.zero_le _, rfl, rfl, Kept.refl _⟩
  case round =>
    obtain ⟨k, hk4, rfl, rfl, hk⟩ := hrel
    by_cases hlt : k < n
    · have hi0 : (0 : Int) ≤ (k : Int) := Int.natCast_nonneg _
      have hi1 : (k : Int) < (n : Int) := by omega
      have c0 := (hw.kept hk).text k hlt
      have c1 := (hw.kept hk).adv k hlt
      have c2 := (hw.kept hk).gap k hlt
      have hstep : totS A (k + 1) = wrap64 (totS A k + (if k = 0 then 0 else 256) + A k) := rfl
      rcases Nat.eq_zero_or_pos k with h0 | h0
      · rw [if_pos h0] at hstep
        have HS := Lib.hid hstep
        clear hstep
        have hk0 : ¬ 0 < k := by omega
        clear h0
        generalize totS A k = p at *
        generalize A k = x at *
        go_wp2
        go_roundw
        case rel => exact ⟨k + 1, by omega, by go_num, by rw [HS.out]; exact congrArg _ (by unfold wrap64; omega), (hk.alloc _)⟩
        case measure => simp [intOf]; omega
      · rw [if_neg (by omega)] at hstep
        have HS := Lib.hid hstep
        clear hstep
        have hk0 : (0 : Int) < (k : Int) := by omega
        generalize totS A k = p at *
        generalize A k = x at *
        go_wp2_with (first
          | (go_at_call 39; refine (glyphAdvance_any _ _).mono ?_; rintro e w1 ⟨rfl, rfl⟩)
          | fail)
        go_roundw
        case rel => exact ⟨k + 1, by omega, by go_num, by rw [HS.out]; exact congrArg _ (by unfold wrap64; omega), (hk.alloc _)⟩
        case measure => simp [intOf]; omega
    · obtain rfl : k = n := by omega
      go_wp2
      go_ret
      exact ⟨rfl, hk⟩
theorem wordsTotal_any (v : Value) (n : Nat) (S : Nat → ByteArray) (A G : Nat → Int) (w : World) (h : WV w v n S A G) (hn : n ≤ 4398046510976) :
    Calls Try.prog 22 #[v] w fun e w' => e = .returned (.int .i64 (totS A n)) ∧ Kept w w' := by
  rcases h with ⟨rfl, o, cap, rfl⟩ | ⟨b, off, cap, rfl, h2, h3, hw⟩
  · exact wordsTotal_none o cap A w
  · exact wordsTotal_some b off n cap S A G w hw hn
theorem refTotal_none (o : Option Addr) (cap : Nat) (A : Nat → Int) (w : World) :
    Calls Try.prog 23 #[.slice o 0 cap] w fun e w' => e = .returned (.int .i64 (totS A 0)) ∧ Kept w w' := by
  go_enter Try.func23, Try.ntmps23
  go_wp2
  refine wp_loop_rounds 1 ?_
  rw [rounds_succ]
  go_wp2
  go_ret
  exact ⟨rfl, Kept.refl _⟩
set_option maxHeartbeats 2000000 in
theorem refTotal_some (b off n cap : Nat) (S : Nat → ByteArray) (A G : Nat → Int) (w : World) (hw : WordsAt w b off n S A G) (hn : n ≤ 4398046510976) :
    Calls Try.prog 23 #[.slice (some ⟨b, off, none⟩) n cap] w fun e w' => e = .returned (.int .i64 (totS A n)) ∧ Kept w w' := by
  have e32 : advS 32 = 256 := by decide
  go_enter Try.func23, Try.ntmps23
  go_wp2
  go_loopw [3, 4] (fun t i wx => ∃ k : Nat, k ≤ n ∧ i = .int .i64 k ∧ t = .int .i64 (totS A k) ∧ Kept w wx) (fun _ i _ => n - (intOf i).toNat)
  case atStart => exact ⟨0, Nat.zero_le _, rfl, rfl, Kept.refl _⟩
  case round =>
    obtain ⟨k, hk4, rfl, rfl, hk⟩ := hrel
    by_cases hlt : k < n
    · have hi0 : (0 : Int) ≤ (k : Int) := Int.natCast_nonneg _
      have hi1 : (k : Int) < (n : Int) := by omega
      have c0 := (hw.kept hk).text k hlt
      have c1 := (hw.kept hk).adv k hlt
      have c2 := (hw.kept hk).gap k hlt
      have hstep : totS A (k + 1) = wrap64 (totS A k + (if k = 0 then 0 else 256) + A k) := rfl
      rcases Nat.eq_zero_or_pos k with h0 | h0
      · rw [if_pos h0] at hstep
        have HS := Lib.hid hstep
        clear hstep
        have hk0 : ¬ 0 < k := by omega
        clear h0
        generalize totS A k = p at *
        generalize A k = x at *
        go_wp2
        go_roundw
        case rel => exact ⟨k + 1, by omega, by go_num, by rw [HS.out]; exact congrArg _ (by unfold wrap64; omega), hk⟩
        case measure => simp [intOf]; omega
      · rw [if_neg (by omega)] at hstep
        have HS := Lib.hid hstep
        clear hstep
        have hk0 : (0 : Int) < (k : Int) := by omega
        generalize totS A k = p at *
        generalize A k = x at *
        go_wp2
        go_roundw
        case rel => exact ⟨k + 1, by omega, by go_num, by rw [HS.out]; exact congrArg _ (by unfold wrap64; omega), hk⟩
        case measure => simp [intOf]; omega
    · obtain rfl : k = n := by omega
      go_wp2
      go_ret
      exact ⟨rfl, hk⟩
theorem refTotal_any (v : Value) (n : Nat) (S : Nat → ByteArray) (A G : Nat → Int) (w : World) (h : WV w v n S A G) (hn : n ≤ 4398046510976) :
    Calls Try.prog 23 #[v] w fun e w' => e = .returned (.int .i64 (totS A n)) ∧ Kept w w' := by
  rcases h with ⟨rfl, o, cap, rfl⟩ | ⟨b, off, cap, rfl, h2, h3, hw⟩
  · exact refTotal_none o cap A w
  · exact refTotal_some b off n cap S A G w hw hn
end Go.Proofs.Ytbegdnpckjfgbaa
