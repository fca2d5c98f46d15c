/- Layer 6: the document's Break. -/
import Derived.Test.YtkdidhhilcamkaaRefFill
import Derived.Deep.QuietTactic
import Derived.BigQuiet
import Derived.BigRegion
import Derived.Deep.LoopGhost
namespace Go.Proofs.Ytkdidhhilcamkaa
open Go.RowKit
set_option linter.unusedSimpArgs false
set_option linter.unusedVariables false
theorem refLMay_any (v : Value) (n : Nat) (S : Nat → ByteArray) (A G : Nat → Int) (w : World) (h : WV w v n S A G) (hn : n ≤ 4398046510976) :
    Calls Try.prog 27 #[v] w fun e w' => e = .returned (.bool (mayW n A)) ∧ Kept w w' := by
  rcases h with ⟨rfl, o, cap, rfl⟩ | ⟨b, off, cap, rfl, h2, h3, h4⟩
  · exact refLMay_none o cap A w
  · exact refLMay_some b off n cap S A G w h4 hn
theorem refLFill_good (v : Value) (n : Nat) (S : Nat → ByteArray) (A G : Nat → Int) (w : World) (h : WV w v n S A G) (f : Nat) (room : Int) (hf : f < n) (h1 : mayW n A = true) (h4 : mayB room = true) :
    Calls Try.prog 45 #[v, .int .i64 (f : Nat), .int .i64 room] w fun e w' => e = .returned (.tuple #[lineV f (f + kS A n room f + 1 : Nat) (wid A f (kS A n room f)), .int .i64 0]) ∧ Kept w w' := by
  rcases h with ⟨rfl, o, cap, rfl⟩ | ⟨b, off, cap, rfl, h2, h3, hw⟩
  · omega
  · exact refLFill_ok b off n cap f _ S A G room w hw h3 h1 hf h4 (kS_is A room hf)
theorem refLFill_wrong (v : Value) (n : Nat) (S : Nat → ByteArray) (A G : Nat → Int) (w : World) (h : WV w v n S A G) (hn : n ≤ 4398046510976) (f room : Int) (hbad : mayW n A = false ∨ f < 0 ∨ (n : Int) ≤ f ∨ mayB room = false) :
    Calls Try.prog 45 #[v, .int .i64 f, .int .i64 room] w fun e w' => e = .returned (.tuple #[lineV 0 0 0, .int .i64 600]) ∧ Kept w w' := by
  rcases h with ⟨rfl, o, cap, rfl⟩ | ⟨b, off, cap, rfl, h2, h3, hw⟩
  · exact refLFill_none o cap f room w
  · cases h1 : mayW n A with
    | false => exact refLFill_bad1 b off n cap S A G f room w hw hn h1
    | true =>
      by_cases h2 : f < 0
      · exact refLFill_bad2 b off n cap S A G f room w hw hn h1 h2
      · by_cases h3 : (n : Int) ≤ f
        · exact refLFill_bad3 b off n cap S A G f room w hw hn h1 (by omega) h3
        · exact refLFill_bad4 b off n cap S A G f room w hw hn h1 (by omega) (by omega) (by simpa [h1, h2, h3] using hbad)
theorem refLFill_line (v : Value) (n : Nat) (S : Nat → ByteArray) (A G : Nat → Int) (w : World) (h : WV w v n S A G) (room : Int) (k F T : Nat) (D : Int) (hL : lineAt A n room k < n) (h1 : mayW n A = true) (h4 : mayB room = true) (hF : lineAt A n room k = F) (hT : lineAt A n room (k + 1) = T) (hD : lineW A n room k = D) :
    Calls Try.prog 45 #[v, .int .i64 (F : Nat), .int .i64 room] w fun e w' => e = .returned (.tuple #[lineV F T D, .int .i64 0]) ∧ Kept w w' := by
  subst hF hT hD
  rw [lineAt_next hL]
  exact refLFill_good v n S A G w h _ room hL h1 h4
theorem refLBreak_bad1 (v : Value) (n : Nat) (S : Nat → ByteArray) (A G : Nat → Int) (w : World) (h : WV w v n S A G) (hn : n ≤ 4398046510976) (room : Int) (h1 : mayW n A = false) :
    Calls Try.prog 28 #[v, .int .i64 room] w fun e w' => e = .returned (.tuple #[.slice none 0 0, .int .i64 600]) ∧ Kept w w' := by
  have hk : Kept w w := Kept.refl w
  go_enter Try.func28, Try.ntmps28
  go_wp2_with fail
  refine (refLMay_any _ n S A G _ (h.kept hk) hn).mono ?_
  rintro e w1 ⟨rfl, hn⟩
  replace hk := hk.trans hn
  clear hn
  go_wp2
  go_ret2
  exact ⟨rfl, hk⟩
theorem refLBreak_bad2 (v : Value) (n : Nat) (S : Nat → ByteArray) (A G : Nat → Int) (w : World) (h : WV w v n S A G) (hn : n ≤ 4398046510976) (room : Int) (h1 : mayW n A = true) (h2 : mayB room = false) :
    Calls Try.prog 28 #[v, .int .i64 room] w fun e w' => e = .returned (.tuple #[.slice none 0 0, .int .i64 600]) ∧ Kept w w' := by
  have hk : Kept w w := Kept.refl w
  go_enter Try.func28, Try.ntmps28
  go_wp2_with fail
  refine (refLMay_any _ n S A G _ (h.kept hk) hn).mono ?_
  rintro e w1 ⟨rfl, hn⟩
  replace hk := hk.trans hn
  clear hn
  go_wp2_with fail
  refine (refLRoom_any _ _).mono ?_
  rintro e w1 ⟨rfl, hn⟩
  replace hk := hk.trans hn
  clear hn
  go_wp2
  go_ret2
  exact ⟨rfl, hk⟩
set_option maxHeartbeats 1000000 in
theorem refLBreak_ok (v : Value) (n : Nat) (S : Nat → ByteArray) (A G : Nat → Int) (w : World) (h : WV w v n S A G) (hn : n ≤ 4398046510976) (room : Int) (h1 : mayW n A = true) (h2 : mayB room = true) (hlen : ∃ o cap, v = .slice o n cap) :
    Calls Try.prog 28 #[v, .int .i64 room] w fun e w' => ∃ u, e = .returned (.tuple #[u, .int .i64 0]) ∧ w'.ownsRow w.heap.size 66 3 u (lineN A n room) (three (lf A n room) (lt A n room) (lw A n room) (lineN A n room)) ∧ Kept w w' := by
  obtain ⟨i0, hi, hz0, hz1, hz2⟩ := info_parts lineInfo
  obtain ⟨sl, cap, rfl⟩ := hlen
  have h8 : n ≤ 80 := (mayW_true.1 h1).1
  have hk : Kept w w := Kept.refl w
  go_enter Try.func28, Try.ntmps28
  go_wp2_with fail
  refine (refLMay_any _ n S A G _ (h.kept hk) hn).mono ?_
  rintro e w1 ⟨rfl, hn⟩
  replace hk := hk.trans hn
  clear hn
  go_wp2_with fail
  refine (refLRoom_any _ _).mono ?_
  rintro e w1 ⟨rfl, hn⟩
  replace hk := hk.trans hn
  clear hn
  go_wp2
  go_loopw [6, 7, 8, 9] (fun u f _ _ wx => ∃ k : Nat, k ≤ lineN A n room ∧ f = .int .i64 (lineAt A n room k) ∧ wx.ownsRow w.heap.size 66 3 u k (three (lf A n room) (lt A n room) (lw A n room) k) ∧ Kept w wx) (fun _ f _ _ _ => n - (intOf f).toNat)
  case atStart => exact ⟨0, Nat.zero_le _, rfl, World.ownsRow_nil _ _ _ _, hk⟩
  case round =>
    clear hk
    obtain ⟨k, hkn, rfl, hown, hk⟩ := hrel
    by_cases hlt : k < lineN A n room
    · have hL := lineN_lt A n room k hlt
      have hle := lineAt_le A n room (k + 1)
      have hgt : lineAt A n room k < lineAt A n room (k + 1) := by rw [lineAt_next hL]; omega
      have h3 : three (lf A n room) (lt A n room) (lw A n room) (k + 1) = three (lf A n room) (lt A n room) (lw A n room) k ++ [.int .i64 (lineAt A n room k), .int .i64 (lineAt A n room (k + 1)), .int .i64 (lineW A n room k)] := rfl
      have hkn : lineN A n room ≤ n := lineN_le A n room
      obtain ⟨F, hF⟩ : ∃ F, lineAt A n room k = F := ⟨_, rfl⟩
      obtain ⟨T, hT⟩ : ∃ T, lineAt A n room (k + 1) = T := ⟨_, rfl⟩
      obtain ⟨D, hD⟩ : ∃ D, lineW A n room k = D := ⟨_, rfl⟩
      have HC := Lib.hid (fun wx (hx : Kept w wx) => refLFill_line _ n S A G wx (h.kept hx) room k F T D hL h1 h2 hF hT hD)
      rw [hF, hT, hD] at h3
      rw [hF] at hL hgt ⊢
      rw [hT] at hle hgt
      have H3 := Lib.hid h3
      replace hT := Lib.hid hT
      clear h3 hD hF
      go_wp2_with fail
      refine (HC.out _ hk).mono ?_
      rintro e w1 ⟨rfl, hnn⟩
      replace hown := owns_kept hown hnn
      replace hk := hk.trans hnn
      have hsz := hk.size
      clear hnn HC
      go_wp2_with (at_builtin; refine wpList_append_own _ rfl _ _ 60 rfl w.heap.size 66 i0 (.agg #[.int .i64 0, .int .i64 0, .int .i64 0]) 3 24 Try.underlying60 hi hz0 hz1 hz2 rfl (by decide) _ _ _ rfl ((hown.alloc _).alloc _) ⟨w1.heap.size + 1, 0, none⟩ 1 1 [.int .i64 F, .int .i64 T, .int .i64 D] rfl rfl (lit_cells2 (w1.alloc (.cells #[.int .i64 F, .int .i64 T, .int .i64 D] 66)) #[.int .i64 F, .int .i64 T, .int .i64 D] 66 (by simp)) (by simp [Value.oneCell']) (by unfold maxLen; omega) (by omega) (by simp; omega) ?_; intro v2 w2 hown2 hg2 _; have l2 := ((Own.at_ w1 #[.int .i64 F, .int .i64 T, .int .i64 D] 66 rfl).alloc _).grown hg2 (fun q hq => (hown.lt q hq).2); have l2_1 := l2.at 1 _ rfl; have l2_l := l2.lt)
      exact ⟨⟨k + 1, by omega, by rw [hT.out], by rw [H3.out]; exact hown2, ((hk.alloc _).alloc _).grown hg2 (row_ge hown)⟩, by simp [intOf]; omega⟩
    · obtain rfl : k = lineN A n room := by omega
      have hend := lineN_at A n room
      go_wp2
      go_ret2
      exact ⟨_, rfl, hown, hk⟩
theorem refLBreak_good (v : Value) (n : Nat) (S : Nat → ByteArray) (A G : Nat → Int) (w : World) (h : WV w v n S A G) (hn : n ≤ 4398046510976) (room : Int) (h1 : mayW n A = true) (h2 : mayB room = true) :
    Calls Try.prog 28 #[v, .int .i64 room] w fun e w' => ∃ u, e = .returned (.tuple #[u, .int .i64 0]) ∧ NewThree 66 w w' u (lineN A n room) (lf A n room) (lt A n room) (lw A n room) ∧ Kept w w' :=
  (refLBreak_ok v n S A G w h hn room h1 h2 h.shape).mono fun e w' ⟨u, he, ho, hk⟩ => ⟨u, he, newThree_of ho, hk⟩
theorem refLBreak_wrong (v : Value) (n : Nat) (S : Nat → ByteArray) (A G : Nat → Int) (w : World) (h : WV w v n S A G) (hn : n ≤ 4398046510976) (room : Int) (hbad : mayW n A = false ∨ mayB room = false) :
    Calls Try.prog 28 #[v, .int .i64 room] w fun e w' => e = .returned (.tuple #[.slice none 0 0, .int .i64 600]) ∧ Kept w w' := by
  cases h1 : mayW n A with
  | false => exact refLBreak_bad1 v n S A G w h hn room h1
  | true => exact refLBreak_bad2 v n S A G w h hn room h1 (by simpa [h1] using hbad)
end Go.Proofs.Ytkdidhhilcamkaa
