/- Layer 6: lines.Break. -/
import Derived.Test.YtkonpnaedniceaaFill
import Derived.Test.YtkonpnaedniceaaThree
namespace Go.Proofs.Ytkonpnaedniceaa
open Go.RowKit
set_option linter.unusedSimpArgs false
set_option linter.unusedVariables false
/-- v is a slice of n words -/
def WV (w : World) (v : Value) (n : Nat) (S : Nat → ByteArray) (A G : Nat → Int) : Prop :=
  (n = 0 ∧ ∃ o cap, v = .slice o 0 cap) ∨ ∃ b off cap, v = .slice (some ⟨b, off, none⟩) n cap ∧ 0 < n ∧ n ≤ cap ∧ WordsAt w b off n S A G
theorem WV.kept {w w' : World} {v : Value} {n : Nat} {S : Nat → ByteArray} {A G : Nat → Int} (h : WV w v n S A G) (k : Kept w w') : WV w' v n S A G := by
  rcases h with h | ⟨b, off, cap, h1, h2, h3, h4⟩
  · exact .inl h
  · exact .inr ⟨b, off, cap, h1, h2, h3, h4.kept k⟩
theorem linesMay_any (v : Value) (n : Nat) (S : Nat → ByteArray) (A G : Nat → Int) (w : World) (h : WV w v n S A G) :
    Calls Try.prog 7 #[v] w fun e w' => e = .returned (.bool (mayW n A)) ∧ Kept w w' := by
  rcases h with ⟨rfl, o, cap, rfl⟩ | ⟨b, off, cap, rfl, h2, h3, h4⟩
  · exact linesMay_none o cap A w
  · exact linesMay_some b off n cap S A G w h4
theorem linesFill_good (v : Value) (n : Nat) (S : Nat → ByteArray) (A G : Nat → Int) (w : World) (h : WV w v n S A G) (f : Nat) (room : Int) (hf : f < n) (h1 : mayW n A = true) (h4 : mayB room = true) :
    Calls Try.prog 8 #[v, .int .i64 (f : Nat), .int .i64 room] w fun e w' => e = .returned (.tuple #[lineV f (f + kS A n room f + 1 : Nat) (wid A f (kS A n room f)), .int .i64 0]) ∧ Kept w w' := by
  rcases h with ⟨rfl, o, cap, rfl⟩ | ⟨b, off, cap, rfl, h2, h3, hw⟩
  · omega
  · have hK := kS_is A room hf
    by_cases hc : f + 1 = cap
    · obtain rfl : n = f + 1 := by omega
      subst hc
      have h0 : kS A (f + 1) room f = 0 := by have := hK.le; omega
      rw [h0]
      exact linesFill_last b off f S A G room w hw h1 h4
    · exact linesFill_ok b off n cap f _ S A G room w hw h3 (by omega) h1 hf h4 hK
theorem linesFill_wrong (v : Value) (n : Nat) (S : Nat → ByteArray) (A G : Nat → Int) (w : World) (h : WV w v n S A G) (f room : Int) (hbad : mayW n A = false ∨ f < 0 ∨ (n : Int) ≤ f ∨ mayB room = false) :
    Calls Try.prog 8 #[v, .int .i64 f, .int .i64 room] w fun e w' => e = .returned (.tuple #[lineV 0 0 0, .int .i64 600]) ∧ Kept w w' := by
  rcases h with ⟨rfl, o, cap, rfl⟩ | ⟨b, off, cap, rfl, h2, h3, hw⟩
  · exact linesFill_none o cap f room w
  · cases h1 : mayW n A with
    | false => exact linesFill_bad1 b off n cap S A G f room w hw h1
    | true =>
      by_cases h2 : f < 0
      · exact linesFill_bad2 b off n cap S A G f room w hw h1 h2
      · by_cases h3 : (n : Int) ≤ f
        · exact linesFill_bad3 b off n cap S A G f room w hw h1 (by omega) h3
        · exact linesFill_bad4 b off n cap S A G f room w hw h1 (by omega) (by omega) (by simpa [h1, h2, h3] using hbad)
/-- where the i-th line begins -/
noncomputable def lineAt (A : Nat → Int) (n : Nat) (room : Int) : Nat → Nat
  | 0 => 0
  | i + 1 => if lineAt A n room i < n then lineAt A n room i + kS A n room (lineAt A n room i) + 1 else lineAt A n room i
theorem lineAt_le (A : Nat → Int) (n : Nat) (room : Int) (i : Nat) : lineAt A n room i ≤ n := by
  induction i with
  | zero => exact Nat.zero_le _
  | succ i ih =>
    unfold lineAt
    by_cases h : lineAt A n room i < n
    · rw [if_pos h]; have := (kS_is A room h).le; omega
    · rw [if_neg h]; exact ih
theorem lineAt_end (A : Nat → Int) (n : Nat) (room : Int) : ∀ i, lineAt A n room i < n → i ≤ lineAt A n room i := by
  intro i
  induction i with
  | zero => exact fun _ => Nat.zero_le _
  | succ i ih =>
    intro h
    unfold lineAt at h ⊢
    by_cases h1 : lineAt A n room i < n
    · rw [if_pos h1] at h ⊢; have := ih h1; omega
    · rw [if_neg h1] at h; omega
theorem lines_some (A : Nat → Int) (n : Nat) (room : Int) : ∃ m, lineAt A n room m = n ∧ ∀ i, i < m → lineAt A n room i < n := by
  have key : ∀ d, ∃ m, m ≤ d ∧ (lineAt A n room m = n ∨ m = d) ∧ ∀ i, i < m → lineAt A n room i < n := by
    intro d
    induction d with
    | zero => exact ⟨0, Nat.le_refl _, .inr rfl, fun i hi => by omega⟩
    | succ d ih =>
      obtain ⟨m, hm, hor, hall⟩ := ih
      by_cases he : lineAt A n room m = n
      · exact ⟨m, by omega, .inl he, hall⟩
      · have hmd : m = d := by rcases hor with h | h
                               · exact absurd h he
                               · exact h
        refine ⟨m + 1, by omega, .inr (by omega), fun i hi => ?_⟩
        have hlt : lineAt A n room m < n := by have := lineAt_le A n room m; omega
        rcases Nat.lt_or_ge i m with h1 | h1
        · exact hall i h1
        · obtain rfl : i = m := by omega
          exact hlt
  obtain ⟨m, hm, hor, hall⟩ := key (n + 1)
  refine ⟨m, ?_, hall⟩
  rcases hor with h | h
  · exact h
  · exfalso
    have := lineAt_end A n room n (hall n (by omega))
    have := hall n (by omega)
    omega
/-- how many lines there are -/
noncomputable def lineN (A : Nat → Int) (n : Nat) (room : Int) : Nat := (lines_some A n room).choose
theorem lineN_at (A : Nat → Int) (n : Nat) (room : Int) : lineAt A n room (lineN A n room) = n := (lines_some A n room).choose_spec.1
theorem lineN_lt (A : Nat → Int) (n : Nat) (room : Int) : ∀ i, i < lineN A n room → lineAt A n room i < n := (lines_some A n room).choose_spec.2
theorem lineN_le (A : Nat → Int) (n : Nat) (room : Int) : lineN A n room ≤ n := by
  rcases Nat.eq_zero_or_pos (lineN A n room) with h | h
  · omega
  · have := lineAt_end A n room (lineN A n room - 1) (lineN_lt A n room _ (by omega))
    have := lineN_lt A n room (lineN A n room - 1) (by omega)
    omega
theorem lineAt_next {A : Nat → Int} {n : Nat} {room : Int} {i : Nat} (h : lineAt A n room i < n) : lineAt A n room (i + 1) = lineAt A n room i + kS A n room (lineAt A n room i) + 1 := by
  rw [show lineAt A n room (i + 1) = if lineAt A n room i < n then lineAt A n room i + kS A n room (lineAt A n room i) + 1 else lineAt A n room i from rfl, if_pos h]
noncomputable def lineW (A : Nat → Int) (n : Nat) (room : Int) (i : Nat) : Int := wid A (lineAt A n room i) (kS A n room (lineAt A n room i))
noncomputable def lf (A : Nat → Int) (n : Nat) (room : Int) (i : Nat) : Value := .int .i64 (lineAt A n room i)
noncomputable def lt (A : Nat → Int) (n : Nat) (room : Int) (i : Nat) : Value := .int .i64 (lineAt A n room (i + 1))
noncomputable def lw (A : Nat → Int) (n : Nat) (room : Int) (i : Nat) : Value := .int .i64 (lineW A n room i)
theorem linesFill_line (v : Value) (n : Nat) (S : Nat → ByteArray) (A G : Nat → Int) (w : World) (h : WV w v n S A G) (room : Int) (k F T : Nat) (D : Int) (hL : lineAt A n room k < n) (h1 : mayW n A = true) (h4 : mayB room = true) (hF : lineAt A n room k = F) (hT : lineAt A n room (k + 1) = T) (hD : lineW A n room k = D) :
    Calls Try.prog 8 #[v, .int .i64 (F : Nat), .int .i64 room] w fun e w' => e = .returned (.tuple #[lineV F T D, .int .i64 0]) ∧ Kept w w' := by
  subst hF hT hD
  rw [lineAt_next hL]
  exact linesFill_good v n S A G w h _ room hL h1 h4
theorem Kept.grownBy {w w' : World} (h : Kept w w') : w.grownBy w' none := ⟨h.below.os, h.below.tape, h.below.output, h.size, fun k hk _ => h.below.block k hk⟩
theorem owns_kept {w w' : World} {base : Nat} {e : TypeId} {size : Nat} {v : Value} {n : Nat} {xs : List Value} (h : w.ownsRow base e size v n xs) (k : Kept w w') : w'.ownsRow base e size v n xs :=
  h.kept k.grownBy (by cases v.ownBlock <;> simp)
theorem lit_cells2 (w : World) (cs : Array Value) (t : TypeId) {b : Nat} (hb : b = w.heap.size) : ∀ j u, cs.toList[j]? = some u → (w.alloc (.cells cs t)).cell? ((⟨b, 0, none⟩ : Addr).add j) = some u := by
  subst hb; exact lit_cells w cs t
theorem lineInfo : (Try.prog.info? 27).map (fun i => (i.zero, i.size, i.bytes)) = some (some (.agg #[.int .i64 0, .int .i64 0, .int .i64 0]), 3, 24) := by kernel_rfl
theorem linesBreak_bad1 (v : Value) (n : Nat) (S : Nat → ByteArray) (A G : Nat → Int) (w : World) (h : WV w v n S A G) (room : Int) (h1 : mayW n A = false) :
    Calls Try.prog 9 #[v, .int .i64 room] w fun e w' => e = .returned (.tuple #[.slice none 0 0, .int .i64 600]) ∧ Kept w w' := by
  have hk : Kept w w := Kept.refl w
  go_enter Try.func9, Try.ntmps9
  go_wp2_with fail
  refine (linesMay_any _ n S A G _ (h.kept hk)).mono ?_
  rintro e w1 ⟨rfl, hn⟩
  replace hk := hk.trans hn
  clear hn
  go_wp2
  go_ret2
  exact ⟨rfl, hk⟩
theorem linesBreak_bad2 (v : Value) (n : Nat) (S : Nat → ByteArray) (A G : Nat → Int) (w : World) (h : WV w v n S A G) (room : Int) (h1 : mayW n A = true) (h2 : mayB room = false) :
    Calls Try.prog 9 #[v, .int .i64 room] w fun e w' => e = .returned (.tuple #[.slice none 0 0, .int .i64 600]) ∧ Kept w w' := by
  have hk : Kept w w := Kept.refl w
  go_enter Try.func9, Try.ntmps9
  go_wp2_with fail
  refine (linesMay_any _ n S A G _ (h.kept hk)).mono ?_
  rintro e w1 ⟨rfl, hn⟩
  replace hk := hk.trans hn
  clear hn
  go_wp2_with fail
  refine (unitMay_any _ _).mono ?_
  rintro e w1 ⟨rfl, hn⟩
  replace hk := hk.trans hn
  clear hn
  go_wp2
  go_ret2
  exact ⟨rfl, hk⟩
set_option maxHeartbeats 1000000 in
theorem linesBreak_ok (v : Value) (n : Nat) (S : Nat → ByteArray) (A G : Nat → Int) (w : World) (h : WV w v n S A G) (room : Int) (h1 : mayW n A = true) (h2 : mayB room = true) (hlen : ∃ o cap, v = .slice o n cap) :
    Calls Try.prog 9 #[v, .int .i64 room] w fun e w' => ∃ u, e = .returned (.tuple #[u, .int .i64 0]) ∧ w'.ownsRow w.heap.size 27 3 u (lineN A n room) (three (lf A n room) (lt A n room) (lw A n room) (lineN A n room)) ∧ Kept w w' := by
  obtain ⟨i0, hi, hz0, hz1, hz2⟩ := info_parts lineInfo
  obtain ⟨sl, cap, rfl⟩ := hlen
  have h8 : n ≤ 80 := (mayW_true.1 h1).1
  have hk : Kept w w := Kept.refl w
  go_enter Try.func9, Try.ntmps9
  go_wp2_with fail
  refine (linesMay_any _ n S A G _ (h.kept hk)).mono ?_
  rintro e w1 ⟨rfl, hn⟩
  replace hk := hk.trans hn
  clear hn
  go_wp2_with fail
  refine (unitMay_any _ _).mono ?_
  rintro e w1 ⟨rfl, hn⟩
  replace hk := hk.trans hn
  clear hn
  go_wp2
  go_loopw [6, 7, 8, 9] (fun u f _ _ wx => ∃ k : Nat, k ≤ lineN A n room ∧ f = .int .i64 (lineAt A n room k) ∧ wx.ownsRow w.heap.size 27 3 u k (three (lf A n room) (lt A n room) (lw A n room) k) ∧ Kept w wx) (fun _ f _ _ _ => n - (intOf f).toNat)
  case atStart => exact ⟨0, Nat.zero_le _, rfl, World.ownsRow_nil _ _ _ _, hk⟩
  case round =>
    clear hk
    obtain ⟨k, hkn, rfl, hown, hk⟩ := hrel
    by_cases hlt : k < lineN A n room
    · have hL := lineN_lt A n room k hlt
      have hle := lineAt_le A n room (k + 1)
      have hgt : lineAt A n room k < lineAt A n room (k + 1) := by rw [lineAt_next hL]; omega
      have h3 : three (lf A n room) (lt A n room) (lw A n room) (k + 1) = three (lf A n room) (lt A n room) (lw A n room) k ++ [.int .i64 (lineAt A n room k), .int .i64 (lineAt A n room (k + 1)), .int .i64 (lineW A n room k)] := rfl
      have hkn : lineN A n room ≤ n := lineN_le A n room
      obtain ⟨F, hF⟩ : ∃ F, lineAt A n room k = F := ⟨_, rfl⟩
      obtain ⟨T, hT⟩ : ∃ T, lineAt A n room (k + 1) = T := ⟨_, rfl⟩
      obtain ⟨D, hD⟩ : ∃ D, lineW A n room k = D := ⟨_, rfl⟩
      have HC := Lib.hid (fun wx (hx : Kept w wx) => linesFill_line _ n S A G wx (h.kept hx) room k F T D hL h1 h2 hF hT hD)
      rw [hF, hT, hD] at h3
      rw [hF] at hL hgt ⊢
      rw [hT] at hle hgt
      have H3 := Lib.hid h3
      replace hT := Lib.hid hT
      clear h3 hD hF
      go_wp2_with fail
      refine (HC.out _ hk).mono ?_
      rintro e w1 ⟨rfl, hn⟩
      replace hown := owns_kept hown hn
      replace hk := hk.trans hn
      have hsz := hk.size
      clear hn HC
      go_wp2_with (at_builtin; refine wpList_append_own _ rfl _ _ 31 rfl w.heap.size 27 i0 (.agg #[.int .i64 0, .int .i64 0, .int .i64 0]) 3 24 Try.underlying31 hi hz0 hz1 hz2 rfl (by decide) _ _ _ rfl ((hown.alloc _).alloc _) ⟨w1.heap.size + 1, 0, none⟩ 1 1 [.int .i64 F, .int .i64 T, .int .i64 D] rfl rfl (lit_cells2 (w1.alloc (.cells #[.int .i64 F, .int .i64 T, .int .i64 D] 27)) #[.int .i64 F, .int .i64 T, .int .i64 D] 27 (by simp)) (by simp [Value.oneCell']) (by unfold maxLen; omega) (by omega) (by simp; omega) ?_; intro v2 w2 hown2 hg2 _; have l2 := ((Own.at_ w1 #[.int .i64 F, .int .i64 T, .int .i64 D] 27 rfl).alloc _).grown hg2 (fun q hq => (hown.lt q hq).2); have l2_1 := l2.at 1 _ rfl; have l2_l := l2.lt)
      exact ⟨⟨k + 1, by omega, by rw [hT.out], by rw [H3.out]; exact hown2, ((hk.alloc _).alloc _).grown hg2 (row_ge hown)⟩, by simp [intOf]; omega⟩
    · obtain rfl : k = lineN A n room := by omega
      have hend := lineN_at A n room
      go_wp2
      go_ret2
      exact ⟨_, rfl, hown, hk⟩
theorem WV.shape {w : World} {v : Value} {n : Nat} {S : Nat → ByteArray} {A G : Nat → Int} (h : WV w v n S A G) : ∃ o cap, v = .slice o n cap := by
  rcases h with ⟨rfl, o, cap, rfl⟩ | ⟨b, off, cap, rfl, _⟩
  · exact ⟨o, cap, rfl⟩
  · exact ⟨_, cap, rfl⟩
theorem linesBreak_good (v : Value) (n : Nat) (S : Nat → ByteArray) (A G : Nat → Int) (w : World) (h : WV w v n S A G) (room : Int) (h1 : mayW n A = true) (h2 : mayB room = true) :
    Calls Try.prog 9 #[v, .int .i64 room] w fun e w' => ∃ u, e = .returned (.tuple #[u, .int .i64 0]) ∧ NewThree 27 w w' u (lineN A n room) (lf A n room) (lt A n room) (lw A n room) ∧ Kept w w' :=
  (linesBreak_ok v n S A G w h room h1 h2 h.shape).mono fun e w' ⟨u, he, ho, hk⟩ => ⟨u, he, newThree_of ho, hk⟩
theorem linesBreak_wrong (v : Value) (n : Nat) (S : Nat → ByteArray) (A G : Nat → Int) (w : World) (h : WV w v n S A G) (room : Int) (hbad : mayW n A = false ∨ mayB room = false) :
    Calls Try.prog 9 #[v, .int .i64 room] w fun e w' => e = .returned (.tuple #[.slice none 0 0, .int .i64 600]) ∧ Kept w w' := by
  cases h1 : mayW n A with
  | false => exact linesBreak_bad1 v n S A G w h room h1
  | true => exact linesBreak_bad2 v n S A G w h room h1 (by simpa [h1] using hbad)
/-- where no second word fits every word has its line -/
theorem lineN_each {A : Nat → Int} {n : Nat} {room : Int} (h : ∀ f, f < n → kS A n room f = 0) : lineN A n room = n ∧ ∀ i, i ≤ n → lineAt A n room i = i := by
  have key : ∀ i, i ≤ n → lineAt A n room i = i := by
    intro i
    induction i with
    | zero => exact fun _ => rfl
    | succ i ih =>
      intro hi
      have h1 := ih (by omega)
      rw [lineAt_next (by omega), h1, h i (by omega)]
  refine ⟨?_, key⟩
  rcases Nat.lt_trichotomy (lineN A n room) n with h1 | h1 | h1
  · have := key (lineN A n room) (by omega)
    have := lineN_at A n room
    omega
  · exact h1
  · have := lineN_lt A n room n h1
    have := key n (Nat.le_refl _)
    omega
end Go.Proofs.Ytkonpnaedniceaa
