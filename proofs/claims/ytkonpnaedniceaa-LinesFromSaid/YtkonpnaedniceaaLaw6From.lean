/- Layer 6: a line that is filled from a word on is the line of the rest. -/
import Derived.Test.YtkonpnaedniceaaAwake6
import Derived.Test.YtkonpnaedniceaaMask
import Derived.Deep.QuietTactic
import Derived.BigQuiet
namespace Go.Proofs.Ytkonpnaedniceaa
open Go.RowKit
set_option linter.unusedSimpArgs false
set_option linter.unusedVariables false
theorem WordsAt.drop {w : World} {b off n : Nat} {S : Nat → ByteArray} {A G : Nat → Int} (h : WordsAt w b off n S A G) (k : Nat) : WordsAt w b (off + k * 3) (n - k) (fun i => S (k + i)) (fun i => A (k + i)) (fun i => G (k + i)) :=
  ⟨fun i hi => by rw [show off + k * 3 + i * 3 = off + (k + i) * 3 by omega]; exact h.text _ (by omega), fun i hi => by rw [show off + k * 3 + i * 3 = off + (k + i) * 3 by omega]; exact h.adv _ (by omega), fun i hi => by rw [show off + k * 3 + i * 3 = off + (k + i) * 3 by omega]; exact h.gap _ (by omega)⟩
theorem wid_drop (A : Nat → Int) (k f : Nat) : ∀ j, wid (fun i => A (k + i)) f j = wid A (k + f) j := by
  intro j
  induction j with
  | zero => rfl
  | succ j ih =>
    show wid (fun i => A (k + i)) f j + 256 + A (k + (f + j + 1)) = wid A (k + f) j + 256 + A (k + f + j + 1)
    rw [ih, show k + (f + j + 1) = k + f + j + 1 by omega]
theorem allB_of {A : Nat → Int} {n : Nat} (h : ∀ k, k < n → 0 ≤ A k ∧ A k ≤ 4194304) : allB A n = true := by
  induction n with
  | zero => rfl
  | succ n ih =>
    unfold allB
    rw [ih fun k hk => h k (by omega), inB_true.2 (h n (by omega))]; rfl
theorem mayW_drop {A : Nat → Int} {n k : Nat} (h : mayW n A = true) : mayW (n - k) (fun i => A (k + i)) = true := by
  obtain ⟨h1, h2⟩ := mayW_true.1 h
  exact mayW_true.2 ⟨by omega, allB_of fun i hi => allB_yes h2 (k + i) (by omega)⟩
theorem isK_drop {A : Nat → Int} {n k K : Nat} {r : Int} (h : IsK A n r k K) : IsK (fun i => A (k + i)) (n - k) r 0 K :=
  ⟨fun j hj => by rw [wid_drop]; exact h.fits j hj, by have := h.le; omega, fun hs => by rw [wid_drop]; exact h.stop (by omega)⟩
theorem from_k (b off n cap k K T : Nat) (S : Nat → ByteArray) (A G : Nat → Int) (r D : Int) (w : World) (hw : WordsAt w b off n S A G) (hcap : n ≤ cap) (hk : k < n) (hm : mayW n A = true) (hr : mayB r = true) (hK : IsK A n r k K) (hD : wid A k K = D) (hT : K + 1 = T) : Calls Try.prog 8 #[.slice (some ⟨b, off, none⟩) n cap, .int .i64 (k : Nat), .int .i64 r] w fun e w' => e = .returned (.tuple #[lineV k (k + T : Nat) D, .int .i64 0]) ∧ Kept w w' := by
  subst hT
  have := linesFill_good _ n S A G w (.inr ⟨b, off, cap, rfl, by omega, hcap, hw⟩) k r hk hm hr
  rwa [(kS_is A r hk).unique hK, hD] at this
theorem from_0 (b off n cap k K T : Nat) (S : Nat → ByteArray) (A G : Nat → Int) (r D : Int) (w : World) (hw : WordsAt w b off n S A G) (hcap : n ≤ cap) (hk : k < n) (hm : mayW n A = true) (hr : mayB r = true) (hK : IsK A n r k K) (hD : wid A k K = D) (hT : K + 1 = T) : Calls Try.prog 8 #[.slice (some ⟨b, off + k * 3, none⟩) (n - k) (cap - k), .int .i64 0, .int .i64 r] w fun e w' => e = .returned (.tuple #[lineV 0 (T : Nat) D, .int .i64 0]) ∧ Kept w w' := by
  subst hT
  have := linesFill_good _ (n - k) _ _ _ w (.inr ⟨b, off + k * 3, cap - k, rfl, by omega, by omega, hw.drop k⟩) 0 r (by omega) (mayW_drop hm) hr
  rw [(kS_is _ r (show 0 < n - k by omega)).unique (isK_drop hK), wid_drop, show k + 0 = k from rfl, hD, Nat.zero_add] at this
  exact this
theorem from_b (b off n cap k K T : Nat) (S : Nat → ByteArray) (A G : Nat → Int) (r D : Int) (w : World) (hw : WordsAt w b off n S A G) (hcap : n ≤ cap) (hk : k < n) (hm : mayW n A = true) (hr : mayB r = true) (hK : IsK A n r k K) (hD : wid A k K = D) (hT : K + 1 = T) : Calls Try.prog 9 #[.slice (some ⟨b, off + k * 3, none⟩) (n - k) (cap - k), .int .i64 r] w fun e w' => ∃ g m cp, e = .returned (.tuple #[.slice (some ⟨g, 0, none⟩) m cp, .int .i64 0]) ∧ 0 < m ∧ Boxed w' g [.int .i64 0, .int .i64 (T : Nat), .int .i64 D] ∧ Kept w w' := by
  subst hT
  refine (linesBreak_good _ (n - k) _ _ _ w (.inr ⟨b, off + k * 3, cap - k, rfl, by omega, by omega, hw.drop k⟩) r (mayW_drop hm) hr).mono ?_
  rintro e w' ⟨u, he, hu, hn⟩
  have hKK := (kS_is _ r (show 0 < n - k by omega)).unique (isK_drop hK)
  rcases hu with ⟨h0, _⟩ | ⟨g, cp, cur, hv, hpos, h1, h2, h3, h4, h5, h6⟩
  · exfalso
    have := lineN_at (fun i => A (k + i)) (n - k) r
    rw [h0] at this
    have : (0 : Nat) = n - k := this
    omega
  · obtain ⟨e0, e1, e2⟩ := h6 0 hpos
    refine ⟨g, _, cp, by rw [he, hv], hpos, ⟨h4.lt, fun j u hu => ?_⟩, hn⟩
    rw [h4.cell]
    have t1 : lt (fun i => A (k + i)) (n - k) r 0 = .int .i64 (K + 1 : Nat) := by
      unfold lt
      rw [lineAt_next (show lineAt (fun i => A (k + i)) (n - k) r 0 < n - k from (by show 0 < n - k; omega)), show lineAt (fun i => A (k + i)) (n - k) r 0 = 0 from rfl, hKK, Nat.zero_add]
    have t2 : lw (fun i => A (k + i)) (n - k) r 0 = .int .i64 D := by
      unfold lw lineW
      rw [show lineAt (fun i => A (k + i)) (n - k) r 0 = 0 from rfl, hKK, wid_drop, show k + 0 = k from rfl, hD]
    match j, hu with
    | 0, hu => simp at hu; subst hu; exact e0
    | 1, hu => simp at hu; subst hu; rw [t1] at e1; exact e1
    | 2, hu => simp at hu; subst hu; rw [t2] at e2; exact e2
theorem linesFrom_no (v : Value) (n : Nat) (S : Nat → ByteArray) (A G : Nat → Int) (f room : Int) (w : World) (hv : WV w v n S A G) (h1 : mayW n A = false) :
    Calls Try.prog 3 #[v, .int .i64 f, .int .i64 room] w fun e w' => e = .returned (.bool true) ∧ Kept w w' := by
  have hk : Kept w w := Kept.refl w
  go_enter Try.func3, Try.ntmps3
  go_wp2_with fail
  refine (awake6_any _).mono ?_
  rintro e w1 ⟨rfl, hn⟩
  replace hk := hk.trans hn
  clear hn
  go_wp2_with fail
  refine (linesMay_any _ n S A G _ (hv.kept hk)).mono ?_
  rintro e w1 ⟨rfl, hn⟩
  replace hk := hk.trans hn
  clear hn
  go_wp2
  go_ret
  exact ⟨rfl, hk⟩
theorem linesFrom_none (o : Option Addr) (cap : Nat) (f room : Int) (w : World) :
    Calls Try.prog 3 #[.slice o 0 cap, .int .i64 f, .int .i64 room] w fun e w' => e = .returned (.bool true) ∧ Kept w w' := by
  have hm : mayW 0 G0 = true := rfl
  have hk : Kept w w := Kept.refl w
  go_enter Try.func3, Try.ntmps3
  go_wp2_with fail
  refine (awake6_any _).mono ?_
  rintro e w1 ⟨rfl, hn⟩
  replace hk := hk.trans hn
  clear hn
  go_wp2_with fail
  refine (linesMay_none _ _ G0 _).mono ?_
  rintro e w1 ⟨rfl, hn⟩
  replace hk := hk.trans hn
  clear hn
  go_wp2
  go_ret
  exact ⟨rfl, hk⟩
set_option maxHeartbeats 2000000 in
theorem linesFrom_some (b off n cap : Nat) (S : Nat → ByteArray) (A G : Nat → Int) (f room : Int) (w : World) (hw : WordsAt w b off n S A G) (hn0 : 0 < n) (hcap : n ≤ cap) (h1 : mayW n A = true) :
    Calls Try.prog 3 #[.slice (some ⟨b, off, none⟩) n cap, .int .i64 f, .int .i64 room] w fun e w' => e = .returned (.bool true) ∧ Kept w w' := by
  have h8 : n ≤ 80 := (mayW_true.1 h1).1
  obtain ⟨r, hr, r1, r2⟩ := masked room 14 16383 (by decide) (by decide)
  obtain ⟨i, hi, i1, i2⟩ := urest f (n : Int) (by omega) (by omega)
  obtain ⟨k, rfl⟩ := Int.eq_ofNat_of_zero_le i1
  have hkn : k < n := by omega
  have hrm : mayB r = true := mayB_true.2 ⟨by omega, by omega⟩
  obtain ⟨K, hK⟩ : ∃ K, IsK A n r k K := isK_some A r hkn
  obtain ⟨D, hD⟩ : ∃ D, wid A k K = D := ⟨_, rfl⟩
  obtain ⟨T, hT⟩ : ∃ T, K + 1 = T := ⟨_, rfl⟩
  have H1 := Lib.hid (fun wx (hx : Kept w wx) => from_k b off n cap k K T S A G r D wx (hw.kept hx) hcap hkn h1 hrm hK hD hT)
  have H2 := Lib.hid (fun wx (hx : Kept w wx) => from_0 b off n cap k K T S A G r D wx (hw.kept hx) hcap hkn h1 hrm hK hD hT)
  have H3 := Lib.hid (fun wx (hx : Kept w wx) => from_b b off n cap k K T S A G r D wx (hw.kept hx) hcap hkn h1 hrm hK hD hT)
  have HM := Lib.hid (fun wx (hx : Kept w wx) => linesMay_some b off n cap S A G wx (hw.kept hx))
  have hKn := hK.le
  have hTn : k + T ≤ 80 := by omega
  have hkt : IntKind.i64.wrap ((k : Int) + (T : Int)) = (k : Int) + (T : Int) := IntWalk.i64_in _ (by omega)
  clear hD hK hw hrm hT hKn
  have hun : IntKind.u64.wrap (n : Int) = n := by rw [IntKind.wrap_u64]; omega
  have hnn : (n : Int) ≠ 0 := by omega
  have hni : n ≠ 0 := by omega
  have hk : Kept w w := Kept.refl w
  go_enter Try.func3, Try.ntmps3
  go_wp2_with fail
  refine (awake6_any _).mono ?_
  rintro e w1 ⟨rfl, hn⟩
  replace hk := hk.trans hn
  clear hn
  go_wp2_with fail
  refine (HM.out _ hk).mono ?_
  rintro e w1 ⟨rfl, hn⟩
  replace hk := hk.trans hn
  clear hn
  go_wp2_with fail
  refine (H1.out _ hk).mono ?_
  rintro e w1 ⟨rfl, hn⟩
  replace hk := hk.trans hn
  clear hn
  go_wp2_with fail
  refine with_boxes1 ?_
  intro X hX a
  have hsz := hk.size
  replace hk := hk.trans hX
  clear hX
  replace a_l := a.lt
  replace a_0 := a.at 0 _ rfl
  replace a_1 := a.at 1 _ rfl
  replace a_2 := a.at 2 _ rfl
  refine (H3.out _ hk).mono ?_
  rintro e w1 ⟨g, m, cp, rfl, hm, gx, hn⟩
  replace hk := hk.trans hn
  replace a := a.kept hn
  clear hn
  replace a_l := a.lt
  replace a_0 := a.at 0 _ rfl
  replace a_1 := a.at 1 _ rfl
  replace a_2 := a.at 2 _ rfl
  go_wp2_with fail
  refine (num_any _ _).mono ?_
  rintro e w1 ⟨rfl, rfl⟩
  go_wp2_with fail
  refine (num_any _ _).mono ?_
  rintro e w1 ⟨rfl, rfl⟩
  go_wp2_with fail
  refine (H2.out _ hk).mono ?_
  rintro e w1 ⟨rfl, hn⟩
  replace hk := hk.trans hn
  replace a := a.kept hn
  replace gx := gx.kept hn
  clear hn
  replace a_l := a.lt
  replace a_0 := a.at 0 _ rfl
  replace a_1 := a.at 1 _ rfl
  replace a_2 := a.at 2 _ rfl
  go_wp2_with fail
  refine code_boxes1 ?_
  intro X hX c
  have hsz := hk.size
  replace hk := hk.trans hX
  replace a := a.kept hX
  replace gx := gx.kept hX
  clear hX
  replace a_l := a.lt
  replace a_0 := a.at 0 _ rfl
  replace a_1 := a.at 1 _ rfl
  replace a_2 := a.at 2 _ rfl
  replace c_l := c.lt
  replace c_0 := c.at 0 _ rfl
  replace c_1 := c.at 1 _ rfl
  replace c_2 := c.at 2 _ rfl
  have gx_l := gx.lt
  have gx_0 := gx.cell 0 _ rfl
  have gx_1 := gx.cell 1 _ rfl
  have gx_2 := gx.cell 2 _ rfl
  go_quiet (first
    | (go_at_call 10; exact Calls.quiet_of_same ((num_any _ _).mono fun _ _ h => ⟨h.1, h.2.symm⟩)))
  go_wp2
  go_ret
  exact ⟨rfl, (by first | ((repeat (first | with_reducible exact hk | with_reducible refine Kept.alloc ?_ _ | with_reducible refine Kept.drew ?_ | with_reducible refine Kept.drewN ?_ _ | with_reducible refine Kept.set ?_ (by first | (simp; done) | (simp; omega) | omega) _)); done) | exact hk | exact (hk.alloc _) | exact ((hk.alloc _).alloc _) | exact (((hk.alloc _).alloc _).alloc _) | exact ((((hk.alloc _).alloc _).alloc _).alloc _) | exact (((((hk.alloc _).alloc _).alloc _).alloc _).alloc _) | exact ((((((hk.alloc _).alloc _).alloc _).alloc _).alloc _).alloc _) | (repeat (first | exact hk | refine Kept.alloc ?_ _ | refine Kept.drew ?_ | refine Kept.drewN ?_ _ | refine Kept.set ?_ (by first | (simp; done) | (simp; omega) | omega) _)))⟩
theorem linesFrom_walk (v : Value) (n : Nat) (S : Nat → ByteArray) (A G : Nat → Int) (f room : Int) (w : World) (hv : WV w v n S A G) (_hf : Fair n S A G) (_hn : n ≤ 4398046510976) :
    Calls Try.prog 3 #[v, .int .i64 f, .int .i64 room] w fun e w' => e = .returned (.bool true) ∧ Kept w w' := by
  cases h1 : mayW n A with
  | false => exact linesFrom_no v n S A G f room w hv h1
  | true =>
    rcases hv with ⟨rfl, o, cap, rfl⟩ | ⟨b, off, cap, rfl, h2, h3, hw⟩
    · exact linesFrom_none o cap f room w
    · exact linesFrom_some b off n cap S A G f room w hw h2 h3 h1
end Go.Proofs.Ytkonpnaedniceaa
