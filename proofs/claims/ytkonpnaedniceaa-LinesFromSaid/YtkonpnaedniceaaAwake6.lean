/- Layer 6: what every program answers that is one. -/
import Derived.Test.YtkonpnaedniceaaBreak
import Derived.Test.YtkonpnaedniceaaNum
namespace Go.Proofs.Ytkonpnaedniceaa
open Go.RowKit
set_option linter.unusedSimpArgs false
set_option linter.unusedVariables false
def S0 : Nat → ByteArray := fun _ => ByteArray.empty
def G0 : Nat → Int := fun _ => 0
/-- the advances of a list, none behind it -/
def advL (l : List Int) (i : Nat) : Int := l.getD i 0
theorem wv_lit {w : World} {b n cap : Nat} {t : TypeId} {cs : Array Value} {A : Nat → Int} (h : Own w b t cs) (hp : 0 < n) (hcap : n ≤ cap) (hc : ∀ i, i < n → cs[i * 3]? = some (.string ByteArray.empty) ∧ cs[i * 3 + 1]? = some (.int .i64 (A i)) ∧ cs[i * 3 + 2]? = some (.int .i64 0)) :
    WV w (.slice (some ⟨b, 0, none⟩) n cap) n S0 A G0 :=
  .inr ⟨b, 0, cap, rfl, hp, hcap, ⟨fun i hi => by rw [Nat.zero_add]; exact (h.cell _).trans (hc i hi).1, fun i hi => by rw [Nat.zero_add]; exact (h.cell _).trans (hc i hi).2.1, fun i hi => by rw [Nat.zero_add]; exact (h.cell _).trans (hc i hi).2.2⟩⟩
theorem wv_three {w : World} {b : Nat} {t : TypeId} {x y z : Int} (h : Own w b t #[.string ByteArray.empty, .int .i64 x, .int .i64 0, .string ByteArray.empty, .int .i64 y, .int .i64 0, .string ByteArray.empty, .int .i64 z, .int .i64 0]) :
    WV w (.slice (some ⟨b, 0, none⟩) 3 3) 3 S0 (advL [x, y, z]) G0 :=
  wv_lit h (by decide) (by decide) fun i hi => by
    match i, hi with
    | 0, _ => exact ⟨rfl, rfl, rfl⟩
    | 1, _ => exact ⟨rfl, rfl, rfl⟩
    | 2, _ => exact ⟨rfl, rfl, rfl⟩
theorem wv_two {w : World} {b : Nat} {t : TypeId} {x y : Int} (h : Own w b t #[.string ByteArray.empty, .int .i64 x, .int .i64 0, .string ByteArray.empty, .int .i64 y, .int .i64 0]) :
    WV w (.slice (some ⟨b, 0, none⟩) 2 2) 2 S0 (advL [x, y]) G0 :=
  wv_lit h (by decide) (by decide) fun i hi => by
    match i, hi with
    | 0, _ => exact ⟨rfl, rfl, rfl⟩
    | 1, _ => exact ⟨rfl, rfl, rfl⟩
theorem wv_one {w : World} {b : Nat} {t : TypeId} {x : Int} (h : Own w b t #[.string ByteArray.empty, .int .i64 x, .int .i64 0]) :
    WV w (.slice (some ⟨b, 0, none⟩) 1 1) 1 S0 (advL [x]) G0 :=
  wv_lit h (by decide) (by decide) fun i hi => by
    match i, hi with
    | 0, _ => exact ⟨rfl, rfl, rfl⟩
theorem a3_may : mayW 3 (advL [500, 300, 900]) = true := by decide
theorem a3_k : IsK (advL [500, 300, 900]) 3 1056 0 1 := ⟨fun j hj => by match j, hj with | 0, _ => decide, by decide, fun _ => by decide⟩
theorem a3_each : lineN (advL [500, 300, 900]) 3 0 = 3 :=
  (lineN_each fun f hf => (kS_is _ 0 hf).unique ⟨fun j hj => by omega, by omega, fun h => by
    match f, h with
    | 0, _ => decide
    | 1, _ => decide⟩).1
theorem aw6_fill (v : Value) (w : World) (h : WV w v 3 S0 (advL [500, 300, 900]) G0) :
    Calls Try.prog 8 #[v, .int .i64 0, .int .i64 1056] w fun e w' => e = .returned (.tuple #[lineV 0 2 1056, .int .i64 0]) ∧ Kept w w' := by
  have := linesFill_good v 3 S0 _ G0 w h 0 1056 (by decide) a3_may (by decide)
  rw [(kS_is _ 1056 (by decide : 0 < 3)).unique a3_k] at this
  exact this
theorem aw6_break (v : Value) (w : World) (h : WV w v 3 S0 (advL [500, 300, 900]) G0) :
    Calls Try.prog 9 #[v, .int .i64 0] w fun e w' => ∃ o cap, e = .returned (.tuple #[.slice o 3 cap, .int .i64 0]) ∧ Kept w w' :=
  (linesBreak_good v 3 S0 _ G0 w h 0 a3_may (by decide)).mono fun e w' ⟨u, he, hu, hk⟩ => by
    rw [a3_each] at hu
    rcases hu with ⟨h0, _⟩ | ⟨b, cap, cur, hv, _⟩
    · omega
    · exact ⟨_, cap, by rw [he, hv], hk⟩
set_option maxHeartbeats 1000000 in
theorem awake6_any (w : World) :
    Calls Try.prog 6 #[] w fun e w' => e = .returned (.bool true) ∧ Kept w w' := by
  have e1 := a3_may
  have hk : Kept w w := Kept.refl w
  go_enter Try.func6, Try.ntmps6
  go_wp2_with fail
  refine with_boxes1 ?_
  intro X hX a
  have hsz := hk.size
  replace hk := hk.trans hX
  clear hX
  refine (aw6_fill _ _ (wv_three a)).mono ?_
  rintro e w1 ⟨rfl, hn⟩
  replace hk := hk.trans hn
  replace a := a.kept hn
  clear hn
  go_wp2_with fail
  refine with_boxes1 ?_
  intro X hX l
  have hsz := hk.size
  replace hk := hk.trans hX
  replace a := a.kept hX
  clear hX
  replace l_l := l.lt
  replace l_0 := l.at 0 _ rfl
  replace l_1 := l.at 1 _ rfl
  replace l_2 := l.at 2 _ rfl
  refine (aw6_break _ _ (wv_three a)).mono ?_
  rintro e w1 ⟨sl, cap, rfl, hn⟩
  replace hk := hk.trans hn
  replace a := a.kept hn
  replace l := l.kept hn
  clear hn
  replace l_l := l.lt
  replace l_0 := l.at 0 _ rfl
  replace l_1 := l.at 1 _ rfl
  replace l_2 := l.at 2 _ rfl
  go_wp2_with fail
  refine (linesFill_wrong _ 3 S0 _ G0 _ (wv_three a) 3 1 (.inr (.inr (.inl (by decide))))).mono ?_
  rintro e w1 ⟨rfl, hn⟩
  replace hk := hk.trans hn
  replace a := a.kept hn
  replace l := l.kept hn
  clear hn
  replace l_l := l.lt
  replace l_0 := l.at 0 _ rfl
  replace l_1 := l.at 1 _ rfl
  replace l_2 := l.at 2 _ rfl
  go_wp2_with fail
  refine with_boxes2 ?_
  intro X hX B0 b
  have hsz := hk.size
  replace hk := hk.trans hX
  replace a := a.kept hX
  replace l := l.kept hX
  clear hX B0
  replace l_l := l.lt
  replace l_0 := l.at 0 _ rfl
  replace l_1 := l.at 1 _ rfl
  replace l_2 := l.at 2 _ rfl
  refine (linesBreak_wrong _ 1 S0 _ G0 _ (wv_one b) 1 (.inl (by decide))).mono ?_
  rintro e w1 ⟨rfl, hn⟩
  replace hk := hk.trans hn
  replace a := a.kept hn
  replace l := l.kept hn
  replace b := b.kept hn
  clear hn
  replace l_l := l.lt
  replace l_0 := l.at 0 _ rfl
  replace l_1 := l.at 1 _ rfl
  replace l_2 := l.at 2 _ rfl
  go_wp2_with fail
  refine (num_any _ _).mono ?_
  rintro e w1 ⟨rfl, rfl⟩
  go_wp2_with fail
  refine (num_any _ _).mono ?_
  rintro e w1 ⟨rfl, rfl⟩
  go_wp2_with fail
  refine (num_any _ _).mono ?_
  rintro e w1 ⟨rfl, rfl⟩
  go_wp2_with fail
  refine (num_any _ _).mono ?_
  rintro e w1 ⟨rfl, rfl⟩
  go_wp2_with fail
  refine (linesMay_any _ 3 S0 _ G0 _ (wv_three a)).mono ?_
  rintro e w1 ⟨rfl, hn⟩
  replace hk := hk.trans hn
  replace a := a.kept hn
  replace l := l.kept hn
  replace b := b.kept hn
  clear hn
  replace l_l := l.lt
  replace l_0 := l.at 0 _ rfl
  replace l_1 := l.at 1 _ rfl
  replace l_2 := l.at 2 _ rfl
  go_wp2
  go_ret
  exact ⟨rfl, hk⟩
end Go.Proofs.Ytkonpnaedniceaa
