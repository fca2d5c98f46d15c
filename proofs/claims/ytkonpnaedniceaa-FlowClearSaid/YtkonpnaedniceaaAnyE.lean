/- Layer 17: does one stand there? -/
import Derived.Test.YtkonpnaedniceaaNextE
namespace Go.Proofs.Ytkonpnaedniceaa
open Go.RowKit Go.Deep
set_option linter.unusedSimpArgs false
set_option linter.unusedVariables false
def anyE (E : Nat → Exc) (y h : Int) : Nat → Bool
  | 0 => false
  | n + 1 => anyE E y h n || meetsB (E n) y h
theorem anyE_yes {E : Nat → Exc} {y h : Int} {k n : Nat} (hk : k < n) (hm : meetsB (E k) y h = true) : anyE E y h n = true := by
  induction n with
  | zero => omega
  | succ n ih =>
    unfold anyE
    rcases Nat.lt_or_ge k n with h1 | h1
    · rw [ih h1]; rfl
    · obtain rfl : k = n := by omega
      rw [hm, Bool.or_true]
theorem anyE_some {E : Nat → Exc} {y h : Int} {n : Nat} (ha : anyE E y h n = true) : ∃ k, k < n ∧ meetsB (E k) y h = true := by
  induction n with
  | zero => cases ha
  | succ n ih =>
    unfold anyE at ha
    rw [Bool.or_eq_true] at ha
    rcases ha with h1 | h1
    · obtain ⟨k, hk, hm⟩ := ih h1
      exact ⟨k, by omega, hm⟩
    · exact ⟨n, by omega, h1⟩
theorem anyClosure_any (x : Exc) (y h : Int) (p q : Nat) (w : World) (hp : w.cell? ⟨p, 0, none⟩ = some (.int .i64 y)) (hq : w.cell? ⟨q, 0, none⟩ = some (.int .i64 h)) (hx : 0 ≤ x.ab ∧ x.ab ≤ 8388608 ∧ 0 ≤ x.sb ∧ x.sb ≤ 8388608) (hy : 0 ≤ y ∧ y ≤ 1073741824) (hh : h ≤ 1073741824) :
    Calls Try.prog 38 #[x.V, .pointer (some ⟨p, 0, none⟩), .pointer (some ⟨q, 0, none⟩)] w fun e w' => e = .returned (.bool (meetsB x y h)) ∧ Kept w w' := by
  have lp := World.block_lt_of_cell? w _ hp
  have lq := World.block_lt_of_cell? w _ hq
  have hk : Kept w w := Kept.refl w
  go_enter Try.func38, Try.ntmps38
  go_wp2_with fail
  refine with_boxes1 ?_
  intro X hX b
  have hsz := hk.size
  replace hk := hk.trans hX
  clear hX
  replace b_l := b.lt
  replace b_0 := b.at 0 _ rfl
  replace b_1 := b.at 1 _ rfl
  replace b_2 := b.at 2 _ rfl
  replace b_3 := b.at 3 _ rfl
  replace b_4 := b.at 4 _ rfl
  refine (besideMeets_any x y h _ hx hy hh).mono ?_
  rintro e w1 ⟨rfl, hn⟩
  replace hk := hk.trans hn
  replace b := b.kept hn
  clear hn
  replace b_l := b.lt
  replace b_0 := b.at 0 _ rfl
  replace b_1 := b.at 1 _ rfl
  replace b_2 := b.at 2 _ rfl
  replace b_3 := b.at 3 _ rfl
  replace b_4 := b.at 4 _ rfl
  go_wp2
  go_ret
  exact ⟨rfl, hk⟩
def FirstAny (E : Nat → Exc) (y h : Int) (n : Nat) (w : World) (e : Ending) (w' : World) : Prop :=
  ∃ z : Int, e = .returned (.int .i64 z) ∧ (0 ≤ z ↔ anyE E y h n = true) ∧ -1 ≤ z ∧ Kept w w'
set_option maxHeartbeats 1000000 in
theorem indexAny_some (b off n cap p q : Nat) (Z : Nat → Nat → Int) (y h : Int) (w : World) (hw : RowAt w b off 5 n (intC Z)) (hn : n ≤ 32) (ha : allE (excOf Z) n = true) (hp : w.cell? ⟨p, 0, none⟩ = some (.int .i64 y)) (hq : w.cell? ⟨q, 0, none⟩ = some (.int .i64 h)) (hy : 0 ≤ y ∧ y ≤ 1073741824) (hh : h ≤ 1073741824) :
    Calls Try.prog 33 #[.slice (some ⟨b, off, none⟩) n cap, .func (.func 38) #[] #[.pointer (some ⟨p, 0, none⟩), .pointer (some ⟨q, 0, none⟩)]] w (FirstAny (excOf Z) y h n w) := by
  have HA := Lib.hid (fun k hk => excB_parts (allE_yes ha k hk))
  have lp := World.block_lt_of_cell? w _ hp
  have lq := World.block_lt_of_cell? w _ hq
  have HP := Lib.hid (fun wx (hx : Kept w wx) => And.intro ((hx.cell lp).trans hp) ((hx.cell lq).trans hq))
  clear ha hp hq lp lq
  go_enter Try.func33, Try.ntmps33
  go_wp2
  go_loopw [4, 5, 8] (fun _ _ i wx => ∃ k : Nat, k ≤ n ∧ i = .int .i64 k ∧ Kept w wx ∧ anyE (excOf Z) y h k = false) (fun _ _ i _ => n - (intOf i).toNat)
  case atStart => exact ⟨0, Nat.zero_le _, rfl, Kept.refl _, rfl⟩
  case round =>
    obtain ⟨k, hk4, rfl, hk, hal⟩ := hrel
    have hal' := Lib.hid hal
    clear hal
    by_cases hlt : k < n
    · have hi1 : (k : Int) < (n : Int) := by omega
      have c0 : wr.cell? ⟨b, off + k * 5, none⟩ = some (.int .i64 (excOf Z k).ai) := (hw.kept hk) k 0 hlt (by decide)
      have c1 : wr.cell? ⟨b, off + k * 5 + 1, none⟩ = some (.int .i64 (excOf Z k).ab) := (hw.kept hk) k 1 hlt (by decide)
      have c2 : wr.cell? ⟨b, off + k * 5 + 2, none⟩ = some (.int .i64 (excOf Z k).si) := (hw.kept hk) k 2 hlt (by decide)
      have c3 : wr.cell? ⟨b, off + k * 5 + 3, none⟩ = some (.int .i64 (excOf Z k).sb) := (hw.kept hk) k 3 hlt (by decide)
      have c4 : wr.cell? ⟨b, off + k * 5 + 4, none⟩ = some (.int .i64 (excOf Z k).side) := (hw.kept hk) k 4 hlt (by decide)
      have b2 := HA.out k hlt
      obtain ⟨hp, hq⟩ := HP.out _ hk
      have HYES := Lib.hid (fun hb => anyE_yes (E := excOf Z) (y := y) (h := h) hlt hb)
      have HNO := Lib.hid (fun (hb : meetsB (excOf Z k) y h = false) => (show anyE (excOf Z) y h (k + 1) = false by unfold anyE; rw [hal'.out, hb]; rfl))
      generalize excOf Z k = x at *
      cases hb : meetsB x y h
      · have hno := Lib.hid (HNO.out hb)
        clear HNO HYES
        go_wp2_with fail
        refine (anyClosure_any x y h p q _ hp hq (by omega) hy hh).mono ?_
        rintro e w1 ⟨rfl, hn1⟩
        clear hp hq
        go_wp2
        go_roundw
        case rel => exact ⟨k + 1, by omega, by go_num, hk.trans hn1, hno.out⟩
        case measure => simp [intOf]; omega
      · have hyes := Lib.hid (HYES.out hb)
        clear HNO HYES
        go_wp2_with fail
        refine (anyClosure_any x y h p q _ hp hq (by omega) hy hh).mono ?_
        rintro e w1 ⟨rfl, hn1⟩
        clear hp hq
        go_wp2
        go_ret
        exact ⟨_, rfl, ⟨fun _ => hyes.out, fun _ => by omega⟩, by omega, hk.trans hn1⟩
    · obtain rfl : k = n := by omega
      go_wp2
      go_ret
      exact ⟨_, rfl, ⟨fun h => by omega, fun h => by rw [hal'.out] at h; cases h⟩, by omega, hk⟩
theorem indexAny_none (o : Option Addr) (cap : Nat) (f : Value) (E : Nat → Exc) (y h : Int) (w : World) :
    Calls Try.prog 33 #[.slice o 0 cap, f] w (FirstAny E y h 0 w) := by
  go_enter Try.func33, Try.ntmps33
  go_wp2
  refine wp_loop_rounds 1 ?_
  rw [rounds_succ]
  go_wp2
  go_ret
  exact ⟨-1, rfl, ⟨fun h => by omega, fun h => by unfold anyE at h; cases h⟩, by omega, Kept.refl _⟩
theorem indexAny_any (v : Value) (n p q : Nat) (Z : Nat → Nat → Int) (y h : Int) (w : World) (hv : RV 5 w v n (intC Z)) (hn : n ≤ 32) (ha : allE (excOf Z) n = true) (hp : w.cell? ⟨p, 0, none⟩ = some (.int .i64 y)) (hq : w.cell? ⟨q, 0, none⟩ = some (.int .i64 h)) (hy : 0 ≤ y ∧ y ≤ 1073741824) (hh : h ≤ 1073741824) :
    Calls Try.prog 33 #[v, .func (.func 38) #[] #[.pointer (some ⟨p, 0, none⟩), .pointer (some ⟨q, 0, none⟩)]] w (FirstAny (excOf Z) y h n w) := by
  rcases hv with ⟨rfl, o, cap, rfl⟩ | ⟨b, off, cap, rfl, _, _, hi⟩
  · exact indexAny_none _ _ _ _ _ _ _
  · exact indexAny_some _ _ _ _ _ _ _ _ _ _ hi hn ha hp hq hy hh
theorem containsAny_any (v : Value) (n p q : Nat) (Z : Nat → Nat → Int) (y h : Int) (w : World) (hv : RV 5 w v n (intC Z)) (hn : n ≤ 32) (ha : allE (excOf Z) n = true) (hp : w.cell? ⟨p, 0, none⟩ = some (.int .i64 y)) (hq : w.cell? ⟨q, 0, none⟩ = some (.int .i64 h)) (hy : 0 ≤ y ∧ y ≤ 1073741824) (hh : h ≤ 1073741824) :
    Calls Try.prog 25 #[v, .func (.func 38) #[] #[.pointer (some ⟨p, 0, none⟩), .pointer (some ⟨q, 0, none⟩)]] w fun e w' => e = .returned (.bool (anyE (excOf Z) y h n)) ∧ Kept w w' := by
  have HI := Lib.hid (indexAny_any v n p q Z y h w hv hn ha hp hq hy hh)
  clear hp hq ha
  have hk : Kept w w := Kept.refl w
  go_enter Try.func25, Try.ntmps25
  go_wp2_with fail
  refine HI.out.mono ?_
  rintro e w1 ⟨z, rfl, hz, z1, hn1⟩
  have Hz := Lib.hid hz
  clear hz HI
  rcases Int.lt_or_le z 0 with hl | hl
  all_goals
    go_wp2
    go_ret
    refine ⟨ret_bool ?_, hn1⟩
    cases ha : anyE (excOf Z) y h n
    · first | (have := Hz.out.1 hl; rw [ha] at this; cases this) | (simp; omega)
    · have := Hz.out.2 ha
      first | omega | simp
theorem besideAny_any (v : Value) (n : Nat) (Z : Nat → Nat → Int) (y h : Int) (w : World) (hv : RV 5 w v n (intC Z)) (hn : n ≤ 32) (ha : allE (excOf Z) n = true) (hy : 0 ≤ y ∧ y ≤ 1073741824) (hh : h ≤ 1073741824) :
    Calls Try.prog 31 #[v, .int .i64 y, .int .i64 h] w fun e w' => e = .returned (.bool (anyE (excOf Z) y h n)) ∧ Kept w w' := by
  have HA := Lib.hid ha
  clear ha
  have hk : Kept w w := Kept.refl w
  go_enter Try.func31, Try.ntmps31
  go_wp2_with fail
  refine with_boxes2 ?_
  intro X hX p q
  have hsz := hk.size
  replace hk := hk.trans hX
  clear hX
  replace p_l := p.lt
  replace p_0 := p.at 0 _ rfl
  replace q_l := q.lt
  replace q_0 := q.at 0 _ rfl
  refine (containsAny_any v n _ _ Z y h _ (hv.kept hk) hn HA.out p_0 q_0 hy hh).mono ?_
  rintro e w1 ⟨rfl, hn⟩
  replace hk := hk.trans hn
  replace p := p.kept hn
  replace q := q.kept hn
  clear hn
  replace p_l := p.lt
  replace p_0 := p.at 0 _ rfl
  replace q_l := q.lt
  replace q_0 := q.at 0 _ rfl
  go_wp2
  go_ret
  exact ⟨rfl, hk⟩
end Go.Proofs.Ytkonpnaedniceaa
