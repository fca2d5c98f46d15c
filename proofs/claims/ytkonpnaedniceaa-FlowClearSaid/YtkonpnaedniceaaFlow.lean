/- Layer 18: flow.Flow. -/
import Derived.Test.YtkonpnaedniceaaBFlow
namespace Go.Proofs.Ytkonpnaedniceaa
open Go.RowKit Go.Deep
set_option linter.unusedSimpArgs false
set_option linter.unusedVariables false
/-- how many lines there are -/
noncomputable def Flw.N (F : Flw) : Nat := open Classical in if h : ∃ l, (F.at l).1 = F.m then h.choose else 0
theorem Flw.N_is {F : Flw} {l : Nat} (h : (F.at l).1 = F.m) : F.N = l := by
  have hex : ∃ l, (F.at l).1 = F.m := ⟨l, h⟩
  unfold Flw.N
  rw [dif_pos hex]
  exact F.one hex.choose_spec h
def flowB (F : Flw) : Bool := mayW F.m F.A && inB 0 3 F.how && mayX F.room F.n F.E && inB 0 4194304 F.y
theorem flowB_good {F : Flw} (h : flowB F = true) : F.Good ∧ F.y ≤ 4194304 := by
  unfold flowB at h
  simp only [Bool.and_eq_true, inB_true] at h
  exact ⟨⟨h.1.2, h.1.1.1, h.1.1.2, by omega⟩, by omega⟩
def flowE (F : Flw) : Int := if flowB F = true then 0 else 1800
noncomputable def flowN (F : Flw) : Nat := if flowB F = true then F.N else 0
noncomputable def flowY (F : Flw) : Int := if flowB F = true then (F.at F.N).2 else 0
/-- the answer of Flow -/
def FlowAll (F : Flw) (w : World) (e : Ending) (w' : World) : Prop := ∃ u, e = .returned (.tuple #[u, .int .i64 (flowY F), .int .i64 (flowE F)]) ∧ NewRow 41 4 w w' u (flowN F) (intC F.Z) ∧ Kept w w'
theorem flowAll_no {F : Flw} {w w' : World} (h : flowB F = false) (k : Kept w w') : FlowAll F w (.returned (.tuple #[.slice none 0 0, .int .i64 0, .int .i64 1800])) w' :=
  ⟨_, by unfold flowY flowE; rw [h]; rfl, by unfold flowN; rw [h]; exact newRow_none _ _ _ _ _, k⟩
theorem flowAll_yes {F : Flw} {w w' : World} {l : Nat} {u : Value} (h : flowB F = true) (hl : (F.at l).1 = F.m) (hr : NewRow 41 4 w w' u l (intC F.Z)) (k : Kept w w') : FlowAll F w (.returned (.tuple #[u, .int .i64 (F.at l).2, .int .i64 0])) w' := by
  have e := Flw.N_is hl
  exact ⟨_, by unfold flowY flowE; rw [h, e]; rfl, by unfold flowN; rw [h, e]; exact hr, k⟩
theorem flowN_le (F : Flw) (h : ∃ l, (F.at l).1 = F.m) : flowN F ≤ 80 := by
  unfold flowN
  split
  · rename_i hb
    obtain ⟨l, hl⟩ := h
    rw [Flw.N_is hl]
    have := F.ge l
    have := (mayW_true.1 (flowB_good hb).1.w).1
    omega
  · omega
set_option maxHeartbeats 4000000 in
theorem flowFlow_any (vw : Value) (m : Nat) (S : Nat → ByteArray) (A G : Nat → Int) (how : Int) (v : Value) (n : Nat) (Z : Nat → Nat → Int) (room y : Int) (w : World) (hw : WV w vw m S A G) (hv : RV 5 w v n (intC Z)) (hn : n ≤ 4611686018427387904) :
    Calls Try.prog 14 #[vw, .int .i64 how, v, .int .i64 room, .int .i64 y] w (FlowAll ⟨excOf Z, n, room, A, m, how, y⟩ w) := by
  have hb : flowB ⟨excOf Z, n, room, A, m, how, y⟩ = (mayW m A && inB 0 3 how && mayX room n (excOf Z) && inB 0 4194304 y) := rfl
  cases h1 : mayW m A with
  | false =>
    have Hs := Lib.hid (hb.trans (by rw [h1]; rfl) : flowB ⟨excOf Z, n, room, A, m, how, y⟩ = false)
    clear hb
    have hk : Kept w w := Kept.refl w
    go_enter Try.func14, Try.ntmps14
    go_wp2_with fail
    refine (linesMay_any _ m S A G _ (hw.kept hk)).mono ?_
    rintro e w1 ⟨rfl, hn⟩
    replace hk := hk.trans hn
    clear hn
    go_wp2
    go_ret3
    exact flowAll_no Hs.out hk
  | true =>
    cases h2 : inB 0 3 how with
    | false =>
      have Hs := Lib.hid (hb.trans (by rw [h2, Bool.and_false]; rfl) : flowB ⟨excOf Z, n, room, A, m, how, y⟩ = false)
      clear hb
      have hk : Kept w w := Kept.refl w
      go_enter Try.func14, Try.ntmps14
      go_wp2_with fail
      refine (linesMay_any _ m S A G _ (hw.kept hk)).mono ?_
      rintro e w1 ⟨rfl, hn⟩
      replace hk := hk.trans hn
      clear hn
      go_wp2_with fail
      refine with_boxes1 ?_
      intro X hX q
      have hsz := hk.size
      replace hk := hk.trans hX
      clear hX
      replace q_l := q.lt
      replace q_0 := q.at 0 _ rfl
      refine (each1_any _ _ _ _ _ q_0).mono ?_
      rintro e w1 ⟨rfl, rfl⟩
      go_wp2
      go_ret3
      exact flowAll_no Hs.out hk
    | true =>
      cases h3 : mayX room n (excOf Z) with
      | false =>
        have Hs := Lib.hid (hb.trans (by rw [h3, Bool.and_false]; rfl) : flowB ⟨excOf Z, n, room, A, m, how, y⟩ = false)
        clear hb
        have hk : Kept w w := Kept.refl w
        go_enter Try.func14, Try.ntmps14
        go_wp2_with fail
        refine (linesMay_any _ m S A G _ (hw.kept hk)).mono ?_
        rintro e w1 ⟨rfl, hn⟩
        replace hk := hk.trans hn
        clear hn
        go_wp2_with fail
        refine with_boxes1 ?_
        intro X hX q
        have hsz := hk.size
        replace hk := hk.trans hX
        clear hX
        replace q_l := q.lt
        replace q_0 := q.at 0 _ rfl
        refine (each1_any _ _ _ _ _ q_0).mono ?_
        rintro e w1 ⟨rfl, rfl⟩
        go_wp2_with fail
        refine (bandMay_any _ room n Z _ (hv.kept hk) hn).mono ?_
        rintro e w1 ⟨rfl, hn⟩
        replace hk := hk.trans hn
        replace q := q.kept hn
        clear hn
        replace q_l := q.lt
        replace q_0 := q.at 0 _ rfl
        go_wp2
        go_ret3
        exact flowAll_no Hs.out hk
      | true =>
        cases h4 : inB 0 4194304 y with
        | false =>
          have Hs := Lib.hid (hb.trans (by rw [h4, Bool.and_false]) : flowB ⟨excOf Z, n, room, A, m, how, y⟩ = false)
          clear hb
          have hk : Kept w w := Kept.refl w
          go_enter Try.func14, Try.ntmps14
          go_wp2_with fail
          refine (linesMay_any _ m S A G _ (hw.kept hk)).mono ?_
          rintro e w1 ⟨rfl, hn⟩
          replace hk := hk.trans hn
          clear hn
          go_wp2_with fail
          refine with_boxes1 ?_
          intro X hX q
          have hsz := hk.size
          replace hk := hk.trans hX
          clear hX
          replace q_l := q.lt
          replace q_0 := q.at 0 _ rfl
          refine (each1_any _ _ _ _ _ q_0).mono ?_
          rintro e w1 ⟨rfl, rfl⟩
          go_wp2_with fail
          refine (bandMay_any _ room n Z _ (hv.kept hk) hn).mono ?_
          rintro e w1 ⟨rfl, hn⟩
          replace hk := hk.trans hn
          replace q := q.kept hn
          clear hn
          replace q_l := q.lt
          replace q_0 := q.at 0 _ rfl
          go_wp2_with fail
          refine with_boxes1 ?_
          intro X hX r
          have hsz := hk.size
          replace hk := hk.trans hX
          replace q := q.kept hX
          clear hX
          replace q_l := q.lt
          replace q_0 := q.at 0 _ rfl
          replace r_l := r.lt
          replace r_0 := r.at 0 _ rfl
          refine (each1_any _ _ _ _ _ r_0).mono ?_
          rintro e w1 ⟨rfl, rfl⟩
          go_wp2
          go_ret3
          exact flowAll_no Hs.out hk
        | true =>
          have Hs := Lib.hid (hb.trans (by rw [h1, h2, h3, h4]; rfl) : flowB ⟨excOf Z, n, room, A, m, how, y⟩ = true)
          clear hb
          have hk : Kept w w := Kept.refl w
          go_enter Try.func14, Try.ntmps14
          go_wp2_with fail
          refine (linesMay_any _ m S A G _ (hw.kept hk)).mono ?_
          rintro e w1 ⟨rfl, hn⟩
          replace hk := hk.trans hn
          clear hn
          go_wp2_with fail
          refine with_boxes1 ?_
          intro X hX q
          have hsz := hk.size
          replace hk := hk.trans hX
          clear hX
          replace q_l := q.lt
          replace q_0 := q.at 0 _ rfl
          refine (each1_any _ _ _ _ _ q_0).mono ?_
          rintro e w1 ⟨rfl, rfl⟩
          go_wp2_with fail
          refine (bandMay_any _ room n Z _ (hv.kept hk) hn).mono ?_
          rintro e w1 ⟨rfl, hn⟩
          replace hk := hk.trans hn
          replace q := q.kept hn
          clear hn
          replace q_l := q.lt
          replace q_0 := q.at 0 _ rfl
          go_wp2_with fail
          refine with_boxes1 ?_
          intro X hX r
          have hsz := hk.size
          replace hk := hk.trans hX
          replace q := q.kept hX
          clear hX
          replace q_l := q.lt
          replace q_0 := q.at 0 _ rfl
          replace r_l := r.lt
          replace r_0 := r.at 0 _ rfl
          refine (each1_any _ _ _ _ _ r_0).mono ?_
          rintro e w1 ⟨rfl, rfl⟩
          clear q r
          clear q_l q_0
          clear r_l r_0
          go_wp2_with fail
          refine (besideFlow_any _ m S A G how _ n Z room y _ (hw.kept hk) (hv.kept hk) _ rfl (flowB_good Hs.out).1).mono ?_
          rintro e w2 ⟨l, u, hl, rfl, hu, hn2⟩
          replace hl := Lib.hid hl
          replace hu := hu.earlier hk
          replace hk := hk.trans hn2
          go_wp2
          go_ret3
          exact flowAll_yes Hs.out hl.out hu hk
end Go.Proofs.Ytkonpnaedniceaa
