/- Layer 11: is a node one, wherever it stands? by the program. -/
import Derived.Test.YtpblajjfgnhkdaaDoorNodes
namespace Go.Proofs.YtpblajjfgnhkdaaDoor
open Go.RowKit
set_option linter.unusedSimpArgs false
set_option linter.unusedVariables false
set_option maxHeartbeats 1000000
theorem floats_any (x : Nd) (d : Value) (w : World) :
    Calls Tryd.prog 42 #[ndV x d] w fun e w' => e = .returned (.bool (!plainN x)) ∧ Kept w w' := by
  obtain ⟨pa, ki, fl, cl, m, P, T, te⟩ := x
  have hk := Kept.refl w
  by_cases h0 : fl = 0
  · subst h0
    by_cases h1 : cl = 0
    · subst h1
      go_enter Tryd.func42, Tryd.ntmps42
      go_wp2
      go_ret
      exact ⟨ret_bool (by simp [plainN]), hk.alloc _⟩
    · skip
      go_enter Tryd.func42, Tryd.ntmps42
      go_wp2
      go_ret
      exact ⟨ret_bool (by first | (simp [plainN, h1]; done) | (simp [plainN, h1]; rfl)), hk.alloc _⟩
  · skip
    go_enter Tryd.func42, Tryd.ntmps42
    go_wp2
    go_ret
    exact ⟨ret_bool (by first | (simp [plainN, h0]; done) | (simp [plainN, h0]; rfl)), hk.alloc _⟩
theorem treeRoot_any (x : Nd) (d : Value) (w : World) :
    Calls Tryd.prog 34 #[ndV x d] w fun e w' => e = .returned (.bool (rootB x)) ∧ Kept w w' := by
  have HF := Lib.hid (floats_any x d)
  have Hs := Lib.hid (show rootB x = (x.parent == -1 && !(x.kind == 1) && plainN x) from rfl)
  generalize plainN x = pl at HF Hs
  generalize rootB x = rb at Hs ⊢
  obtain ⟨pa, ki, fl, cl, m, P, T, te⟩ := x
  have hk := Kept.refl w
  by_cases h0 : pa = -1
  · subst h0
    by_cases h1 : ki = 1
    · subst h1
      go_enter Tryd.func34, Tryd.ntmps34
      go_wp2
      go_ret
      exact ⟨ret_bool (by rw [Hs.out]; first | (simp; done) | (simp; rfl)), hk.alloc _⟩
    · skip
      go_enter Tryd.func34, Tryd.ntmps34
      go_wp2_with fail
      refine with_boxes1 ?_
      intro X hX b
      have hsz := hk.size
      replace hk := hk.trans hX
      clear hX
      replace b_l := b.lt
      replace b_0 := b.at 0 _ rfl
      replace b_1 := b.at 1 _ rfl
      replace b_2 := b.at 2 _ rfl
      replace b_3 := b.at 3 _ rfl
      replace b_4 := b.at 4 _ rfl
      replace b_5 := b.at 5 _ rfl
      refine (HF.out _).mono ?_
      rintro e w1 ⟨rfl, hn⟩
      replace hk := hk.trans hn
      replace b := b.kept hn
      clear hn
      replace b_l := b.lt
      replace b_0 := b.at 0 _ rfl
      replace b_1 := b.at 1 _ rfl
      replace b_2 := b.at 2 _ rfl
      replace b_3 := b.at 3 _ rfl
      replace b_4 := b.at 4 _ rfl
      replace b_5 := b.at 5 _ rfl
      go_wp2
      go_ret
      exact ⟨ret_bool (by rw [Hs.out]; first | (simp [h1]; done) | (simp [h1]; rfl)), hk⟩
  · skip
    go_enter Tryd.func34, Tryd.ntmps34
    go_wp2
    go_ret
    exact ⟨ret_bool (by rw [Hs.out]; first | (simp [h0]; done) | (simp [h0]; rfl)), hk.alloc _⟩
theorem under_any (p x : Nd) (dp d : Value) (w : World) :
    Calls Tryd.prog 35 #[ndV p dp, ndV x d] w fun e w' => e = .returned (.bool (underB p x)) ∧ Kept w w' := by
  have HF := Lib.hid (floats_any x d)
  have Hs := Lib.hid (show underB p x = (!(p.kind == 1) && (!(p.kind == 2) || plainN x)) from rfl)
  generalize plainN x = pl at HF Hs
  generalize underB p x = rb at Hs ⊢
  obtain ⟨pa, ki, fl, cl, m, P, T, te⟩ := p
  have hk := Kept.refl w
  by_cases h0 : ki = 1
  · subst h0
    go_enter Tryd.func35, Tryd.ntmps35
    go_wp2
    go_ret
    exact ⟨ret_bool (by rw [Hs.out]; first | (simp; done) | (simp; rfl)), (hk.alloc _).alloc _⟩
  · by_cases h1 : ki = 2
    · subst h1
      go_enter Tryd.func35, Tryd.ntmps35
      go_wp2_with fail
      refine with_boxes2 ?_
      intro X hX a b
      have hsz := hk.size
      replace hk := hk.trans hX
      clear hX
      replace a_l := a.lt
      replace a_0 := a.at 0 _ rfl
      replace a_1 := a.at 1 _ rfl
      replace a_2 := a.at 2 _ rfl
      replace a_3 := a.at 3 _ rfl
      replace a_4 := a.at 4 _ rfl
      replace a_5 := a.at 5 _ rfl
      replace b_l := b.lt
      replace b_0 := b.at 0 _ rfl
      replace b_1 := b.at 1 _ rfl
      replace b_2 := b.at 2 _ rfl
      replace b_3 := b.at 3 _ rfl
      replace b_4 := b.at 4 _ rfl
      replace b_5 := b.at 5 _ rfl
      refine (HF.out _).mono ?_
      rintro e w1 ⟨rfl, hn⟩
      replace hk := hk.trans hn
      replace a := a.kept hn
      replace b := b.kept hn
      clear hn
      replace a_l := a.lt
      replace a_0 := a.at 0 _ rfl
      replace a_1 := a.at 1 _ rfl
      replace a_2 := a.at 2 _ rfl
      replace a_3 := a.at 3 _ rfl
      replace a_4 := a.at 4 _ rfl
      replace a_5 := a.at 5 _ rfl
      replace b_l := b.lt
      replace b_0 := b.at 0 _ rfl
      replace b_1 := b.at 1 _ rfl
      replace b_2 := b.at 2 _ rfl
      replace b_3 := b.at 3 _ rfl
      replace b_4 := b.at 4 _ rfl
      replace b_5 := b.at 5 _ rfl
      go_wp2
      go_ret
      exact ⟨ret_bool (by rw [Hs.out]; first | (simp; done) | (simp; rfl)), hk⟩
    · skip
      go_enter Tryd.func35, Tryd.ntmps35
      go_wp2
      go_ret
      exact ⟨ret_bool (by rw [Hs.out, show (ki == 1) = false by simpa using h0, show (ki == 2) = false by simpa using h1]; show (!(ki == 1)) = _; rw [show (ki == 1) = false by simpa using h0]; rfl), (hk.alloc _).alloc _⟩
theorem oddDecl11_any (p : Int) (v : ByteArray) (w : World) (ht : NameT w) (hv : v.size ≤ 140737488355328) :
    Calls Tryd.prog 44 #[.agg #[.int .i64 p, .string v]] w fun e w' => e = .returned (.bool (!declB p v)) ∧ Kept w w' := by
  obtain ⟨x, E, H, hE⟩ := propNameT_err p
  have Hs := Lib.hid (show declB p v = (inB 0 28 p && decide (v.size ≤ 16)) from rfl)
  have H2 := Lib.hid H
  clear H
  cases h0 : inB 0 28 p with
  | false =>
    have hE0 : ¬ E = 0 := by rw [h0] at hE; simpa using hE
    clear hE
    have hk : Kept w w := Kept.refl w
    go_enter Tryd.func44, Tryd.ntmps44
    go_wp2_with fail
    refine with_boxes1 ?_
    intro X hX d
    have hsz := hk.size
    replace hk := hk.trans hX
    clear hX
    replace d_l := d.lt
    replace d_0 := d.at 0 _ rfl
    replace d_1 := d.at 1 _ rfl
    refine (H2.out _ (ht.kept hk)).mono ?_
    rintro e w1 ⟨rfl, hn⟩
    replace hk := hk.trans hn
    replace d := d.kept hn
    clear hn
    replace d_l := d.lt
    replace d_0 := d.at 0 _ rfl
    replace d_1 := d.at 1 _ rfl
    go_wp2
    go_ret
    exact ⟨ret_bool (by rw [Hs.out, h0]; first | rfl | (simp; done)), hk⟩
  | true =>
    obtain rfl : E = 0 := by rw [h0] at hE; simpa using hE
    clear hE
    by_cases h1 : (v.size : Int) ≤ 16
    · skip
      have hk : Kept w w := Kept.refl w
      go_enter Tryd.func44, Tryd.ntmps44
      go_wp2_with fail
      refine with_boxes1 ?_
      intro X hX d
      have hsz := hk.size
      replace hk := hk.trans hX
      clear hX
      replace d_l := d.lt
      replace d_0 := d.at 0 _ rfl
      replace d_1 := d.at 1 _ rfl
      refine (H2.out _ (ht.kept hk)).mono ?_
      rintro e w1 ⟨rfl, hn⟩
      replace hk := hk.trans hn
      replace d := d.kept hn
      clear hn
      replace d_l := d.lt
      replace d_0 := d.at 0 _ rfl
      replace d_1 := d.at 1 _ rfl
      go_wp2
      go_ret
      exact ⟨ret_bool (by rw [Hs.out, h0, decide_eq_true (show v.size ≤ 16 by omega)]; first | (simp; done) | (simp; omega)), hk⟩
    · skip
      have hk : Kept w w := Kept.refl w
      go_enter Tryd.func44, Tryd.ntmps44
      go_wp2_with fail
      refine with_boxes1 ?_
      intro X hX d
      have hsz := hk.size
      replace hk := hk.trans hX
      clear hX
      replace d_l := d.lt
      replace d_0 := d.at 0 _ rfl
      replace d_1 := d.at 1 _ rfl
      refine (H2.out _ (ht.kept hk)).mono ?_
      rintro e w1 ⟨rfl, hn⟩
      replace hk := hk.trans hn
      replace d := d.kept hn
      clear hn
      replace d_l := d.lt
      replace d_0 := d.at 0 _ rfl
      replace d_1 := d.at 1 _ rfl
      go_wp2
      go_ret
      exact ⟨ret_bool (by rw [Hs.out, h0, decide_eq_false (show ¬ v.size ≤ 16 by omega)]; first | (simp; done) | (simp; omega)), hk⟩
def FirstOdd11 (P : Nat → Int) (T : Nat → ByteArray) (n : Nat) (w : World) (e : Ending) (w' : World) : Prop :=
  ∃ z : Int, e = .returned (.int .i64 z) ∧ (0 ≤ z ↔ declsB P T n = false) ∧ -1 ≤ z ∧ Kept w w'
theorem indexDecls11_any (o : Option Addr) (n cap : Nat) (P : Nat → Int) (T : Nat → ByteArray) (w : World) (hv : RV 2 w (.slice o n cap) n (declC P T)) (hn : n ≤ 4611686018427387904) (hT : ∀ i, i < n → (T i).size ≤ 140737488355328) (ht : NameT w) :
    Calls Tryd.prog 52 #[.slice o n cap, .func (.func 44) #[] #[]] w (FirstOdd11 P T n w) := by
  have HV := Lib.hid hv
  have HT := Lib.hid hT
  clear hT
  go_enter Tryd.func52, Tryd.ntmps52
  go_wp2
  go_loopw [4, 5, 8] (fun _ _ i wx => ∃ k : Nat, k ≤ n ∧ i = .int .i64 k ∧ Kept w wx ∧ declsB P T k = true) (fun _ _ i _ => n - (intOf i).toNat)
  case atStart => exact ⟨0, Nat.zero_le _, rfl, Kept.refl _, rfl⟩
  case round =>
    obtain ⟨k, hk4, rfl, hk, hal⟩ := hrel
    have hal' := Lib.hid hal
    clear hal
    by_cases hlt : k < n
    · have hi1 : (k : Int) < (n : Int) := by omega
      obtain ⟨b, off, rfl, hle, hrow⟩ := (HV.out.kept hk).row (by omega)
      have c0 : wr.cell? ⟨b, off + k * 2, none⟩ = some (.int .i64 (P k)) := hrow k 0 hlt (by decide)
      have c1 : wr.cell? ⟨b, off + k * 2 + 1, none⟩ = some (.string (T k)) := hrow k 1 hlt (by decide)
      clear hrow
      cases hb : declB (P k) (T k)
      · have hno := Lib.hid (declsB_no (P := P) (T := T) hlt hb)
        have hb' := Lib.hid hb
        clear hb
        go_wp2_with fail
        refine (oddDecl11_any (P k) (T k) _ (ht.kept hk) (HT.out k hlt)).mono ?_
        rintro e w1 ⟨rfl, hn1⟩
        rw [hb'.out]
        go_wp2
        go_ret
        exact ⟨_, rfl, ⟨fun _ => hno.out, fun _ => by omega⟩, by omega, hk.trans hn1⟩
      · have hyes := Lib.hid (show declsB P T (k + 1) = true by unfold declsB; rw [hal'.out, hb]; rfl)
        have hb' := Lib.hid hb
        clear hb
        go_wp2_with fail
        refine (oddDecl11_any (P k) (T k) _ (ht.kept hk) (HT.out k hlt)).mono ?_
        rintro e w1 ⟨rfl, hn1⟩
        rw [hb'.out]
        go_wp2
        go_roundw
        case rel => exact ⟨k + 1, by omega, by go_num, hk.trans hn1, hyes.out⟩
        case measure => simp [intOf]; omega
    · obtain rfl : k = n := by omega
      go_wp2
      go_ret
      exact ⟨_, rfl, ⟨fun h => by omega, fun h => by rw [hal'.out] at h; cases h⟩, by omega, hk⟩
theorem containsDecls11_any (o : Option Addr) (n cap : Nat) (P : Nat → Int) (T : Nat → ByteArray) (w : World) (hv : RV 2 w (.slice o n cap) n (declC P T)) (hn : n ≤ 4611686018427387904) (hT : ∀ i, i < n → (T i).size ≤ 140737488355328) (ht : NameT w) :
    Calls Tryd.prog 43 #[.slice o n cap, .func (.func 44) #[] #[]] w fun e w' => e = .returned (.bool (!declsB P T n)) ∧ Kept w w' := by
  have hk : Kept w w := Kept.refl w
  go_enter Tryd.func43, Tryd.ntmps43
  go_wp2_with fail
  refine (indexDecls11_any o n cap P T _ hv hn hT ht).mono ?_
  rintro e w1 ⟨z, rfl, hz, z1, hn1⟩
  have Hz := Lib.hid hz
  clear hz
  rcases Int.lt_or_le z 0 with hl | hl
  all_goals
    go_wp2
    go_ret
    refine ⟨ret_bool ?_, hn1⟩
    cases ha : declsB P T n
    · have := Hz.out.2 ha
      first | omega | simp
    · first | (have := Hz.out.1 hl; rw [ha] at this; cases this) | (simp; omega)
/-- an unfit node, one test behind the other -/
theorem odd_any (x : Nd) (o : Option Addr) (cap : Nat) (w : World) (ht : NameT w) (hd : NdAt w x (.slice o x.m cap)) :
    Calls Tryd.prog 33 #[ndV x (.slice o x.m cap)] w fun e w' => e = .returned (.bool (!nodeB x)) ∧ Kept w w' := by
  have HF := Lib.hid (floats_any x (.slice o x.m cap))
  have Hs := Lib.hid (show nodeB x = (inB 0 2 x.kind && inB 0 2 x.flt && inB 0 3 x.clr && (if x.kind = 1 then plainN x && decide (x.m = 0) && decide (x.text.size ≤ 80) else decide (x.text.size = 0) && decide (x.m ≤ 16) && declsB x.P x.T x.m)) from rfl)
  have HD := Lib.hid (fun wx (hk : Kept w wx) => containsDecls11_any o x.m cap x.P x.T wx (hd.decls.kept hk) (Nat.le_trans hd.few (by decide)) hd.small (ht.kept hk))
  have hfew := hd.few
  have htx := hd.text
  clear hd
  generalize plainN x = pl at HF Hs
  generalize nodeB x = rb at Hs ⊢
  obtain ⟨pa, ki, fl, cl, m, P, T, te⟩ := x
  dsimp only at HF Hs HD hfew htx ⊢
  generalize declsB P T m = db at HD Hs
  have hk := Kept.refl w
  go_enter Tryd.func33, Tryd.ntmps33
  go_wp2_with fail
  refine with_boxes2 ?_
  intro X hX b q
  have hsz := hk.size
  replace hk := hk.trans hX
  clear hX
  replace b_l := b.lt
  replace b_0 := b.at 0 _ rfl
  replace b_1 := b.at 1 _ rfl
  replace b_2 := b.at 2 _ rfl
  replace b_3 := b.at 3 _ rfl
  replace b_4 := b.at 4 _ rfl
  replace b_5 := b.at 5 _ rfl
  replace q_l := q.lt
  replace q_0 := q.at 0 _ rfl
  refine (each1_any _ _ _ _ _ q_0).mono ?_
  rintro e w1 ⟨rfl, rfl⟩
  clear q
  clear q_l q_0
  rcases bool_two (inB 0 2 ki) with h0 | h0
  · rw [h0] at Hs ⊢
    go_wp2
    go_ret
    exact ⟨ret_bool (by rw [Hs.out]; rfl), hk⟩
  rw [h0] at Hs ⊢
  go_wp2_with fail
  refine with_boxes1 ?_
  intro X hX q
  have hsz := hk.size
  replace hk := hk.trans hX
  replace b := b.kept hX
  clear hX
  replace b_l := b.lt
  replace b_0 := b.at 0 _ rfl
  replace b_1 := b.at 1 _ rfl
  replace b_2 := b.at 2 _ rfl
  replace b_3 := b.at 3 _ rfl
  replace b_4 := b.at 4 _ rfl
  replace b_5 := b.at 5 _ rfl
  replace q_l := q.lt
  replace q_0 := q.at 0 _ rfl
  refine (each1_any _ _ _ _ _ q_0).mono ?_
  rintro e w1 ⟨rfl, rfl⟩
  clear q
  clear q_l q_0
  rcases bool_two (inB 0 2 fl) with h1 | h1
  · rw [h1] at Hs ⊢
    go_wp2
    go_ret
    exact ⟨ret_bool (by rw [Hs.out]; rfl), hk⟩
  rw [h1] at Hs ⊢
  go_wp2_with fail
  refine with_boxes1 ?_
  intro X hX q
  have hsz := hk.size
  replace hk := hk.trans hX
  replace b := b.kept hX
  clear hX
  replace b_l := b.lt
  replace b_0 := b.at 0 _ rfl
  replace b_1 := b.at 1 _ rfl
  replace b_2 := b.at 2 _ rfl
  replace b_3 := b.at 3 _ rfl
  replace b_4 := b.at 4 _ rfl
  replace b_5 := b.at 5 _ rfl
  replace q_l := q.lt
  replace q_0 := q.at 0 _ rfl
  refine (each1_any _ _ _ _ _ q_0).mono ?_
  rintro e w1 ⟨rfl, rfl⟩
  clear q
  clear q_l q_0
  rcases bool_two (inB 0 3 cl) with h2 | h2
  · rw [h2] at Hs ⊢
    go_wp2
    go_ret
    exact ⟨ret_bool (by rw [Hs.out]; rfl), hk⟩
  rw [h2] at Hs ⊢
  by_cases h3 : ki = 1
  · subst h3
    rw [if_pos rfl] at Hs
    cases pl with
    | false =>
      go_wp2_with fail
      refine (HF.out _).mono ?_
      rintro e w1 ⟨rfl, hn⟩
      replace hk := hk.trans hn
      replace b := b.kept hn
      clear hn
      replace b_l := b.lt
      replace b_0 := b.at 0 _ rfl
      replace b_1 := b.at 1 _ rfl
      replace b_2 := b.at 2 _ rfl
      replace b_3 := b.at 3 _ rfl
      replace b_4 := b.at 4 _ rfl
      replace b_5 := b.at 5 _ rfl
      go_wp2
      go_ret
      exact ⟨ret_bool (by rw [Hs.out]; rfl), hk⟩
    | true =>
      by_cases h4 : m = 0
      · subst h4
        by_cases h5 : (te.size : Int) ≤ 80
        · skip
          go_wp2_with fail
          refine (HF.out _).mono ?_
          rintro e w1 ⟨rfl, hn⟩
          replace hk := hk.trans hn
          replace b := b.kept hn
          clear hn
          replace b_l := b.lt
          replace b_0 := b.at 0 _ rfl
          replace b_1 := b.at 1 _ rfl
          replace b_2 := b.at 2 _ rfl
          replace b_3 := b.at 3 _ rfl
          replace b_4 := b.at 4 _ rfl
          replace b_5 := b.at 5 _ rfl
          go_wp2
          go_ret
          exact ⟨ret_bool (by rw [Hs.out, decide_eq_true (show te.size ≤ 80 by omega)]; first | rfl | (simp; omega)), hk⟩
        · skip
          go_wp2_with fail
          refine (HF.out _).mono ?_
          rintro e w1 ⟨rfl, hn⟩
          replace hk := hk.trans hn
          replace b := b.kept hn
          clear hn
          replace b_l := b.lt
          replace b_0 := b.at 0 _ rfl
          replace b_1 := b.at 1 _ rfl
          replace b_2 := b.at 2 _ rfl
          replace b_3 := b.at 3 _ rfl
          replace b_4 := b.at 4 _ rfl
          replace b_5 := b.at 5 _ rfl
          go_wp2
          go_ret
          exact ⟨ret_bool (by rw [Hs.out, decide_eq_false (show ¬ te.size ≤ 80 by omega)]; first | rfl | (simp; omega)), hk⟩
      · have h4' : (0 : Int) < (m : Int) := by omega
        go_wp2_with fail
        refine (HF.out _).mono ?_
        rintro e w1 ⟨rfl, hn⟩
        replace hk := hk.trans hn
        replace b := b.kept hn
        clear hn
        replace b_l := b.lt
        replace b_0 := b.at 0 _ rfl
        replace b_1 := b.at 1 _ rfl
        replace b_2 := b.at 2 _ rfl
        replace b_3 := b.at 3 _ rfl
        replace b_4 := b.at 4 _ rfl
        replace b_5 := b.at 5 _ rfl
        go_wp2
        go_ret
        exact ⟨ret_bool (by rw [Hs.out, decide_eq_false h4]; first | rfl | (simp; omega)), hk⟩
  · rw [if_neg h3] at Hs
    by_cases h5 : te.size = 0
    · obtain rfl : te = ⟨#[]⟩ := by
        obtain ⟨a⟩ := te
        have : a.size = 0 := h5
        rw [Array.size_eq_zero_iff] at this
        subst this; rfl
      by_cases h6 : (m : Int) ≤ 16
      · skip
        go_wp2_with fail
        refine (HD.out _ hk).mono ?_
        rintro e w1 ⟨rfl, hn⟩
        replace hk := hk.trans hn
        replace b := b.kept hn
        clear hn
        replace b_l := b.lt
        replace b_0 := b.at 0 _ rfl
        replace b_1 := b.at 1 _ rfl
        replace b_2 := b.at 2 _ rfl
        replace b_3 := b.at 3 _ rfl
        replace b_4 := b.at 4 _ rfl
        replace b_5 := b.at 5 _ rfl
        go_wp2
        go_ret
        exact ⟨ret_bool (by rw [Hs.out, decide_eq_true (show m ≤ 16 by omega), decide_eq_true (show (⟨#[]⟩ : ByteArray).size = 0 from rfl), decide_eq_false (show ¬ (16 : Int) < (m : Int) by omega)]; cases db <;> rfl), hk⟩
      · skip
        replace b_l := b.lt
        replace b_0 := b.at 0 _ rfl
        replace b_1 := b.at 1 _ rfl
        replace b_2 := b.at 2 _ rfl
        replace b_3 := b.at 3 _ rfl
        replace b_4 := b.at 4 _ rfl
        replace b_5 := b.at 5 _ rfl
        go_wp2
        go_ret
        exact ⟨ret_bool (by rw [Hs.out, decide_eq_false (show ¬ m ≤ 16 by omega)]; first | rfl | (simp; done) | (simp; omega)), hk⟩
    · have h6 : ¬ te.toList = [] := by
        intro h
        rw [ByteArray.toList_eq] at h
        exact h5 (by show te.data.size = 0; rw [← Array.length_toList, h]; rfl)
      replace b_l := b.lt
      replace b_0 := b.at 0 _ rfl
      replace b_1 := b.at 1 _ rfl
      replace b_2 := b.at 2 _ rfl
      replace b_3 := b.at 3 _ rfl
      replace b_4 := b.at 4 _ rfl
      replace b_5 := b.at 5 _ rfl
      go_wp2
      go_ret
      exact ⟨ret_bool (by rw [Hs.out, decide_eq_false h5]; first | rfl | (simp; done) | (simp; omega)), hk⟩
end Go.Proofs.YtpblajjfgnhkdaaDoor
