/- Layer 11: may a node be one? by the document. -/
import Derived.Test.YtpblajjfgnhkdaaDoorTreeKids
namespace Go.Proofs.YtpblajjfgnhkdaaDoor
open Go.RowKit
set_option linter.unusedSimpArgs false
set_option linter.unusedVariables false
set_option maxHeartbeats 2000000
theorem upToT_any (x m : Int) (w : World) :
    Calls Tryd.prog 45 #[.int .i64 x, .int .i64 m] w fun e w' => e = .returned (.bool (inB 0 m x)) ∧ w = w' := by
  have Hs := Lib.hid (show inB 0 m x = true ↔ 0 ≤ x ∧ x ≤ m from inB_true)
  generalize inB 0 m x = q at *
  by_cases h0 : 0 ≤ x
  · by_cases h1 : x ≤ m
    · skip
      go_enter Tryd.func45, Tryd.ntmps45
      go_wp2
      go_ret
      exact ⟨ret_bool (by rw [Hs.out.2 ⟨h0, h1⟩]), rfl⟩
    · have hq : q = false := by
        cases q with
        | false => rfl
        | true => have := Hs.out.1 rfl; omega
      subst hq
      go_enter Tryd.func45, Tryd.ntmps45
      go_wp2
      go_ret
      exact ⟨ret_bool (by first | rfl | (simp; done) | (simp; omega)), rfl⟩
  · have hq : q = false := by
      cases q with
      | false => rfl
      | true => have := Hs.out.1 rfl; omega
    subst hq
    go_enter Tryd.func45, Tryd.ntmps45
    go_wp2
    go_ret
    exact ⟨ret_bool (by first | rfl | (simp; omega)), rfl⟩
theorem plain_any (x : Nd) (d : Value) (w : World) :
    Calls Tryd.prog 36 #[ndV x d] w fun e w' => e = .returned (.bool (plainN x)) ∧ Kept w w' := by
  obtain ⟨pa, ki, fl, cl, m, P, T, te⟩ := x
  have hk := Kept.refl w
  by_cases h0 : fl = 0
  · subst h0
    by_cases h1 : cl = 0
    · subst h1
      go_enter Tryd.func36, Tryd.ntmps36
      go_wp2
      go_ret
      exact ⟨ret_bool (by first | rfl | (simp [plainN]; done)), hk.alloc _⟩
    · skip
      go_enter Tryd.func36, Tryd.ntmps36
      go_wp2
      go_ret
      exact ⟨ret_bool (by first | rfl | (simp [plainN, h1]; done)), hk.alloc _⟩
  · skip
    go_enter Tryd.func36, Tryd.ntmps36
    go_wp2
    go_ret
    exact ⟨ret_bool (by first | rfl | (simp [plainN, h0]; done)), hk.alloc _⟩
/-- one test behind the other -/
theorem refNode_any (x : Nd) (o : Option Addr) (cap : Nat) (w : World) (hd : NdAt w x (.slice o x.m cap)) :
    Calls Tryd.prog 37 #[ndV x (.slice o x.m cap)] w fun e w' => e = .returned (.bool (nodeB x)) ∧ Kept w w' := by
  have HF := Lib.hid (plain_any x (.slice o x.m cap))
  have Hs := Lib.hid (show nodeB x = (inB 0 2 x.kind && inB 0 2 x.flt && inB 0 3 x.clr && (if x.kind = 1 then plainN x && decide (x.m = 0) && decide (x.text.size ≤ 80) else decide (x.text.size = 0) && decide (x.m ≤ 16) && declsB x.P x.T x.m)) from rfl)
  have HD := Lib.hid hd.decls
  have HSM := Lib.hid hd.small
  have hfew := hd.few
  have htx := hd.text
  clear hd
  generalize plainN x = pl at HF Hs
  generalize nodeB x = rb at Hs ⊢
  obtain ⟨pa, ki, fl, cl, m, P, T, te⟩ := x
  dsimp only at HF Hs HD HSM hfew htx ⊢
  have hk := Kept.refl w
  go_enter Tryd.func37, Tryd.ntmps37
  go_wp2_with fail
  refine with_boxes1 ?_
  intro X hX b
  have hsz := hk.size
  replace hk := hk.trans hX
  clear hX
  replace b_l := b.lt
  replace b_0 := b.at 0 _ rfl
  replace b_1 := b.at 1 _ rfl
  replace b_2 := b.at 2 _ rfl
  replace b_3 := b.at 3 _ rfl
  replace b_4 := b.at 4 _ rfl
  replace b_5 := b.at 5 _ rfl
  refine (upToT_any _ _ _).mono ?_
  rintro e w1 ⟨rfl, rfl⟩
  rcases bool_two (inB 0 2 ki) with h0 | h0
  · rw [h0] at Hs ⊢
    go_wp2
    go_ret
    exact ⟨ret_bool (by rw [Hs.out]; rfl), hk⟩
  rw [h0] at Hs ⊢
  go_wp2_with fail
  refine (upToT_any _ _ _).mono ?_
  rintro e w1 ⟨rfl, rfl⟩
  rcases bool_two (inB 0 2 fl) with h1 | h1
  · rw [h1] at Hs ⊢
    go_wp2
    go_ret
    exact ⟨ret_bool (by rw [Hs.out]; rfl), hk⟩
  rw [h1] at Hs ⊢
  go_wp2_with fail
  refine (upToT_any _ _ _).mono ?_
  rintro e w1 ⟨rfl, rfl⟩
  rcases bool_two (inB 0 3 cl) with h2 | h2
  · rw [h2] at Hs ⊢
    go_wp2
    go_ret
    exact ⟨ret_bool (by rw [Hs.out]; rfl), hk⟩
  rw [h2] at Hs ⊢
  replace b_l := b.lt
  replace b_0 := b.at 0 _ rfl
  replace b_1 := b.at 1 _ rfl
  replace b_2 := b.at 2 _ rfl
  replace b_3 := b.at 3 _ rfl
  replace b_4 := b.at 4 _ rfl
  replace b_5 := b.at 5 _ rfl
  by_cases h3 : (m : Int) ≤ 16
  · by_cases h4 : (te.size : Int) ≤ 80
    · obtain ⟨W0, hW0⟩ : ∃ z, z = X := ⟨_, rfl⟩
      rw [← hW0] at hk b b_0 b_1 b_2 b_3 b_4 b_5 b_l ⊢
      have HB := Lib.hid b
      have HK := Lib.hid hk
      clear hW0 b hk
      go_wp2
      clear b_0 b_1 b_2 b_3 b_4 b_5 b_l
      go_loopw [3] (fun i wx => ∃ k : Nat, k ≤ m ∧ i = .int .i64 k ∧ Kept W0 wx ∧ declsB P T k = true) (fun i _ => m - (intOf i).toNat)
      case atStart => exact ⟨0, Nat.zero_le _, rfl, Kept.refl _, rfl⟩
      case round =>
        obtain ⟨k, hkm, rfl, kX, hal⟩ := hrel
        have HAL := Lib.hid hal
        clear hal
        have hb := HB.out.kept kX
        have bl := hb.lt
        have b0 := hb.at 0 _ rfl
        have b1 := hb.at 1 _ rfl
        have b2 := hb.at 2 _ rfl
        have b3 := hb.at 3 _ rfl
        have b4 := hb.at 4 _ rfl
        have b5 := hb.at 5 _ rfl
        by_cases hlt : k < m
        · have hi1 : (k : Int) < (m : Int) := by omega
          have hi0 : (0 : Int) ≤ (k : Int) := Int.natCast_nonneg _
          obtain ⟨bb, off, rfl, hle, hrow⟩ := (HD.out.kept (HK.out.trans kX)).row (by omega)
          have d0 : wr.cell? ⟨bb, off + k * 2, none⟩ = some (.int .i64 (P k)) := hrow k 0 hlt (by decide)
          have d1 : wr.cell? ⟨bb, off + k * 2 + 1, none⟩ = some (.string (T k)) := hrow k 1 hlt (by decide)
          have hsm := HSM.out k hlt
          have HNO := Lib.hid (fun h => declsB_no (P := P) (T := T) hlt h)
          have HYES := Lib.hid (fun (h : declB (P k) (T k) = true) => (show declsB P T (k + 1) = true by unfold declsB; rw [HAL.out, h]; rfl))
          have HDB := Lib.hid (show declB (P k) (T k) = (inB 0 28 (P k) && decide ((T k).size ≤ 16)) from rfl)
          clear hrow hb
          generalize declB (P k) (T k) = db at *
          generalize P k = pk at *
          generalize T k = tk at *
          rcases bool_two (inB 0 28 pk) with h5 | h5
          · have hq : db = false := by rw [HDB.out, h5]; rfl
            subst hq
            go_wp2_with (first
              | (go_at_call 46; (with_reducible refine (refPropMay_any _ _).mono ?_); rintro e w3 ⟨rfl, rfl⟩; rw [h5]))
            go_ret
            refine ⟨ret_bool ?_, HK.out.trans kX⟩
            rw [Hs.out, HNO.out (by first | exact trivial | rfl)]
            by_cases h6 : ki = 1
            · rw [if_pos h6, decide_eq_false (show ¬ m = 0 by omega)]; simp
            · rw [if_neg h6]; simp
          · by_cases h6 : (tk.size : Int) ≤ 16
            · have hq : db = true := by rw [HDB.out, h5, decide_eq_true (show tk.size ≤ 16 by omega)]; rfl
              subst hq
              have h7 : ¬ (16 : Int) < (tk.size : Int) := by omega
              go_wp2_with (first
                | (go_at_call 46; (with_reducible refine (refPropMay_any _ _).mono ?_); rintro e w3 ⟨rfl, rfl⟩; rw [h5]))
              exact ⟨⟨k + 1, by omega, by first | rfl | go_num, kX, HYES.out (by first | exact trivial | rfl)⟩, by first | (simp [intOf]; done) | (simp [intOf]; omega)⟩
            · have hq : db = false := by rw [HDB.out, h5, decide_eq_false (show ¬ tk.size ≤ 16 by omega)]; rfl
              subst hq
              have h7 : (16 : Int) < (tk.size : Int) := by omega
              go_wp2_with (first
                | (go_at_call 46; (with_reducible refine (refPropMay_any _ _).mono ?_); rintro e w3 ⟨rfl, rfl⟩; rw [h5]))
              go_ret
              refine ⟨ret_bool ?_, HK.out.trans kX⟩
              rw [Hs.out, HNO.out (by first | exact trivial | rfl)]
              by_cases h6 : ki = 1
              · rw [if_pos h6, decide_eq_false (show ¬ m = 0 by omega)]; simp
              · rw [if_neg h6]; simp
        · obtain rfl : k = m := by omega
          clear hb
          by_cases h5 : ki = 1
          · subst h5
            rw [if_pos rfl, decide_eq_true (show te.size ≤ 80 by omega)] at Hs
            by_cases h6 : k = 0
            · subst h6
              go_wp2_with (first
                | (go_at_call 36; (with_reducible refine (HF.out _).mono ?_); rintro e w3 ⟨rfl, hn⟩))
              go_ret
              exact ⟨ret_bool (by rw [Hs.out]; cases pl <;> rfl), (HK.out.trans kX).trans hn⟩
            · have h7 : ((k : Int) == 0) = false := by simp; omega
              go_wp2
              go_ret
              exact ⟨ret_bool (by rw [Hs.out, decide_eq_false h6]; first | rfl | (simp; done)), HK.out.trans kX⟩
          · rw [if_neg h5, decide_eq_true (show k ≤ 16 by omega), HAL.out] at Hs
            by_cases h6 : te.size = 0
            · obtain rfl : te = ⟨#[]⟩ := by
                obtain ⟨a⟩ := te
                have : a.size = 0 := h6
                rw [Array.size_eq_zero_iff] at this
                subst this; rfl
              go_wp2
              go_ret
              exact ⟨ret_bool (by rw [Hs.out]; first | rfl | (simp; done)), HK.out.trans kX⟩
            · have h7 : ¬ te.toList = [] := by
                intro h
                rw [ByteArray.toList_eq] at h
                exact h6 (by show te.data.size = 0; rw [← Array.length_toList, h]; rfl)
              go_wp2
              go_ret
              exact ⟨ret_bool (by rw [Hs.out, decide_eq_false h6]; first | rfl | (simp; done) | (simp [h7]; done)), HK.out.trans kX⟩
    · have h5 : ¬ te.size = 0 := by omega
      go_wp2
      go_ret
      exact ⟨ret_bool (by rw [Hs.out, decide_eq_false (show ¬ te.size ≤ 80 by omega), decide_eq_false h5]; simp), hk⟩
  · go_wp2
    go_ret
    exact ⟨ret_bool (by rw [Hs.out, decide_eq_false (show ¬ m ≤ 16 by omega), decide_eq_false (show ¬ m = 0 by omega)]; simp), hk⟩
end Go.Proofs.YtpblajjfgnhkdaaDoor
