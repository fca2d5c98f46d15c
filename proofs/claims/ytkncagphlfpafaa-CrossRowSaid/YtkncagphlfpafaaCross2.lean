/- Layer 21: where items stand along the lines and in them. -/
import Derived.Test.YtkncagphlfpafaaCross
import Derived.Test.YtkncagphlfpafaaLendI
namespace Go.Proofs.Ytkncagphlfpafaa
open Go.RowKit
set_option linter.unusedSimpArgs false
set_option linter.unusedVariables false
theorem rowPlaces_none (just room : Int) (o : Option Addr) (cap : Nat) (w : World) (hr : 0 ≤ room ∧ room ≤ 4194304) :
    Calls Try.prog 37 #[.int .i64 just, .int .i64 room, .slice o 0 cap] w fun e w' => ∃ o c, e = .returned (.slice o 0 c) ∧ c ≤ maxLen ∧ Kept w w' := by
  have hmk := run_make_row' (P := Try.prog) 22 3 (.int .i64 0) 8 Try.underlying22 intInfo1 rfl .i64 .i64 0 (by decide) (by decide)
  have hmk' : ∀ wx, (Instr.makeSlice 22 (.int .i64 0) (.int .i64 0)).run Try.prog wx = .ok (.slice (some ⟨wx.heap.size, 0, none⟩) 0 0) (wx.alloc (.cells (madeCells #[.int .i64 0] 0) 3)) := hmk
  clear hmk
  rcases Int.lt_trichotomy 0 room with h1 | h1 | h1
  · skip
    go_enter Try.func37, Try.ntmps37
    go_wp2
    refine wp_loop_rounds 1 ?_
    rw [rounds_succ]
    go_wp2
    refine wp_loop_rounds 1 ?_
    rw [rounds_succ]
    go_wp2
    go_ret
    exact ⟨_, _, rfl, by decide, (Kept.refl w).alloc _⟩
  · subst h1
    go_enter Try.func37, Try.ntmps37
    go_wp2
    refine wp_loop_rounds 1 ?_
    rw [rounds_succ]
    go_wp2
    refine wp_loop_rounds 1 ?_
    rw [rounds_succ]
    go_wp2
    go_ret
    exact ⟨_, _, rfl, by decide, (Kept.refl w).alloc _⟩
  · omega
def mainB (just room : Int) (n : Nat) (Z : Nat → Int) : Bool := inB 0 3 just && inB 0 4194304 room && decide (n ≤ 32) && allX Z n
theorem mainB_true {just room : Int} {n : Nat} {Z : Nat → Int} : mainB just room n Z = true ↔ ((inB 0 3 just = true ∧ inB 0 4194304 room = true) ∧ n ≤ 32) ∧ allX Z n = true := by
  unfold mainB; rw [Bool.and_eq_true, Bool.and_eq_true, Bool.and_eq_true, decide_eq_true_eq]
set_option maxHeartbeats 1000000 in
theorem crossMain_good (just room : Int) (v : Value) (n : Nat) (Z : Nat → Int) (w : World) (hz : IV w v n Z) (h : mainB just room n Z = true) :
    Calls Try.prog 21 #[.int .i64 just, .int .i64 room, v] w fun e w' => ∃ u, e = .returned (.tuple #[u, .int .i64 0]) ∧ NewOnes 3 w w' u n (placeS just room n Z) ∧ Kept w w' := by
  obtain ⟨⟨⟨h1, h2⟩, h3⟩, h4⟩ := mainB_true.1 h
  have hr := inB_true.1 h2
  clear h
  rcases hz with ⟨rfl, o, cap, rfl⟩ | ⟨b, off, cap, rfl, hp, hcap, hz⟩
  · skip
    have hk : Kept w w := Kept.refl w
    go_enter Try.func21, Try.ntmps21
    go_wp2_with fail
    refine with_boxes1 ?_
    intro X hX p
    have hsz := hk.size
    replace hk := hk.trans hX
    clear hX
    replace p_l := p.lt
    replace p_0 := p.at 0 _ rfl
    refine (each1_any _ _ _ _ _ p_0).mono ?_
    rintro e w1 ⟨rfl, rfl⟩
    go_wp2_with fail
    refine with_boxes1 ?_
    intro X hX q
    have hsz := hk.size
    replace hk := hk.trans hX
    replace p := p.kept hX
    clear hX
    replace p_l := p.lt
    replace p_0 := p.at 0 _ rfl
    replace q_l := q.lt
    replace q_0 := q.at 0 _ rfl
    refine (each1_any _ _ _ _ _ q_0).mono ?_
    rintro e w1 ⟨rfl, rfl⟩
    go_wp2_with fail
    refine (crossContains_any _ 0 Z _ (.inl ⟨rfl, o, cap, rfl⟩) (by omega)).mono ?_
    rintro e w1 ⟨rfl, hn⟩
    replace hk := hk.trans hn
    replace p := p.kept hn
    replace q := q.kept hn
    clear hn
    replace p_l := p.lt
    replace p_0 := p.at 0 _ rfl
    replace q_l := q.lt
    replace q_0 := q.at 0 _ rfl
    go_wp2_with fail
    refine (rowPlaces_none _ _ _ _ _ hr).mono ?_
    rintro e w1 ⟨o2, c2, rfl, hc2, hn⟩
    replace hk := hk.trans hn
    replace p := p.kept hn
    replace q := q.kept hn
    clear hn
    replace p_l := p.lt
    replace p_0 := p.at 0 _ rfl
    replace q_l := q.lt
    replace q_0 := q.at 0 _ rfl
    go_wp2
    go_ret2
    exact ⟨_, rfl, .inl ⟨rfl, o2, c2, rfl, hc2⟩, hk⟩
  · have HP := Lib.hid (fun wx (hx : Kept w wx) => rowPlaces_some just room b off n cap Z wx (hz.kept hx) hp h3 h4 hr)
    have HX := Lib.hid (fun wx (hx : Kept w wx) => crossContains_any (.slice (some ⟨b, off, none⟩) n cap) n Z wx (.inr ⟨b, off, cap, rfl, hp, hcap, hz.kept hx⟩) (by omega))
    have hk : Kept w w := Kept.refl w
    go_enter Try.func21, Try.ntmps21
    go_wp2_with fail
    refine with_boxes1 ?_
    intro X hX p
    have hsz := hk.size
    replace hk := hk.trans hX
    clear hX
    replace p_l := p.lt
    replace p_0 := p.at 0 _ rfl
    refine (each1_any _ _ _ _ _ p_0).mono ?_
    rintro e w1 ⟨rfl, rfl⟩
    go_wp2_with fail
    refine with_boxes1 ?_
    intro X hX q
    have hsz := hk.size
    replace hk := hk.trans hX
    replace p := p.kept hX
    clear hX
    replace p_l := p.lt
    replace p_0 := p.at 0 _ rfl
    replace q_l := q.lt
    replace q_0 := q.at 0 _ rfl
    refine (each1_any _ _ _ _ _ q_0).mono ?_
    rintro e w1 ⟨rfl, rfl⟩
    go_wp2_with fail
    refine (HX.out _ hk).mono ?_
    rintro e w1 ⟨rfl, hn⟩
    replace hk := hk.trans hn
    replace p := p.kept hn
    replace q := q.kept hn
    clear hn
    replace p_l := p.lt
    replace p_0 := p.at 0 _ rfl
    replace q_l := q.lt
    replace q_0 := q.at 0 _ rfl
    go_wp2_with fail
    have hk0 := hk
    refine (HP.out _ hk).mono ?_
    rintro e w2 ⟨u, rfl, hu, hn⟩
    replace hk := hk.trans hn
    go_wp2
    go_ret2
    refine ⟨_, rfl, ?_, hk⟩
    rcases hu with h0 | ⟨b', c', cur, e1, e2, e3, e4, e5, e6, e7, e8⟩
    · exact .inl h0
    · exact .inr ⟨b', c', cur, e1, e2, e3, e4, Nat.le_trans hk0.size e5, e6, e7, e8⟩
end Go.Proofs.Ytkncagphlfpafaa
