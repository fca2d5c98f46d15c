/- Layer 20: the sizes of a line's items, by the program. -/
import Derived.Test.YticnfoppdgeioaaLineBegin
import Derived.Test.YticnfoppdgeioaaLineShare
namespace Go.Proofs.Yticnfoppdgeioaa
open Go.RowKit Go.Maps
set_option linter.unusedSimpArgs false
set_option linter.unusedVariables false
theorem open_pos {F : Nat → Bool} {n k : Nat} (h : k < n) (hF : F k = false) : 0 < openS F n := by
  rcases Nat.eq_zero_or_pos (openS F n) with h0 | h0
  · rw [openS_zero.1 h0 k h] at hF; cases hF
  · exact h0
set_option maxHeartbeats 1000000 in
theorem boolIndex_any (bf n : Nat) (F : Nat → Bool) (w : World) (hf : ∀ i, i < n → w.cell? ⟨bf, i, none⟩ = some (.bool (F i))) (hn : n ≤ 32) :
    Calls Try.prog 37 #[.slice (some ⟨bf, 0, none⟩) n n, .bool false] w fun e w' => ∃ z : Int, e = .returned (.int .i64 z) ∧ (0 ≤ z ↔ 0 < openS F n) ∧ -1 ≤ z ∧ w = w' := by
  go_enter Try.func37, Try.ntmps37
  go_wp2
  go_loopw [8] (fun i wx => ∃ k : Nat, k ≤ n ∧ i = .int .i64 k ∧ wx = w ∧ openS F k = 0) (fun i _ => n - (intOf i).toNat)
  case atStart => first | exact ⟨0, Nat.zero_le _, rfl, rfl, rfl⟩ | exact ⟨0, Nat.zero_le _, rfl, trivial, rfl⟩
  case round =>
    obtain ⟨k, hkn, rfl, rfl, ho⟩ := hrel
    by_cases hlt : k < n
    · have hi1 : (k : Int) < (n : Int) := by omega
      have f0 := hf k hlt
      have HFC := Lib.hid hf
      clear hf
      have HO := Lib.hid (show openS F (k + 1) = openS F k + if F k = true then 0 else 1 from rfl)
      have HP := Lib.hid (open_pos (F := F) hlt)
      have HO0 := Lib.hid ho
      clear ho
      cases hF : F k with
      | true =>
        rw [hF] at f0
        have HF := Lib.hid hF
        clear hF
        go_wp2
        exact ⟨⟨k + 1, by omega, by first | rfl | go_num, by first | rfl | trivial, by rw [HO.out, HF.out, HO0.out]; rfl⟩, by first | (simp [intOf]; done) | (simp [intOf]; omega)⟩
      | false =>
        rw [hF] at f0
        have HF := Lib.hid hF
        clear hF
        go_wp2
        go_ret
        exact ⟨_, rfl, ⟨fun _ => HP.out HF.out, fun _ => by omega⟩, by omega, rfl⟩
    · obtain rfl : k = n := by omega
      go_wp2
      go_ret
      exact ⟨_, rfl, ⟨fun h => by omega, fun h => by omega⟩, by omega, rfl⟩
theorem boolContains_any (bf n : Nat) (F : Nat → Bool) (w : World) (hf : ∀ i, i < n → w.cell? ⟨bf, i, none⟩ = some (.bool (F i))) (hn : n ≤ 32) :
    Calls Try.prog 31 #[.slice (some ⟨bf, 0, none⟩) n n, .bool false] w fun e w' => e = .returned (.bool (decide (0 < openS F n))) ∧ w = w' := by
  go_enter Try.func31, Try.ntmps31
  go_wp2_with fail
  refine (boolIndex_any bf n F _ hf hn).mono ?_
  rintro e w1 ⟨z, rfl, hz, z1, rfl⟩
  have Hz := Lib.hid hz
  clear hz
  by_cases hl : 0 ≤ z
  · have hd := Lib.hid (decide_eq_true (Hz.out.1 hl))
    go_wp2
    go_ret
    exact ⟨ret_bool (by rw [hd.out]), rfl⟩
  · have hd := Lib.hid (decide_eq_false (fun h => hl (Hz.out.2 h)))
    go_wp2
    go_ret
    exact ⟨ret_bool (by rw [hd.out]; simp; omega), rfl⟩
/-- how many are open, read off the memory -/
def openW (wx : World) (bf n : Nat) : Nat := openS (fun i => match wx.cell? ⟨bf, i, none⟩ with | some (.bool b) => b | _ => true) n
theorem openS_congr {F G : Nat → Bool} : ∀ {n : Nat}, (∀ i, i < n → F i = G i) → openS F n = openS G n := by
  intro n
  induction n with
  | zero => intro _; rfl
  | succ n ih => intro h; unfold openS; rw [ih fun i hi => h i (by omega), h n (by omega)]
theorem openW_is {wx : World} {bf n : Nat} {F : Nat → Bool} (h : ∀ i, i < n → wx.cell? ⟨bf, i, none⟩ = some (.bool (F i))) : openW wx bf n = openS F n :=
  openS_congr fun i hi => by rw [h i hi]
theorem LineW.made {a w : World} {L bs bf : Nat} {sl : Option Addr} {n cap : Nat} {room : Int} {g : Bool} {I : Nat → Item} {S : Nat → Int} {F : Nat → Bool} (h : LineW a w L bs bf sl n cap room g I S F) : Made 3 a w (.slice (some ⟨bs, 0, none⟩) n n) n (intZ S) := by
  obtain ⟨c, h1, h2, h3⟩ := h.oS
  exact ⟨bs, c, rfl, h.gS, h1, h2, h3⟩
set_option maxHeartbeats 1000000 in
theorem rowResolve_any (sl : Option Addr) (n cap : Nat) (room : Int) (I : Nat → Item) (w : World) (hit : 0 < n → ∃ b off, sl = some ⟨b, off, none⟩ ∧ ItemsAt w b off n I) (hI : ∀ i, i < n → itemB (I i) = true) (hn32 : n ≤ 32) (hr : 0 ≤ room ∧ room ≤ 4194304) :
    Calls Try.prog 22 #[.slice sl n cap, .int .i64 room] w fun e w' => ∃ u, e = .returned u ∧ Made 3 w w' u n (intZ (resS I room n)) ∧ Kept w w' := by
  have HI := Lib.hid hI
  have HIT := Lib.hid hit
  clear hit
  go_enter Try.func22, Try.ntmps22
  go_wp2_with fail
  refine (lineBegin_any sl n cap room I _ HIT.out hI hn32 hr).mono ?_
  rintro e w1 ⟨L, bs, bf, rfl, hl⟩
  clear hI
  have HL := Lib.hid hl
  clear hl
  obtain ⟨g, hg⟩ : ∃ g, growS I room n = g := ⟨_, rfl⟩
  have HR := Lib.hid (show runS g I room n n (fun i => wishS (I i)) (firstF g I) = resS I room n by unfold resS; rw [hg])
  rw [hg] at HL
  clear hg
  go_wp2_with fail
  go_loopw [13] (fun _ wx => ∃ (m : Nat) (S : Nat → Int) (F : Nat → Bool), openS F n ≤ m ∧ runS g I room n m S F = resS I room n ∧ OkS g S n ∧ LineW w wx L bs bf sl n cap room g I S F) (fun _ wx => openW wx bf n)
  case atStart => exact ⟨n, _, _, openS_le _ _, HR.out, wish_ok HI.out, HL.out⟩
  case round =>
    obtain ⟨m, S, F, hm, hrun, hok, hl⟩ := hrel
    have c4 := hl.view.c4
    have c3 := hl.view.c3
    have CC := Lib.hid (boolContains_any bf n F wr hl.view.f hn32)
    have HRUN := Lib.hid hrun
    have HOK := Lib.hid hok
    have HLL := Lib.hid hl
    clear hl hrun hok
    go_wp2_with fail
    refine CC.out.mono ?_
    rintro e w2 ⟨rfl, rfl⟩
    by_cases ho : 0 < openS F n
    · rw [decide_eq_true ho]
      obtain ⟨m, rfl⟩ : ∃ q, m = q + 1 := ⟨m - 1, by omega⟩
      go_wp2_with fail
      refine (lineShare_any w _ L bs bf sl n cap room g I S F HLL.out HI.out HOK.out hn32 hr).mono ?_
      rintro e w2 ⟨rfl, hl2⟩
      have hlt := next_less (g := g) (I := I) (F := F) (H := partS g I S F room n) ho
      have HL2 := Lib.hid hl2
      clear hl2
      go_wp2
      refine ⟨⟨m, _, _, by omega, ?_, next_ok HI.out HOK.out (part_bd HI.out HOK.out hn32 hr), HL2.out⟩, ?_⟩
      · have := HRUN.out
        unfold runS at this
        rw [if_neg (by omega)] at this
        exact this
      · rw [openW_is HL2.out.view.f, openW_is HLL.out.view.f]; exact hlt
    · rw [decide_eq_false ho]
      go_wp2
      go_ret
      refine ⟨_, rfl, ?_, HLL.out.k⟩
      rw [← HRUN.out, runS_done (by omega)]
      exact HLL.out.made
end Go.Proofs.Yticnfoppdgeioaa
