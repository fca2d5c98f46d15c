/- Layer 8: what digits tell. -/
import Derived.Test.YtnbagilcbngdcaaDoorMg1
import Derived.Laws.RangeString
namespace Go.Proofs.YtnbagilcbngdcaaDoor
open Go.RowKit Go.Lib
set_option linter.unusedSimpArgs false
set_option linter.unusedVariables false
def numGo (s : ByteArray) : Nat → Nat → Int → Int → Int
  | 0, _, g, v => g * v
  | b + 1, pos, g, v =>
    if pos < s.size then
      (if pos = 0 ∧ (Utf8.decode s pos).1 = 45 then numGo s b (pos + (Utf8.decode s pos).2) (-1) v
       else if (Utf8.decode s pos).1 < 48 ∨ 57 < (Utf8.decode s pos).1 then 0
       else numGo s b (pos + (Utf8.decode s pos).2) g (if v ≤ 8191 then v * 10 + ((Utf8.decode s pos).1 - 48 : Int) else v))
    else g * v
def numS (s : ByteArray) : Int := numGo s s.size 0 1 0
theorem num_width_pos (s : ByteArray) (pos : Nat) (h : pos < s.size) : 1 ≤ (Utf8.decode s pos).2 := by
  by_cases ha : (s[pos]'h).toNat < 128
  · rw [decode_ascii s pos h ha]
    exact Nat.le_refl _
  · exact (decode_high s pos h (by omega)).2
theorem numGo_end {s : ByteArray} {b pos : Nat} {g v : Int} (h : ¬ pos < s.size) : numGo s b pos g v = g * v := by
  cases b with
  | zero => rfl
  | succ b => unfold numGo; rw [if_neg h]
set_option maxRecDepth 1000000 in
set_option maxHeartbeats 2000000 in
theorem number_any (s : ByteArray) (w : World) :
    Calls Tryd.prog 29 #[.string s] w fun e w' => e = .returned (.int .i64 (numS s)) ∧ Kept w w' := by
  go_enter Tryd.func29, Tryd.ntmps29
  go_wp2
  go_loopw [3, 4, 5, 6, 13, 20, 27] (fun v g _ _ _ _ _ w' => ∃ (pos b : Nat) (V G : Int), w' = w.iter s pos ∧ v = .int .i64 V ∧ g = .int .i64 G ∧ (0 ≤ V ∧ V ≤ 81919) ∧ (G = 1 ∨ G = -1) ∧ numGo s b pos G V = numS s ∧ s.size ≤ pos + b) (fun _ _ _ _ _ _ _ w' => s.size - w'.iterPos w.heap.size)
  case atStart => exact ⟨0, s.size, 0, 1, rfl, rfl, rfl, by omega, .inl rfl, rfl, by omega⟩
  case round =>
    obtain ⟨pos, b, V, G, rfl, rfl, rfl, hV, hG, hc, hb⟩ := hrel
    have Hc := Lib.hid hc
    clear hc
    by_cases hp : pos < s.size
    · have hnx : ∀ ty, (Instr.next (.pointer (some ⟨w.heap.size, 0, none⟩)) true ty).run Tryd.prog (w.iter s pos) = _ := fun ty => run_next_any w s pos ty hp
      have hd := num_width_pos s pos hp
      obtain ⟨b, rfl⟩ : ∃ b', b = b' + 1 := ⟨b - 1, by omega⟩
      have Hs := Lib.hid (show numGo s (b + 1) pos G V = _ from by unfold numGo; rw [if_pos hp])
      generalize Utf8.decode s pos = D at *
      obtain ⟨r, d⟩ := D
      dsimp only at *
      rcases Nat.eq_zero_or_pos pos with hp0 | hp0
      · subst hp0
        by_cases h45 : r = 45
        · subst h45
          have hN := Lib.hid (show numGo s b (0 + d) (-1) V = numS s from by rw [← Hc.out, Hs.out, if_pos ⟨rfl, rfl⟩])
          clear Hs Hc
          go_wp2
          exact ⟨⟨0 + d, b, V, -1, by first | rfl | simp, rfl, rfl, hV, .inr rfl, hN.out, by omega⟩, by simp; omega⟩
        · have hneg : ¬ ((0 = 0) ∧ r = 45) := fun h => h45 h.2
          have h45b : ((r : Int) == 45) = false := by simp; omega
          rcases (by omega : r < 48 ∨ 57 < r ∨ (48 ≤ r ∧ r ≤ 57 ∧ V ≤ 8191) ∨ (48 ≤ r ∧ r ≤ 57 ∧ 8191 < V)) with hr | hr | ⟨hr1, hr2, hV2⟩ | ⟨hr1, hr2, hV2⟩
          · have hN := Lib.hid (show (0 : Int) = numS s from by rw [← Hc.out, Hs.out, if_neg hneg, if_pos (by omega)])
            have hr3 : (r : Int) < 48 := by omega
            clear Hs Hc
            go_wp2
            go_ret
            exact ⟨ret_int hN.out, (Kept.refl w).alloc _⟩
          · have hN := Lib.hid (show (0 : Int) = numS s from by rw [← Hc.out, Hs.out, if_neg hneg, if_pos (by omega)])
            have hr3 : (57 : Int) < r := by omega
            have hr4 : ¬ (r : Int) < 48 := by omega
            clear Hs Hc
            go_wp2
            go_ret
            exact ⟨ret_int hN.out, (Kept.refl w).alloc _⟩
          · have hN := Lib.hid (show numGo s b (0 + d) G (V * 10 + (r - 48)) = numS s from by rw [← Hc.out, Hs.out, if_neg hneg, if_neg (by omega), if_pos (by omega)])
            have hr3 : ¬ (r : Int) < 48 := by omega
            have hr4 : ¬ (57 : Int) < r := by omega
            have w1 : IntKind.i32.wrap ((r : Int) - 48) = r - 48 := by rw [IntKind.wrap_i32]; omega
            have w2 : IntKind.i64.wrap ((r : Int) - 48) = r - 48 := by rw [IntKind.wrap_i64]; omega
            have w3 : IntKind.i64.wrap (V * 10) = V * 10 := by rw [IntKind.wrap_i64]; omega
            have w4 : IntKind.i64.wrap (V * 10 + ((r : Int) - 48)) = V * 10 + (r - 48) := by rw [IntKind.wrap_i64]; omega
            clear Hs Hc
            go_wp2
            exact ⟨⟨0 + d, b, _, G, by first | rfl | simp, rfl, rfl, by omega, hG, hN.out, by omega⟩, by simp; omega⟩
          · have hN := Lib.hid (show numGo s b (0 + d) G V = numS s from by rw [← Hc.out, Hs.out, if_neg hneg, if_neg (by omega), if_neg (by omega)])
            have hr3 : ¬ (r : Int) < 48 := by omega
            have hr4 : ¬ (57 : Int) < r := by omega
            have hV3 : ¬ V ≤ 8191 := by omega
            clear Hs Hc
            go_wp2
            exact ⟨⟨0 + d, b, _, G, by first | rfl | simp, rfl, rfl, by omega, hG, hN.out, by omega⟩, by simp; omega⟩
      · have hpb : ((pos : Int) == 0) = false := by simp; omega
        have hneg : ¬ (pos = 0 ∧ r = 45) := fun h => by omega
        rcases (by omega : r < 48 ∨ 57 < r ∨ (48 ≤ r ∧ r ≤ 57 ∧ V ≤ 8191) ∨ (48 ≤ r ∧ r ≤ 57 ∧ 8191 < V)) with hr | hr | ⟨hr1, hr2, hV2⟩ | ⟨hr1, hr2, hV2⟩
        · have hN := Lib.hid (show (0 : Int) = numS s from by rw [← Hc.out, Hs.out, if_neg hneg, if_pos (by omega)])
          have hr3 : (r : Int) < 48 := by omega
          clear Hs Hc
          go_wp2
          go_ret
          exact ⟨ret_int hN.out, (Kept.refl w).alloc _⟩
        · have hN := Lib.hid (show (0 : Int) = numS s from by rw [← Hc.out, Hs.out, if_neg hneg, if_pos (by omega)])
          have hr3 : (57 : Int) < r := by omega
          have hr4 : ¬ (r : Int) < 48 := by omega
          clear Hs Hc
          go_wp2
          go_ret
          exact ⟨ret_int hN.out, (Kept.refl w).alloc _⟩
        · have hN := Lib.hid (show numGo s b (pos + d) G (V * 10 + (r - 48)) = numS s from by rw [← Hc.out, Hs.out, if_neg hneg, if_neg (by omega), if_pos (by omega)])
          have hr3 : ¬ (r : Int) < 48 := by omega
          have hr4 : ¬ (57 : Int) < r := by omega
          have w1 : IntKind.i32.wrap ((r : Int) - 48) = r - 48 := by rw [IntKind.wrap_i32]; omega
          have w2 : IntKind.i64.wrap ((r : Int) - 48) = r - 48 := by rw [IntKind.wrap_i64]; omega
          have w3 : IntKind.i64.wrap (V * 10) = V * 10 := by rw [IntKind.wrap_i64]; omega
          have w4 : IntKind.i64.wrap (V * 10 + ((r : Int) - 48)) = V * 10 + (r - 48) := by rw [IntKind.wrap_i64]; omega
          clear Hs Hc
          go_wp2
          exact ⟨⟨pos + d, b, _, G, by first | rfl | simp, rfl, rfl, by omega, hG, hN.out, by omega⟩, by simp; omega⟩
        · have hN := Lib.hid (show numGo s b (pos + d) G V = numS s from by rw [← Hc.out, Hs.out, if_neg hneg, if_neg (by omega), if_neg (by omega)])
          have hr3 : ¬ (r : Int) < 48 := by omega
          have hr4 : ¬ (57 : Int) < r := by omega
          have hV3 : ¬ V ≤ 8191 := by omega
          clear Hs Hc
          go_wp2
          exact ⟨⟨pos + d, b, _, G, by first | rfl | simp, rfl, rfl, by omega, hG, hN.out, by omega⟩, by simp; omega⟩
    · have hnx : ∀ ty, (Instr.next (.pointer (some ⟨w.heap.size, 0, none⟩)) true ty).run Tryd.prog (w.iter s pos) = _ := fun ty => run_next_end w s pos ty hp
      have hN := Lib.hid (show wrap64 (G * V) = numS s from by rw [← Hc.out, numGo_end hp]; unfold wrap64; rcases hG with rfl | rfl <;> omega)
      clear Hc
      go_wp2
      go_ret
      exact ⟨ret_int hN.out, (Kept.refl w).alloc _⟩
end Go.Proofs.YtnbagilcbngdcaaDoor
