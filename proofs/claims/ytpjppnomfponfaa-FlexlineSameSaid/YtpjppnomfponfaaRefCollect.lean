/- Layer 19: how many items stand in each line, by the document. -/
import Derived.Test.YtpjppnomfponfaaCollect
namespace Go.Proofs.Ytpjppnomfponfaa
open Go.RowKit
set_option linter.unusedSimpArgs false
set_option linter.unusedVariables false
theorem heldAt {w W X : World} {p0 p1 p2 p3 p4 p5 : Addr} {v0 v1 v2 v3 v4 v5 : Value} (h : Kept w W ∧ W.cell? p0 = some v0 ∧ W.cell? p1 = some v1 ∧ W.cell? p2 = some v2 ∧ W.cell? p3 = some v3 ∧ W.cell? p4 = some v4 ∧ W.cell? p5 = some v5) (k : Kept W X) :
    Kept w X ∧ X.cell? p0 = some v0 ∧ X.cell? p1 = some v1 ∧ X.cell? p2 = some v2 ∧ X.cell? p3 = some v3 ∧ X.cell? p4 = some v4 ∧ X.cell? p5 = some v5 := by
  obtain ⟨h, h0, h1, h2, h3, h4, h5⟩ := h
  exact ⟨h.trans k, (k.cell (World.block_lt_of_cell? _ _ h0)).trans h0, (k.cell (World.block_lt_of_cell? _ _ h1)).trans h1, (k.cell (World.block_lt_of_cell? _ _ h2)).trans h2, (k.cell (World.block_lt_of_cell? _ _ h3)).trans h3, (k.cell (World.block_lt_of_cell? _ _ h4)).trans h4, (k.cell (World.block_lt_of_cell? _ _ h5)).trans h5⟩
theorem own_len {w : World} {base : Nat} {e : TypeId} {size : Nat} {v : Value} {m : Nat} {xs : List Value} (h : w.ownsRow base e size v m xs) : ∃ o cap, v = .slice o m cap := by
  rcases h.2 with ⟨hv, h0⟩ | ⟨g, cap, cur, hv, _⟩
  · exact ⟨none, 0, by rw [hv, h0]⟩
  · exact ⟨_, cap, hv⟩
set_option maxHeartbeats 4000000 in
theorem refCollect_ok (b off n cap : Nat) (I : Nat → Item) (room : Int) (wrap : Bool) (w : World) (hw : ItemsAt w b off n I) (hn : n ≤ 32) (hm : allI I n = true) (hr : inB 0 4194304 room = true) :
    Calls Try.prog 19 #[.slice (some ⟨b, off, none⟩) n cap, .int .i64 room, .bool wrap] w fun e w' => ∃ u, e = .returned (.tuple #[u, .int .i64 0]) ∧ w'.ownsRow w.heap.size 3 1 u (linC (outS I) room wrap n).m (ones (linC (outS I) room wrap n).Z (linC (outS I) room wrap n).m) ∧ Kept w w' := by
  obtain ⟨i0, hi, hz0, hz1, hz2⟩ := info_parts intInfo1
  have HO := Lib.hid (outS_bd hm)
  have HB := Lib.hid (fun i hi => wishS_bd (allI_yes hm i hi))
  have HX := Lib.hid (fun i hi => itemB_parts (allI_yes hm i hi))
  have HL := Lib.hid (fun k (hk : k ≤ n) => linC_l (room := room) (wrap := wrap) (outS_bd hm) (by decide) k hk)
  have HM := Lib.hid (fun k => linC_m (outS I) room wrap k)
  have HZ := Lib.hid (fun k => linC_Z (outS I) room wrap k)
  have HMY := Lib.hid (mayI_true.2 ⟨hn, hm⟩)
  clear hm
  have hk : Kept w w := Kept.refl w
  go_enter Try.func19, Try.ntmps19
  go_wp2_with fail
  refine ((show Calls Try.prog 22 #[.slice (some ⟨b, off, none⟩) n cap] w _ from by have := refItemsMay_any (.slice (some ⟨b, off, none⟩) n cap) n I w (.inr ⟨b, off, cap, rfl, hw⟩) (by omega); rw [HMY.out] at this; exact this)).mono ?_
  rintro e w1 ⟨rfl, hn⟩
  replace hk := hk.trans hn
  clear hn
  go_wp2_with fail
  refine (room11_any _ _).mono ?_
  rintro e w1 ⟨rfl, rfl⟩
  go_wp2
  clear hr
  go_loopw [8, 9, 10, 11] (fun v l i _ wx => ∃ k : Nat, k ≤ n ∧ i = .int .i64 k ∧ l = .int .i64 (linC (outS I) room wrap k).l ∧ OR wx w.heap.size 3 1 v (linC (outS I) room wrap k).m (ones (linC (outS I) room wrap k).Z (linC (outS I) room wrap k).m) ∧ Kept w wx) (fun _ _ i _ _ => n - (intOf i).toNat)
  case atStart => exact ⟨0, Nat.zero_le _, rfl, rfl, ⟨World.ownsRow_nil _ _ _ _⟩, hk⟩
  case round =>
    clear hk
    obtain ⟨k, hkn, rfl, rfl, hown, hk⟩ := hrel
    by_cases hlt : k < n
    · have hi1 : (k : Int) < (n : Int) := by omega
      have c0 := (hw.kept hk).base k hlt
      have c1 := (hw.kept hk).min k hlt
      have c2 := (hw.kept hk).max k hlt
      have c3 := (hw.kept hk).grow k hlt
      have c4 := (hw.kept hk).shrink k hlt
      have c5 := (hw.kept hk).extra k hlt
      have b1 := HO.out k hlt
      have b2 := HB.out k hlt
      have b3 := (HX.out k hlt).2.2.2.2.2
      have b4 := HL.out k hkn
      have b5 := HM.out k
      have b6 := HZ.out k ((linC (outS I) room wrap k).m - 1)
      have hstep : linC (outS I) room wrap (k + 1) = linStep room wrap (linC (outS I) room wrap k) (outS I k) := rfl
      have ho : wishS (I k) + (I k).extra = outS I k := rfl
      clear HO HB HX HL HM HZ
      obtain ⟨⟨m, Z, l⟩, hc⟩ : ∃ c, linC (outS I) room wrap k = c := ⟨_, rfl⟩
      obtain ⟨⟨m2, Z2, l2⟩, hc2⟩ : ∃ c, linC (outS I) room wrap (k + 1) = c := ⟨_, rfl⟩
      rw [hc2] at hstep
      rw [hc] at hown b4 b5 b6 hstep ⊢
      generalize outS I k = x at *
      generalize I k = y at *
      dsimp only at hown b4 b5 b6 ⊢
      have hb4 : -268435456 ≤ l ∧ l ≤ 268435456 := by omega
      clear b4
      have Hc2 := Lib.hid hc2
      clear hc hc2
      have HS := Lib.hid hstep
      clear hstep
      go_wp2_with fail
      have hwx : IntKind.i64.wrap x = x := IntWalk.i64_in _ (by omega)
      have hS := heldAt ⟨Kept.refl wr, c0, c1, c2, c3, c4, c5⟩ (Kept.refl _).drew
      go_region_held3 (fun W => Kept wr W ∧ W.cell? ⟨b, off + k * 6, none⟩ = some (.int .i64 y.base) ∧ W.cell? ⟨b, off + k * 6 + 1, none⟩ = some (.int .i64 y.min) ∧ W.cell? ⟨b, off + k * 6 + 2, none⟩ = some (.int .i64 y.max) ∧ W.cell? ⟨b, off + k * 6 + 3, none⟩ = some (.int .i64 y.grow) ∧ W.cell? ⟨b, off + k * 6 + 4, none⟩ = some (.int .i64 y.shrink) ∧ W.cell? ⟨b, off + k * 6 + 5, none⟩ = some (.int .i64 y.extra))
        (first | exact hS | assumption | exact heldAt ‹Kept wr _ ∧ _› hn)
        (first
          | (go_at_call 36; (with_reducible refine (refWish_any y _).mono ?_); rintro e w3 ⟨rfl, hn⟩))
      have hq := (‹Kept wr _ ∧ _›).1
      replace hown := hown.kept hq
      replace hk := hk.trans hq
      have hsz := hk.size
      clear hS hq hn c0 c1 c2 c3 c4 c5 hwx b2 b3 ho
      by_cases hnew : colNew room wrap m l x = true
      · have e := HS.out.trans (linStep_yes (c := ⟨m, Z, l⟩) hnew)
        injection e with e1 e2 e3
        subst e1 e2 e3
        rcases Nat.eq_zero_or_pos m with h0 | h0
        · subst h0
          obtain ⟨so, sc, rfl⟩ := own_len hown.own
          clear b6 b5 hnew
          go_wp2_with (at_builtin; refine wpList_append_own _ rfl _ _ 45 rfl w.heap.size 3 i0 (.int .i64 0) 1 8 Try.underlying45 hi hz0 hz1 hz2 rfl (by decide) _ _ _ rfl (hown.own.alloc _) ⟨w3.heap.size, 0, none⟩ 1 1 [.int .i64 0] rfl rfl (lit_cells w3 #[.int .i64 0] 3) (by simp [Value.oneCell']) (by unfold maxLen; omega) (by omega) (by simp; omega) ?_; intro v2 w2 hown2 hg2 _; obtain ⟨g, cp, rfl, hgc, hgb, hgl⟩ := own_shape hown2 (by omega); have q0 : w2.cell? ⟨g, 0, none⟩ = some (.int .i64 0) := (hown2.cellAt 0 (by omega)).trans (by simp [ones_length]); have q1 := hown2.frozenAt 0)
          exact ⟨⟨k + 1, by omega, by first | rfl | go_num, by rw [Hc2.out], by rw [Hc2.out]; exact col_new hown2, ((hk.alloc _).grown hg2 (row_ge hown.own)).set hgb _⟩, by first | (simp [intOf]; done) | (simp [intOf]; omega)⟩
        · obtain ⟨so, sc, rfl⟩ := own_len hown.own
          have hk0 : ((m : Int) == 0) = false := by simp; omega
          cases wrap with
          | false => exfalso; unfold colNew at hnew; rw [if_neg (by omega), if_neg (by decide)] at hnew; cases hnew
          | true =>
            have hgt : room < l + l2 := by unfold colNew at hnew; rw [if_neg (by omega), if_pos rfl] at hnew; simpa using hnew
            clear hnew
            go_wp2_with (at_builtin; refine wpList_append_own _ rfl _ _ 45 rfl w.heap.size 3 i0 (.int .i64 0) 1 8 Try.underlying45 hi hz0 hz1 hz2 rfl (by decide) _ _ _ rfl (hown.own.alloc _) ⟨w3.heap.size, 0, none⟩ 1 1 [.int .i64 0] rfl rfl (lit_cells w3 #[.int .i64 0] 3) (by simp [Value.oneCell']) (by unfold maxLen; omega) (by omega) (by simp; omega) ?_; intro v2 w2 hown2 hg2 _; obtain ⟨g, cp, rfl, hgc, hgb, hgl⟩ := own_shape hown2 (by omega); have q0 : w2.cell? ⟨g, m, none⟩ = some (.int .i64 0) := (hown2.cellAt m (by omega)).trans (by simp [ones_length]); have q1 := hown2.frozenAt m)
            exact ⟨⟨k + 1, by omega, by first | rfl | go_num, by rw [Hc2.out], by rw [Hc2.out]; exact col_new hown2, ((hk.alloc _).grown hg2 (row_ge hown.own)).set hgb _⟩, by first | (simp [intOf]; done) | (simp [intOf]; omega)⟩
      · have hnew' : colNew room wrap m l x = false := by simpa using hnew
        have e := HS.out.trans (linStep_no (c := ⟨m, Z, l⟩) hnew')
        have hm1 : 0 < m := by
          rcases Nat.eq_zero_or_pos m with h | h
          · subst h; simp [colNew] at hnew'
          · exact h
        obtain ⟨m, rfl⟩ : ∃ q, m = q + 1 := ⟨m - 1, by omega⟩
        injection e with e1 e2 e3
        have hk0 : ((m : Int) + 1 == 0) = false := by simp; omega
        obtain ⟨g, cp, rfl, hgc, hgb, hgl⟩ := own_shape hown.own (by omega)
        have q0 : w3.cell? ⟨g, m, none⟩ = some (.int .i64 (Z m)) := (hown.own.cellAt m (by omega)).trans (ones_at Z (m + 1) m (by omega))
        have q1 := hown.own.frozenAt m
        have b6' : 0 ≤ Z m ∧ Z m ≤ (k : Int) := b6
        have he : OR (w3.setCell ⟨g, m, none⟩ (.int .i64 (Z m + 1))) w.heap.size 3 1 (.slice (some ⟨g, 0, none⟩) (m + 1) cp) m2 (ones Z2 m2) := by subst e1 e2; exact col_more hown.own
        replace e3 := Lib.hid e3
        clear b6 e2 hnew e1
        have He := Lib.hid he
        clear he
        replace hown := Lib.hid hown
        generalize Z m = z at *
        cases wrap with
        | false =>
          clear hnew'
          go_wp2
          exact ⟨⟨k + 1, by omega, by first | rfl | go_num, by rw [Hc2.out, e3.out], by rw [Hc2.out]; exact He.out, hk.set hgb _⟩, by first | (simp [intOf]; done) | (simp [intOf]; omega)⟩
        | true =>
          have hle : l + x ≤ room := by unfold colNew at hnew'; rw [if_neg (by omega), if_pos rfl] at hnew'; simpa using hnew'
          clear hnew'
          go_wp2
          exact ⟨⟨k + 1, by omega, by first | rfl | go_num, by rw [Hc2.out, e3.out], by rw [Hc2.out]; exact He.out, hk.set hgb _⟩, by first | (simp [intOf]; done) | (simp [intOf]; omega)⟩
    · obtain rfl : k = n := by omega
      go_wp2
      go_ret2
      exact ⟨_, rfl, hown.own, hk⟩
end Go.Proofs.Ytpjppnomfponfaa
