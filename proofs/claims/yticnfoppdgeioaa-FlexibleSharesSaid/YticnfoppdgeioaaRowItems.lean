/- Rows of forme/api.Item: copied, lent, compared, kept, written over. -/
import Derived.Test.YticnfoppdgeioaaRow
import Derived.Deep.QuietTactic
import Derived.BigQuiet
import Derived.Laws.MakeOwn
namespace Go.Proofs.Yticnfoppdgeioaa
open Go.RowKit Go.Deep Go.ChangeShapes Go.WideShapes
set_option linter.unusedSimpArgs false
set_option linter.unusedVariables false
theorem itemsInfo : (Try.prog.info? 38).map (fun i => (i.zero, i.size, i.bytes)) = some (some (.agg #[.int .i64 0, .int .i64 0, .int .i64 0, .int .i64 0, .int .i64 0, .int .i64 0]), 6, 48) := by kernel_rfl
theorem makeItems (m : Int) (M : Nat) (h0 : 0 ≤ m) (h1 : m ≤ 100000) (hM : m.toNat = M) (w : World) :
    (Instr.makeSlice 22 (.int .i64 m) (.int .i64 m)).run Try.prog w = .ok (.slice (some ⟨w.heap.size, 0, none⟩) M M) (w.alloc (.cells (madeCells #[.int .i64 0, .int .i64 0, .int .i64 0, .int .i64 0, .int .i64 0, .int .i64 0] (M * 6)) 38)) := by
  obtain ⟨i0, hi, hz0, hz1, hz2⟩ := info_parts itemsInfo
  have := run_make (P := Try.prog) w 22 38 i0 _ Try.underlying22 hi hz0 .i64 .i64 m m h0 (Int.le_refl _) (by rw [hz2]; omega) (by omega)
  rw [hM, hz1] at this
  exact this
theorem madeItems {w : World} {b M : Nat} {t : TypeId} (h : Own w b t (madeCells #[.int .i64 0, .int .i64 0, .int .i64 0, .int .i64 0, .int .i64 0, .int .i64 0] (M * 6))) (hp : 0 < M) : RV 6 w (.slice (some ⟨b, 0, none⟩) M M) M (intC fun _ _ => 0) :=
  .inr ⟨b, 0, M, rfl, hp, Nat.le_refl _, rowAt_own h fun i j hi hj => made_row rfl rfl (by decide) i j hi hj⟩
def itemsX (j : Nat) : Value := .int .i64 (if j = 0 then 77777 else 0)
set_option maxHeartbeats 1000000 in
theorem copyItems_some (b off n cap : Nat) (C : Nat → Nat → Value) (hC : ∀ i j, (C i j).oneCell' = true) (w : World) (hw : RowAt w b off 6 n C) (hb : n ≤ 2932031007317) :
    Calls Try.prog 19 #[.slice (some ⟨b, off, none⟩) n cap] w fun e w' => ∃ v, e = .returned v ∧ w'.ownsRow w.heap.size 38 6 v n (flat 6 C n) ∧ Kept w w' := by
  obtain ⟨i0, hi, hz0, hz1, hz2⟩ := info_parts itemsInfo
  go_enter Try.func19, Try.ntmps19
  go_wp2_with (at_builtin; refine wpList_append_own _ rfl _ _ 22 rfl w.heap.size 38 i0 (.agg #[.int .i64 0, .int .i64 0, .int .i64 0, .int .i64 0, .int .i64 0, .int .i64 0]) 6 48 Try.underlying22 hi hz0 hz1 hz2 rfl (by decide) _ _ _ rfl (World.ownsRow_made w #[] 0 (Nat.le_refl _) (by decide) (by simp)) ⟨b, off, none⟩ n cap (flat 6 C n) rfl (flat_length _ _ _) (flat_cells (hw.kept ((Kept.refl w).alloc _))) (flat_one hC n) (by unfold maxLen; omega) (by omega) (by simp) ?_; intro v2 w2 hown2 hg2 _)
  go_ret
  refine ⟨_, rfl, by simpa using hown2, ?_⟩
  exact ((Kept.refl w).alloc _).grown hg2 (row_ge (World.ownsRow_made w #[] 0 (Nat.le_refl _) (by decide) (by simp) (e := 38) (size := 6)))
set_option maxHeartbeats 1000000 in
theorem copyItems_none (o : Option Addr) (cap : Nat) (w : World) :
    Calls Try.prog 19 #[.slice o 0 cap] w fun e w' => ∃ v, e = .returned v ∧ w'.ownsRow w.heap.size 38 6 v 0 [] ∧ Kept w w' := by
  obtain ⟨i0, hi, hz0, hz1, hz2⟩ := info_parts itemsInfo
  have hown := World.ownsRow_made w #[] 0 (Nat.le_refl _) (by decide) (by simp) (e := 38) (size := 6)
  cases o with
  | none =>
    go_enter Try.func19, Try.ntmps19
    go_wp2_with (at_builtin; refine append_nothing _ rfl _ _ 22 rfl 38 i0 Try.underlying22 hi _ _ _ rfl rfl ?_)
    go_ret
    exact ⟨_, rfl, hown, (Kept.refl w).alloc _⟩
  | some ad =>
    go_enter Try.func19, Try.ntmps19
    go_wp2_with (at_builtin; refine wpList_append_own _ rfl _ _ 22 rfl w.heap.size 38 i0 (.agg #[.int .i64 0, .int .i64 0, .int .i64 0, .int .i64 0, .int .i64 0, .int .i64 0]) 6 48 Try.underlying22 hi hz0 hz1 hz2 rfl (by decide) _ _ _ rfl hown ad 0 cap [] rfl rfl (fun j u hu => by cases hu) (fun u hu => by cases hu) (by decide) (by decide) (by simp) ?_; intro v2 w2 hown2 hg2 _)
    go_ret
    refine ⟨_, rfl, by simpa using hown2, ?_⟩
    exact ((Kept.refl w).alloc _).grown hg2 (row_ge hown)
theorem copyItems_any (v : Value) (n : Nat) (C : Nat → Nat → Value) (hC : ∀ i j, (C i j).oneCell' = true) (w : World) (h : RV 6 w v n C) (hb : n ≤ 2932031007317) :
    Calls Try.prog 19 #[v] w fun e w' => ∃ v, e = .returned v ∧ w'.ownsRow w.heap.size 38 6 v n (flat 6 C n) ∧ Kept w w' := by
  rcases h with ⟨rfl, o, cap, rfl⟩ | ⟨b, off, cap, rfl, h2, h3, hw⟩
  · exact copyItems_none o cap w
  · exact copyItems_some b off n cap C hC w hw hb
set_option maxHeartbeats 1000000 in
theorem lendItems_any (sl : Option Addr) (n cap : Nat) (C : Nat → Nat → Value) (hC : ∀ i j, (C i j).oneCell' = true) (w : World) (h : RV 6 w (.slice sl n cap) n C) (hb : n ≤ 2932031007317) :
    Calls Try.prog 10 #[.slice sl n cap] w fun e w' => ∃ v, e = .returned v ∧ LentRow 38 6 itemsX w' v n C ∧ Kept w w' := by
  obtain ⟨i0, hi, hz0, hz1, hz2⟩ := info_parts itemsInfo
  have hk : Kept w w := Kept.refl w
  go_enter Try.func10, Try.ntmps10
  go_wp2_with fail
  refine (copyItems_any _ n C hC _ h hb).mono ?_
  rintro e w1 ⟨v, rfl, hown, hn⟩
  replace hk := hk.trans hn
  clear hn
  go_wp2_with (at_builtin; refine wpList_append_own _ rfl _ _ 22 rfl w.heap.size 38 i0 (.agg #[.int .i64 0, .int .i64 0, .int .i64 0, .int .i64 0, .int .i64 0, .int .i64 0]) 6 48 Try.underlying22 hi hz0 hz1 hz2 rfl (by decide) _ _ _ rfl (hown.alloc _) ⟨w1.heap.size, 0, none⟩ 2 2 [.int .i64 77777, .int .i64 0, .int .i64 0, .int .i64 0, .int .i64 0, .int .i64 0, .int .i64 77777, .int .i64 0, .int .i64 0, .int .i64 0, .int .i64 0, .int .i64 0] rfl rfl (lit_cells w1 #[.int .i64 77777, .int .i64 0, .int .i64 0, .int .i64 0, .int .i64 0, .int .i64 0, .int .i64 77777, .int .i64 0, .int .i64 0, .int .i64 0, .int .i64 0, .int .i64 0] 38) (by simp [Value.oneCell']) (by unfold maxLen; omega) (by omega) (by simp; have := hk.size; omega) ?_; intro v2 w2 hown2 hg2 _; obtain ⟨g, cp, rfl, hgc⟩ := row_more hown2)
  go_ret
  have hkk := ((hk.alloc _).grown hg2 (row_ge hown))
  refine ⟨_, rfl, ?_, by simpa using hkk⟩
  exact lentRow_of (by rw [← flat_lent]; exact hown2)
theorem sameItems_none (o1 o2 : Option Addr) (c1 c2 : Nat) (w : World) :
    Calls Try.prog 27 #[.slice o1 0 c1, .slice o2 0 c2] w fun e w' => e = .returned (.bool true) ∧ Kept w w' := by
  go_enter Try.func27, Try.ntmps27
  go_wp2
  refine wp_loop_rounds 1 ?_
  rw [rounds_succ]
  go_wp2
  go_ret
  exact ⟨rfl, Kept.refl _⟩
set_option maxHeartbeats 1000000 in
theorem sameItems_some (b1 o1 c1 b2 o2 c2 n : Nat) (Z : Nat → Nat → Int) (w : World) (h1 : RowAt w b1 o1 6 n (intC Z)) (h2 : RowAt w b2 o2 6 n (intC Z)) (hn : n ≤ 2932031007317) :
    Calls Try.prog 27 #[.slice (some ⟨b1, o1, none⟩) n c1, .slice (some ⟨b2, o2, none⟩) n c2] w fun e w' => e = .returned (.bool true) ∧ Kept w w' := by
  go_enter Try.func27, Try.ntmps27
  go_wp2
  go_loopw [5] (fun i wx => ∃ k : Nat, k ≤ n ∧ i = .int .i64 k ∧ Kept w wx) (fun i _ => n - (intOf i).toNat)
  case atStart => exact ⟨0, Nat.zero_le _, rfl, Kept.refl _⟩
  case round =>
    obtain ⟨k, hk4, rfl, hk⟩ := hrel
    by_cases hlt : k < n
    · have x0 : wr.cell? ⟨b1, o1 + k * 6, none⟩ = some (.int .i64 (Z k 0)) := (h1.kept hk) k 0 hlt (by decide)
      have x1 : wr.cell? ⟨b1, o1 + k * 6 + 1, none⟩ = some (.int .i64 (Z k 1)) := (h1.kept hk) k 1 hlt (by decide)
      have x2 : wr.cell? ⟨b1, o1 + k * 6 + 2, none⟩ = some (.int .i64 (Z k 2)) := (h1.kept hk) k 2 hlt (by decide)
      have x3 : wr.cell? ⟨b1, o1 + k * 6 + 3, none⟩ = some (.int .i64 (Z k 3)) := (h1.kept hk) k 3 hlt (by decide)
      have x4 : wr.cell? ⟨b1, o1 + k * 6 + 4, none⟩ = some (.int .i64 (Z k 4)) := (h1.kept hk) k 4 hlt (by decide)
      have x5 : wr.cell? ⟨b1, o1 + k * 6 + 5, none⟩ = some (.int .i64 (Z k 5)) := (h1.kept hk) k 5 hlt (by decide)
      have y0 : wr.cell? ⟨b2, o2 + k * 6, none⟩ = some (.int .i64 (Z k 0)) := (h2.kept hk) k 0 hlt (by decide)
      have y1 : wr.cell? ⟨b2, o2 + k * 6 + 1, none⟩ = some (.int .i64 (Z k 1)) := (h2.kept hk) k 1 hlt (by decide)
      have y2 : wr.cell? ⟨b2, o2 + k * 6 + 2, none⟩ = some (.int .i64 (Z k 2)) := (h2.kept hk) k 2 hlt (by decide)
      have y3 : wr.cell? ⟨b2, o2 + k * 6 + 3, none⟩ = some (.int .i64 (Z k 3)) := (h2.kept hk) k 3 hlt (by decide)
      have y4 : wr.cell? ⟨b2, o2 + k * 6 + 4, none⟩ = some (.int .i64 (Z k 4)) := (h2.kept hk) k 4 hlt (by decide)
      have y5 : wr.cell? ⟨b2, o2 + k * 6 + 5, none⟩ = some (.int .i64 (Z k 5)) := (h2.kept hk) k 5 hlt (by decide)
      generalize Z k 0 = z0 at *
      generalize Z k 1 = z1 at *
      generalize Z k 2 = z2 at *
      generalize Z k 3 = z3 at *
      generalize Z k 4 = z4 at *
      generalize Z k 5 = z5 at *
      have hi0 : (0 : Int) ≤ (k : Int) := Int.natCast_nonneg _
      have hi1 : (k : Int) < (n : Int) := by omega
      go_wp2
      go_quiet (fail)
      go_wp2
      go_roundw
      case rel => exact ⟨k + 1, by omega, by go_num, (by first | ((repeat (first | with_reducible exact hk | with_reducible refine Kept.alloc ?_ _ | with_reducible refine Kept.drew ?_ | with_reducible refine Kept.drewN ?_ _ | with_reducible refine Kept.set ?_ (by first | (simp; done) | (simp; omega) | omega) _)); done) | exact hk | exact (hk.alloc _) | exact ((hk.alloc _).alloc _) | exact (((hk.alloc _).alloc _).alloc _) | exact ((((hk.alloc _).alloc _).alloc _).alloc _) | exact (((((hk.alloc _).alloc _).alloc _).alloc _).alloc _) | exact ((((((hk.alloc _).alloc _).alloc _).alloc _).alloc _).alloc _) | (repeat (first | exact hk | refine Kept.alloc ?_ _ | refine Kept.drew ?_ | refine Kept.drewN ?_ _ | refine Kept.set ?_ (by first | (simp; done) | (simp; omega) | omega) _)))⟩
      case measure => simp [intOf]; omega
    · go_wp2
      go_ret
      exact ⟨rfl, hk⟩
theorem sameItems_yes {w : World} {v1 v2 : Value} {n : Nat} {Z : Nat → Nat → Int} (h1 : RV 6 w v1 n (intC Z)) (h2 : RV 6 w v2 n (intC Z)) (hn : n ≤ 2932031007317) :
    Calls Try.prog 27 #[v1, v2] w fun e w' => e = .returned (.bool true) ∧ Kept w w' := by
  rcases h1 with ⟨rfl, o, c, rfl⟩ | ⟨b, o, c, rfl, hp, _, g1⟩ <;> rcases h2 with ⟨h0, o2, c2, rfl⟩ | ⟨b2, o2, c2, rfl, hp2, _, g2⟩
  · exact sameItems_none _ _ _ _ w
  · omega
  · omega
  · exact sameItems_some _ _ _ _ _ _ n Z w g1 g2 hn
set_option maxHeartbeats 1000000 in
theorem keptItems_yes {w : World} {v : Value} {sl : Option Addr} {n cap : Nat} {Z : Nat → Nat → Int} (h1 : LentRow 38 6 itemsX w v n (intC Z)) (h2 : RV 6 w (.slice sl n cap) n (intC Z)) (hn : n ≤ 2932031007317) :
    Calls Try.prog 16 #[v, .slice sl n cap] w fun e w' => e = .returned (.bool true) ∧ Kept w w' := by
  have hv := h1.rv
  obtain ⟨g, cp, cur, rfl, hc1, hc2, ho, hcur⟩ := h1
  have HS := Lib.hid (sameItems_yes hv h2 hn)
  clear hv h2
  have hno : ¬ (n + 1 < n) := by omega
  have q0 : w.cell? ⟨g, n * 6, none⟩ = some (.int .i64 77777) := (ho.cell _).trans ((hcur n 0 (by omega) (by decide)).trans (by simp [exC, itemsX]))
  have q1 : w.cell? ⟨g, n * 6 + 1, none⟩ = some (.int .i64 0) := (ho.cell _).trans ((hcur n 1 (by omega) (by decide)).trans (by simp [exC, itemsX]))
  have q2 : w.cell? ⟨g, n * 6 + 2, none⟩ = some (.int .i64 0) := (ho.cell _).trans ((hcur n 2 (by omega) (by decide)).trans (by simp [exC, itemsX]))
  have q3 : w.cell? ⟨g, n * 6 + 3, none⟩ = some (.int .i64 0) := (ho.cell _).trans ((hcur n 3 (by omega) (by decide)).trans (by simp [exC, itemsX]))
  have q4 : w.cell? ⟨g, n * 6 + 4, none⟩ = some (.int .i64 0) := (ho.cell _).trans ((hcur n 4 (by omega) (by decide)).trans (by simp [exC, itemsX]))
  have q5 : w.cell? ⟨g, n * 6 + 5, none⟩ = some (.int .i64 0) := (ho.cell _).trans ((hcur n 5 (by omega) (by decide)).trans (by simp [exC, itemsX]))
  have q6 : w.cell? ⟨g, (n + 1) * 6, none⟩ = some (.int .i64 77777) := (ho.cell _).trans ((hcur (n + 1) 0 (by omega) (by decide)).trans (by simp [exC, itemsX, hno]))
  have q7 : w.cell? ⟨g, (n + 1) * 6 + 1, none⟩ = some (.int .i64 0) := (ho.cell _).trans ((hcur (n + 1) 1 (by omega) (by decide)).trans (by simp [exC, itemsX, hno]))
  have q8 : w.cell? ⟨g, (n + 1) * 6 + 2, none⟩ = some (.int .i64 0) := (ho.cell _).trans ((hcur (n + 1) 2 (by omega) (by decide)).trans (by simp [exC, itemsX, hno]))
  have q9 : w.cell? ⟨g, (n + 1) * 6 + 3, none⟩ = some (.int .i64 0) := (ho.cell _).trans ((hcur (n + 1) 3 (by omega) (by decide)).trans (by simp [exC, itemsX, hno]))
  have q10 : w.cell? ⟨g, (n + 1) * 6 + 4, none⟩ = some (.int .i64 0) := (ho.cell _).trans ((hcur (n + 1) 4 (by omega) (by decide)).trans (by simp [exC, itemsX, hno]))
  have q11 : w.cell? ⟨g, (n + 1) * 6 + 5, none⟩ = some (.int .i64 0) := (ho.cell _).trans ((hcur (n + 1) 5 (by omega) (by decide)).trans (by simp [exC, itemsX, hno]))
  have Q := Lib.hid (fun wx (hx : Kept w wx) => (And.intro ((hx.cell ho.lt).trans q0) (And.intro ((hx.cell ho.lt).trans q1) (And.intro ((hx.cell ho.lt).trans q2) (And.intro ((hx.cell ho.lt).trans q3) (And.intro ((hx.cell ho.lt).trans q4) (And.intro ((hx.cell ho.lt).trans q5) (And.intro ((hx.cell ho.lt).trans q6) (And.intro ((hx.cell ho.lt).trans q7) (And.intro ((hx.cell ho.lt).trans q8) (And.intro ((hx.cell ho.lt).trans q9) (And.intro ((hx.cell ho.lt).trans q10) ((hx.cell ho.lt).trans q11)))))))))))))
  clear hno hcur q0 q1 q2 q3 q4 q5 q6 q7 q8 q9 q10 q11
  have hn0 : (0 : Int) ≤ (n : Int) := Int.natCast_nonneg _
  have hk : Kept w w := Kept.refl w
  go_enter Try.func16, Try.ntmps16
  go_wp2_with fail
  refine (HS.out).mono ?_
  rintro e w1 ⟨rfl, hn⟩
  replace hk := hk.trans hn
  clear hn
  obtain ⟨q0, q1, q2, q3, q4, q5, q6, q7, q8, q9, q10, q11⟩ := Q.out _ hk
  go_wp2
  go_ret
  exact ⟨rfl, hk⟩
end Go.Proofs.Yticnfoppdgeioaa
